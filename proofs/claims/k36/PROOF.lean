import PyProof.Rows.All
import Wide.All
import OpenK.AllK
import Wide.FinOn
import HandS.ForMost
import HandS.ExcInit
import HandS.IsInst
import HandS.RaiseMore
import HandS.Wide
import HandS.Codes
import HandS.Steps
import HandS.Zip
import HandS.Evl
import HandS.ExcIs
import KE.KExcIs
import HandS.ExcValue
import HandS.Exc
import HandS.TryMany
import KE.KDictZip
import HandS.GenList
import HandS.Gcd
import HandS.ExcField
import HandS.Lambda
import HandS.CallLocal
import HandS.Style
import HandS.StrMore
import HandS.WordsExc
import HandS.WideBits
import HandS.TryOnly
import HandS.TupAny
import HandS.EndTab
import KE.KNestM
import PySem.Challenge.RW_flowpapers_k36_whole_windings
set_option Elab.async false
set_option linter.all false
set_option maxRecDepth 100000
set_option maxHeartbeats 4000000
/-! Defs that are run where no repr is under way: what repr and == of data ask. -/
namespace GL
open PySem PySem.Spec PyProof.Rows L2

/-- nothing is being shown -/
abbrev Quiet (A : Around) : Prop := A.guards = some []

/-- as FnOk, asked only where nothing is being shown -/
structure OkG (P : Program) (w : World) (K : PySem.W.Frag) (mg : Str → Option Value) (base : Heap) (CX : CXT) (k : Nat) (f : Addr) (fd : FuncData) (ps : List Str) (sp : Sp) : Prop where
  len : ∀ vs H Q E, sp vs H Q E → vs.length = ps.length
  run : ∀ (A : Around) (outer : List Env) (s : Shared) (H : Hp) (args : Args) (us : List Value) (vs : List V) (Q : VK) (E : XK), Room k A → Quiet A → Env0 P w K mg base A outer s H →
    BindsTo s fd args (ps.zip us) → Vals vs us → sp vs H Q E → codeAny (model P w) A (.call (.ref f) args) (CR CX outer P w H s Q E) s

section
variable {P : Program} {w : World} {K : PySem.W.Frag} {mg : Str → Option Value} {base : Heap} {CX : CXT} {k : Nat} {f : Addr} {fd : FuncData} {ps : List Str} {sp : Sp}
theorem OkG.of (F : FnOk P w K mg base CX k f fd ps sp) : OkG P w K mg base CX k f fd ps sp :=
  ⟨F.len, fun A outer s H args us vs Q E hr _ e0 hb r h => F.run A outer s H args us vs Q E hr e0 hb r h⟩
theorem OkG.mono {j : Nat} (F : OkG P w K mg base CX j f fd ps sp) (h : j ≤ k) : OkG P w K mg base CX k f fd ps sp :=
  ⟨F.len, fun A outer s H args us vs Q E hr hq e0 hb r z => F.run A outer s H args us vs Q E (hr.mono h) hq e0 hb r z⟩

/-- a def by its body, where nothing is being shown -/
theorem okG {x qual : Str} {st : Stmt} {N : List Str} (F : Fun K x qual st f fd) (S : FnScope N ps (defScope st)) (len : ∀ vs H Q E, sp vs H Q E → vs.length = ps.length)
    (body : ∀ (cdv : Value) (A : Around) (outer : List Env) (s : Shared) (H : Hp) (vs : List V) (Q : VK) (E : XK), Room k (A.deeper (envOfC qual (defScope st) s.heap.objs.size f cdv)) → Quiet A → sp vs H Q E →
      ∃ t, PSs (cxOf CX P w K mg base N qual (defScope st) f cdv A outer s H E) (defBody st) t ∧ t { nx := fun _ H' => Q .non H', rt := Q } (start N vs) H) :
    OkG P w K mg base CX (k + 1) f fd ps sp := by
  obtain ⟨oc, od, kV, doc, pm, an, cdv, ct, osl, rfl, lk, hcd⟩ := F.ex
  refine ⟨len, fun A outer s H args us vs Q E hr hq e0 hb r hsp => ?_⟩
  have enough := len _ _ _ _ hsp
  have inK : K.In s.heap := e0.mod.kin.keeps (fun b o e => (e0.bs b o e).1)
  have nl : s.heap.NoLimit := e0.mod.nolimit.keeps (fun b o e => (e0.bs b o e).1)
  refine codeAny_call_function hr.depth (inK _ _ lk) rfl S.co S.gen rfl (PySem.W.codeRec_of inK hcd) (hb _ _ _ _ ?_)
  refine wpAny_newFunctionEnv_cells S.kind ?_ (fun env he s1 x => ?_)
  · rintro ⟨n, v⟩ hy
    cases S.par n (List.of_mem_zip hy).1 with
    | inl q => exact .inl q
    | inr q => exact .inr ⟨q, PySem.W.cellsFrom_some _ _ _ (.inl q)⟩
  subst he
  refine ⟨nl.keeps x.toInCall.keep, codeAny_func ?_⟩
  obtain ⟨t, ht, hT⟩ := body cdv A outer s H vs Q E (hr.deeper _) hq hsp
  have I0 := inv_start (CX := CX) (E := E) S hr.hd e0 enough r x
  refine wpAny_mono (ht.run [] s1 (start N vs) H _ I0 hT) (fun fl s' hs => ?_) (fun e s' hs => hs)
  cases fl with
  | ret u =>
    obtain ⟨v, _, H', J, rv, q⟩ := hs
    exact ⟨v, H', J.os, J.bare, J.base, J.hok, rv, q⟩
  | next =>
    obtain ⟨_, H', J, q⟩ := hs
    exact ⟨V.non, H', J.os, J.bare, J.base, J.hok, rfl, q⟩
  | brk => obtain ⟨_, _, _, q⟩ := hs; exact q.elim
  | cont => obtain ⟨_, _, _, q⟩ := hs; exact q.elim
end

/-- .. from which no exception leaves -/
theorem okG0 {P : Program} {w : World} {K : PySem.W.Frag} {mg : Str → Option Value} {base : Heap} {k : Nat} {f : Addr} {fd : FuncData} {ps : List Str} {sp : Sp} {x qual : Str} {st : Stmt} {N : List Str} (F : Fun K x qual st f fd) (S : FnScope N ps (defScope st))
    (len : ∀ vs H Q E, sp vs H Q E → vs.length = ps.length)
    (body : ∀ (cdv : Value) (A : Around) (outer : List Env) (s : Shared) (H : Hp) (vs : List V) (Q : VK) (E : XK), Room k (A.deeper (envOfC qual (defScope st) s.heap.objs.size f cdv)) → Quiet A → sp vs H Q E →
      ∃ t, PSs (cxOf CX0 P w K mg base N qual (defScope st) f cdv A outer s H E).nox (defBody st) t ∧ t { nx := fun _ H' => Q .non H', rt := Q } (start N vs) H) : OkG P w K mg base CX0 (k + 1) f fd ps sp :=
  okG F S len fun cdv A outer s H vs Q E hr hq h => by
    obtain ⟨t, h1, h2⟩ := body cdv A outer s H vs Q E hr hq h
    exact ⟨t, h1.nox, h2⟩
section
variable {X : Cx} {CX : CXT} {k : Nat} {f : Addr} {fd : FuncData} {ps : List Str} {sp : Sp} {dvs : List V} {ds : List Value} {E : XK}
/-- a call of such a def -/
theorem run_fnG {pins : List (Addr × Obj)} {σ : L2.St} {H : Hp} {s : Shared} {Q : VK} {us : List Value} {vs : List V} (F : OkG X.prog X.w X.K X.mg X.base CX k f fd ps sp) (hr : Room k X.A) (hq : Quiet X.A)
    (hb : Binds X.K fd ps ds) (hd : Vals dvs ds) (hx : Passes CX X E) (I : Inv X pins σ H s) (r : Vals vs us) (h : sp (vs ++ dvs) H Q E) :
    wpAny (model X.prog X.w) X.A (call (.ref f) us) (EP X pins σ Q) X.xe s := by
  have both := r.append hd
  have hl : (us ++ ds).length = ps.length := both.length.symm.trans (F.len _ _ _ _ h)
  have run := F.run X.A X.stack s H ⟨us, []⟩ (us ++ ds) (vs ++ dvs) Q E hr hq I.env0 (hb s us I.kIn hl) both h
  refine wpAny_call (codeAny_mono run fun r s' z => ?_)
  cases r with
  | error e => exact hx pins σ H s e s' I z
  | ok fl => cases fl with
    | ret u => exact I.after z
    | next => exact z.elim
    | brk => exact z.elim
    | cont => exact z.elim
variable {x : Str} {p pos : Pos} {e : Expr} {es : List Expr} {t : TA}
theorem pe_callG (F : OkG X.prog X.w X.K X.mg X.base CX k f fd ps sp) (hr : Room k X.A) (hq : Quiet X.A) (hg : Gl X x) (hm : X.mg x = some (.ref f)) (hk : PySem.W.keepIn X.K (.ref f) = true)
    (hb : Binds X.K fd ps ds) (hd : Vals dvs ds) (hx : Passes CX X E) (ha : PA X (e :: es) t) (hdb : (x == ("__debug__" : Str)) = false := by decide)
    (he : starEach (e :: es) X.env = (false, eval e X.env) :: starEach es X.env := by rfl) (hpl : (backTo pos (starEach es X.env)).any (·.1) = false := by rfl) :
    PE X (.Call (.Name x p) (e :: es) [] pos) (tCall sp dvs E t) :=
  ⟨fun pins s σ H Q I h => wpAny_Call_Name_kw (ld_glob I hg hm (PySem.W.callWith_K (h₀ := X.base) I.ok.mod.kin hk
    (thn (ha.run pos pins s σ H _ I h) fun us s1 ⟨vs, H1, I1, r, q⟩ => ⟨I1.kIn, run_fnG F hr hq hb hd hx I1 r q⟩) he hpl) hdb)⟩
end

/-! ### repr -/
/-- repr of data that can be shown -/
def rRepr (K : PySem.W.Frag) : List V → Hp → VK → Prop := fun xs H Q => ∃ (v : V) (d : PyData), xs = [v] ∧ Dp K H v d ∧ d.showable = true ∧ d.hasDict = false ∧ d.depth ≤ 40 ∧ d.shown.length ≤ sizeLine ∧ Q (.str d.shown) H
theorem call_repr {X : Cx} (hq : Quiet X.A) (hu : X.A.units + 64 < cLine) : CallR X (.builtin "repr") (rRepr X.K) := by
  intro pins s σ H xs us Q I r h
  obtain ⟨v, d, rfl, hd, hs, hn, hp, hz, q⟩ := h
  cases r with
  | cons rv rn =>
    rename_i u us'
    cases rn
    obtain ⟨as, rd⟩ := Dp.reads I d v u hd rv
    cases hd with
    | non => cases rv; exact PySem.P.repr_of_none ⟨.str _, H, I.tok _, ⟨_, rfl⟩, q⟩
    | bl b => cases rv; exact PySem.P.repr_of_bool ⟨.str _, H, I.tok _, ⟨_, rfl⟩, q⟩
    | int i =>
      obtain ⟨t, rfl⟩ := rv
      exact PySem.P.repr_of_int (of_decide_eq_true hs) ⟨.str _, H, I.tok _, ⟨_, rfl⟩, q⟩
    | str x =>
      obtain ⟨t, rfl⟩ := rv
      exact PySem.P.repr_of_str ⟨.str _, H, I.tok _, ⟨_, rfl⟩, q⟩
    | lst a b =>
      cases rv
      exact repr_of_reads' rd hs (PyData.noDict_hsm hn) hq (by omega) (fun _ _ e => e) (fun h' u tk hk => ⟨.str _, H, I.kept hk, ⟨_, rfl⟩, q⟩) hz
    | tup a b =>
      cases rv
      exact repr_of_reads' rd hs (PyData.noDict_hsm hn) hq (by omega) (fun _ _ e => e) (fun h' u tk hk => ⟨.str _, H, I.kept hk, ⟨_, rfl⟩, q⟩) hz

/-! ### values at a heap that stays -/
section
variable {σ : L2.St} {H : Hp} {i : Nat} {v x y z : V} {ta tb te tv : TE} {b : Bool} {K : PySem.W.Frag} {D : Ends} {p : Addr} {kvs : List (Key × V)} {k : Key}
theorem v_I0 {g : Int → Int → V} {i j : Int} (ha : Val ta σ H (.int i)) (hb : Val tb σ H (.int j)) : Val (tOp (rI0 g) ta tb) σ H (g i j) := val_op ha hb fun Q q => ⟨i, j, rfl, rfl, q⟩
theorem v_I {C : Int → Int → Prop} {g : Int → Int → V} {i j : Int} (ha : Val ta σ H (.int i)) (hb : Val tb σ H (.int j)) (hc : C i j) : Val (tOp (rI C g) ta tb) σ H (g i j) := val_op ha hb fun Q q => ⟨i, j, rfl, rfl, hc, q⟩
theorem v_add {i j : Int} (ha : Val ta σ H (.int i)) (hb : Val tb σ H (.int j)) : Val (tOp (rI0 fun i j => .int (i + j)) ta tb) σ H (.int (i + j)) := v_I0 ha hb
theorem v_sub {i j : Int} (ha : Val ta σ H (.int i)) (hb : Val tb σ H (.int j)) : Val (tOp (rI0 fun i j => .int (i - j)) ta tb) σ H (.int (i - j)) := v_I0 ha hb
theorem v_mul {C : Int → Int → Prop} {i j : Int} (ha : Val ta σ H (.int i)) (hb : Val tb σ H (.int j)) (hc : C i j) : Val (tOp (rI C fun i j => .int (i * j)) ta tb) σ H (.int (i * j)) := v_I ha hb hc
theorem v_pow {i j : Int} (ha : Val ta σ H (.int i)) (hb : Val tb σ H (.int j)) (hc : 0 ≤ j ∧ j ≤ 1000000 ∧ i.natAbs < 2 ^ 64) : Val (tOp (rI CPow fun i j => .int (i ^ j.toNat)) ta tb) σ H (.int (i ^ j.toNat)) := v_I ha hb hc
theorem v_mod {C : Int → Int → Prop} {i j : Int} (ha : Val ta σ H (.int i)) (hb : Val tb σ H (.int j)) (hc : C i j) : Val (tOp (rI C fun i j => .int (i % j)) ta tb) σ H (.int (i % j)) := v_I ha hb hc
theorem v_div {C : Int → Int → Prop} {i j : Int} (ha : Val ta σ H (.int i)) (hb : Val tb σ H (.int j)) (hc : C i j) : Val (tOp (rI C fun i j => .int (i / j)) ta tb) σ H (.int (i / j)) := v_I ha hb hc
theorem v_fmod {C : Int → Int → Prop} {i j : Int} (ha : Val ta σ H (.int i)) (hb : Val tb σ H (.int j)) (hc : C i j) : Val (tOp (rI C fun i j => .int (i.fmod j)) ta tb) σ H (.int (i.fmod j)) := v_I ha hb hc
theorem v_fdiv {C : Int → Int → Prop} {i j : Int} (ha : Val ta σ H (.int i)) (hb : Val tb σ H (.int j)) (hc : C i j) : Val (tOp (rI C fun i j => .int (i.fdiv j)) ta tb) σ H (.int (i.fdiv j)) := v_I ha hb hc
theorem v_get (h : Val te σ H (.ref p)) (hp : H p = some (.dK kvs)) (hv : valV kvs k = some v) : Val (tDGet te (tC (kV k))) σ H v := fun Q q => h _ ⟨p, v, rfl, .inl ⟨kvs, k, .inl hp, rfl, hv.symm⟩, q⟩
theorem v_int1 {i : Int} (h : Val te σ H (.int i)) : Val (tCB (fun xs H Q => (∃ i, xs = [.int i] ∧ Q (.int i) H) ∨ ∃ k, xs = [.bl k] ∧ Q (.int (if k then 1 else 0)) H) (tCons te tNil)) σ H (.int i) :=
  fun Q q => h _ (.inl ⟨i, rfl, q⟩)
theorem v_len {xs : List V} (h : Val te σ H (.ref p)) (hx : SqL K H p xs ∨ SqT K H p xs) : Val (tCB (fun xs H Q => ∃ p ys, xs = [.ref p] ∧ (SqL K H p ys ∨ SqT K H p ys) ∧ Q (.int ys.length) H) (tCons te tNil)) σ H (.int (xs.length : Int)) :=
  fun Q q => h _ ⟨p, xs, rfl, hx, q⟩
theorem v_ixL {xs : List V} {n : Nat} (h : Val te σ H (.ref p)) (hi : Val tb σ H (.int (n : Int))) (hx : SqL K H p xs) (he : xs[n]? = some v) : Val (tOp (rIxL K) te tb) σ H v :=
  val_op h hi fun Q q => ⟨p, xs, n, v, rfl, rfl, hx, atI_nat he, q⟩
theorem v_ixT {xs : List V} {n : Nat} (h : Val te σ H (.ref p)) (hi : Val tb σ H (.int (n : Int))) (hx : SqT K H p xs) (he : xs[n]? = some v) : Val (tOp (rIxT K) te tb) σ H v :=
  val_op h hi fun Q q => ⟨p, xs, n, v, rfl, rfl, hx, atI_nat he, q⟩
/-- values of an argument list -/
def VA (ta : TA) (σ : L2.St) (H : Hp) (vs : List V) : Prop := ∀ Q : List V → Hp → Prop, Q vs H → ta σ H Q
theorem va_nil : VA tNil σ H [] := fun _ q => q
theorem va_cons {tr : TA} {vs : List V} (h : Val te σ H v) (hr : VA tr σ H vs) : VA (tCons te tr) σ H (v :: vs) := fun Q q => h _ (hr _ q)
theorem l_lst {ta : TA} {vs : List V} {Q : VK} (h : VA ta σ H vs) (hl : vs.length ≤ 100000) (q : ∀ p, H p = none → Q (.ref p) (upd H p (.lst vs))) : tLst ta σ H Q := h _ ⟨Nat.le_trans hl (by decide), q⟩
theorem l_tup {ta : TA} {vs : List V} {Q : VK} (h : VA ta σ H vs) (hl : vs.length ≤ 100000) (q : ∀ p, H p = none → Q (.ref p) (upd H p (.tup vs))) : tTup ta σ H Q := h _ ⟨Nat.le_trans hl (by decide), q⟩
theorem v_cb {r : List V → Hp → VK → Prop} {ta : TA} {vs : List V} {z : V} (h : VA ta σ H vs) (hr : ∀ Q : VK, Q z H → r vs H Q) : Val (tCB r ta) σ H z := fun Q q => h _ (hr Q q)
theorem c_call {sp : Sp} {E : XK} {ta : TA} {vs : List V} {Q : VK} (h : VA ta σ H vs) (q : sp vs H Q E) : tCall sp [] E ta σ H Q := h _ (by rw [List.append_nil]; exact q)
theorem s_put (h0 : Val te σ H (.ref p)) (h : Val tv σ H v) (hp : H p = some (.dK kvs)) (hl : kvs.length ≤ 100) (q : D.nx σ (upd H p (.dK (putK kvs k v)))) : sDPut te (tC (kV k)) tv D σ H :=
  h _ (h0 _ ⟨p, _, rfl, DPut.k hp (Nat.lt_of_le_of_lt hl (by decide)), q⟩)
theorem a_I {g : Int → Int → Bool} {i j : Int} (ha : Val ta σ H (.int i)) (hb : Val tb σ H (.int j)) : Ans (tTest (tOp (rI0 fun i j => .bl (g i j)) ta tb)) σ H (g i j) := ans_cmp ha hb fun Q q => ⟨i, j, rfl, rfl, q⟩
theorem st_if {t : TT} {t1 t2 : TS} (h : Ans t σ H b) (h1 : b = true → t1 D σ H) (h2 : b = false → t2 D σ H) : tIfS t t1 t2 D σ H := by
  cases b with
  | true => exact st_yes h (h1 rfl)
  | false => exact st_no h (h2 rfl)
end

/-- a walk over enumerate of a list -/
theorem for_enumL {K : PySem.W.Frag} {a : Addr} {xs : List V} {g : TG} {tb : TS} {D : Ends} {σ : L2.St} {H : Hp} (Pv : Nat → L2.St → Hp → Prop) (h0 : Pv 0 σ H) (hq : ∀ i σ H, Pv i σ H → SqL K H a xs)
    (hs : ∀ (i : Nat) (x : V) (T : Addr) (σ : L2.St) (H : Hp), xs[i]? = some x → Pv i σ H → H T = none → g (.ref T) σ (upd H T (.tup [.int (i : Nat), x])) fun σ2 H2 => tb { D with nx := Pv (i + 1), ct := Pv (i + 1), bk := D.nx } σ2 H2)
    (hd : ∀ σ H, Pv xs.length σ H → D.nx σ H) :
    ∃ W : Nat → Nat → L2.St → Hp → Prop, (∃ m, W 0 m σ H) ∧ ∀ i m σ H, W i m σ H →
      ((Ite K a).stop i H ∧ D.nx σ H) ∨ ((Ite K a).go i H ∧ ∃ N : L2.St → Hp → Prop, (∀ σ' H', N σ' H' → ∃ m', m' < m ∧ W (i + 1) m' σ' H') ∧ ∀ v H', (Ite K a).yld i H v H' → g v σ H' fun σ2 H2 => tb { D with nx := N, ct := N, bk := D.nx } σ2 H2) := by
  refine ⟨fun i m σ H => m = xs.length - i ∧ i ≤ xs.length ∧ Pv i σ H, ⟨_, rfl, Nat.zero_le _, h0⟩, ?_⟩
  rintro i m σ H ⟨rfl, hi, p⟩
  have q := hq i σ H p
  rcases Nat.lt_or_ge i xs.length with lt | ge
  · refine .inr ⟨⟨xs, xs[i], q, List.getElem?_eq_getElem lt⟩, Pv (i + 1), fun σ' H' p' => ⟨xs.length - (i + 1), by omega, rfl, lt, p'⟩, ?_⟩
    rintro v H' ⟨T, x, rfl, hT, rfl, f⟩
    exact hs i x T σ H (f xs q) p hT
  · obtain rfl : i = xs.length := by omega
    exact .inl ⟨⟨xs, q, Nat.le_refl _⟩, hd σ H p⟩
theorem Same.new' {H : Hp} {p : Addr} {o : HO} (h : H p = none) : Same H (upd H p o) := fun b u e => by
  rw [upd_ne (ne_of_none e h)]
  exact e
/-- a sum of a list and a list of written items -/
theorem l_catL {σ : L2.St} {H : Hp} {ta : TE} {tb : TA} {Q : VK} {l : Addr} {xs ys : List V} (ha : Val ta σ H (.ref l)) (hl : H l = some (.lst xs)) (hb : VA tb σ H ys) (h1 : xs.length ≤ 1000) (h2 : ys.length ≤ 1000)
    (k : ∀ p H', Same H H' → H' p = some (.lst (xs ++ ys)) → Q (.ref p) H') : tOp rCat ta (tLst tb) σ H Q := by
  refine ha _ (hb _ ⟨Nat.le_trans h2 (by decide), fun b nb => ⟨l, b, xs, ys, rfl, rfl, ?_, upd_same, Nat.le_trans (Nat.add_le_add h1 h2) (by decide), fun p np => k p _ ?_ upd_same⟩⟩)
  · rw [upd_ne (ne_of_none hl nb)]; exact hl
  · exact (Same.new' nb).trans (Same.new' np)
section
variable {σ : L2.St} {H : Hp} {i : Nat} {ta : TE} {tb : TA} {D : Ends} {l : Addr} {xs ys : List V}
theorem s_lst (h : VA tb σ H ys) (hl : ys.length ≤ 100000) (q : ∀ p H', Same H H' → H' p = some (.lst ys) → D.nx (σ.set i (some (.ref p))) H') : tAsg (tLst tb) (gName i) D σ H := h _ ⟨Nat.le_trans hl (by decide), fun p hp => q p _ (Same.new' hp) upd_same⟩
theorem s_catL (ha : Val ta σ H (.ref l)) (hl : H l = some (.lst xs)) (hb : VA tb σ H ys) (h1 : xs.length ≤ 1000) (h2 : ys.length ≤ 1000)
    (k : ∀ p H', Same H H' → H' p = some (.lst (xs ++ ys)) → D.nx (σ.set i (some (.ref p))) H') : tAsg (tOp rCat ta (tLst tb)) (gName i) D σ H := l_catL (Q := fun v H' => gName i v σ H' D.nx) ha hl hb h1 h2 k
theorem r_catL (ha : Val ta σ H (.ref l)) (hl : H l = some (.lst xs)) (hb : VA tb σ H ys) (h1 : xs.length ≤ 1000) (h2 : ys.length ≤ 1000)
    (k : ∀ p H', Same H H' → H' p = some (.lst (xs ++ ys)) → D.rt (.ref p) H') : tRet (tOp rCat ta (tLst tb)) D σ H := l_catL (Q := D.rt) ha hl hb h1 h2 k
end
/-! ### statements in a row: what follows stays as it is written -/
section
variable {σ : L2.St} {H : Hp} {i : Nat} {ta te tv : TE} {tb : TA} {D : Ends} {l p : Addr} {xs ys : List V} {tz t1 t2 : TS} {v : V} {kvs : List (Key × V)} {k : Key} {t : TT} {b : Bool}
theorem q_lst (h : VA tb σ H ys) (hl : ys.length ≤ 100000) (q : ∀ p H', Same H H' → H' p = some (.lst ys) → tz D (σ.set i (some (.ref p))) H') : tSeq (tAsg (tLst tb) (gName i)) tz D σ H := s_lst (D := { D with nx := tz D }) h hl q
theorem q_catL (ha : Val ta σ H (.ref l)) (hl : H l = some (.lst xs)) (hb : VA tb σ H ys) (h1 : xs.length ≤ 1000) (h2 : ys.length ≤ 1000)
    (q : ∀ p H', Same H H' → H' p = some (.lst (xs ++ ys)) → tz D (σ.set i (some (.ref p))) H') : tSeq (tAsg (tOp rCat ta (tLst tb)) (gName i)) tz D σ H := s_catL (D := { D with nx := tz D }) ha hl hb h1 h2 q
theorem q_set (h : Val te σ H v) (q : tz D (σ.set i (some v)) H) : tSeq (tAsg te (gName i)) tz D σ H := h _ q
theorem q_put (h0 : Val te σ H (.ref p)) (h : Val tv σ H v) (hp : H p = some (.dK kvs)) (hl : kvs.length ≤ 100) (q : tz D σ (upd H p (.dK (putK kvs k v)))) : tSeq (sDPut te (tC (kV k)) tv) tz D σ H := s_put (D := { D with nx := tz D }) h0 h hp hl q
/-- any expression that is stored: its own reading, then what follows -/
theorem q_asg (h : te σ H fun v H' => tz D (σ.set i (some v)) H') : tSeq (tAsg te (gName i)) tz D σ H := h
theorem q_if (h : Ans t σ H b) (h1 : b = true → t1 { D with nx := tz D } σ H) (h2 : b = false → t2 { D with nx := tz D } σ H) : tSeq (tIfS t t1 t2) tz D σ H := st_if (D := { D with nx := tz D }) h h1 h2
/-- an if without else -/
theorem q_when (h : Ans t σ H b) (h1 : b = true → t1 { D with nx := tz D } σ H) (h2 : b = false → tz D σ H) : tSeq (tIfS t t1 tNext) tz D σ H := st_if (D := { D with nx := tz D }) h h1 h2
theorem q_unless (h : Ans t σ H false) (q : tz D σ H) : tSeq (tIfS t t1 tNext) tz D σ H := st_no (D := { D with nx := tz D }) h q
theorem r_ret (h : te σ H D.rt) : tRet te D σ H := h
end
/-! ### expressions that make things -/
def EM (te : TE) (σ : L2.St) (H : Hp) (P : V → Hp → Prop) : Prop := ∀ Q : VK, (∀ v H', Same H H' → P v H' → Q v H') → te σ H Q
def VM (tb : TA) (σ : L2.St) (H : Hp) (R : List V → Hp → Prop) : Prop := ∀ Q : List V → Hp → Prop, (∀ vs H', Same H H' → R vs H' → Q vs H') → tb σ H Q
def Stays {α : Type} (R : α → Hp → Prop) : Prop := ∀ x H1 H2, Same H1 H2 → R x H1 → R x H2
/-- a row whose items are of one kind each, by their places from k on -/
def Run (P : Nat → V → Hp → Prop) : Nat → List V → Hp → Prop
  | _, [], _ => True
  | k, v :: r, H => P k v H ∧ Run P (k + 1) r H
theorem Run.keep {P : Nat → V → Hp → Prop} (st : ∀ k, Stays (P k)) : ∀ {k : Nat} {xs : List V} {H1 H2 : Hp}, Same H1 H2 → Run P k xs H1 → Run P k xs H2
  | _, [], _, _, _, _ => trivial
  | _, _ :: _, _, _, s, ⟨a, b⟩ => ⟨st _ _ _ _ s a, Run.keep st s b⟩
theorem Run.app {P : Nat → V → Hp → Prop} {H : Hp} : ∀ {k : Nat} {xs ys : List V}, Run P k xs H → Run P (k + xs.length) ys H → Run P k (xs ++ ys) H
  | _, [], _, _, b => b
  | k, v :: r, ys, ⟨a, c⟩, b => ⟨a, Run.app c (by rw [List.length_cons] at b; rw [show k + 1 + r.length = k + (r.length + 1) by omega]; exact b)⟩
theorem Run.get {P : Nat → V → Hp → Prop} {H : Hp} : ∀ {k : Nat} {xs : List V} {i : Nat} {v : V}, Run P k xs H → xs[i]? = some v → P (k + i) v H
  | _, [], _, _, _, e => by simp at e
  | _, _ :: _, 0, _, ⟨a, _⟩, e => by simp at e; subst e; exact a
  | k, _ :: r, i + 1, v, ⟨_, b⟩, e => by
    have q := Run.get (i := i) (v := v) b (by simpa using e)
    rw [show k + (i + 1) = k + 1 + i by omega]
    exact q
/-- the row's kinds, and how many -/
def Rows (P : Nat → V → Hp → Prop) (k n : Nat) (xs : List V) (H : Hp) : Prop := Run P k xs H ∧ xs.length = n
theorem Rows.stays {P : Nat → V → Hp → Prop} (st : ∀ k, Stays (P k)) {k n : Nat} : Stays (Rows P k n) := fun _ _ _ s h => ⟨Run.keep st s h.1, h.2⟩
section
variable {σ : L2.St} {H : Hp} {i : Nat} {ta te : TE} {tb tr : TA} {D : Ends} {l p : Addr} {xs ys ws : List V} {tz : TS} {P : Nat → V → Hp → Prop} {k n : Nat} {R : List V → Hp → Prop}
theorem vm_nil : VM tNil σ H (Rows P k 0) := fun Q q => q [] H (Same.refl H) ⟨trivial, rfl⟩
theorem vm_cons (st : ∀ k, Stays (P k)) (h : EM te σ H (P k)) (hr : ∀ H1, Same H H1 → VM tr σ H1 (Rows P (k + 1) n)) : VM (tCons te tr) σ H (Rows P k (n + 1)) := fun Q q =>
  h _ fun v H1 s1 p1 => hr H1 s1 _ fun r H2 s2 ⟨r2, e2⟩ => q (v :: r) H2 (s1.trans s2) ⟨⟨st k v H1 H2 s2 p1, r2⟩, by rw [List.length_cons, e2]⟩
theorem em_lst (h : VA tb σ H ws) (hl : ws.length ≤ 100000) : EM (tLst tb) σ H (fun v H' => ∃ q, v = .ref q ∧ H' q = some (.lst ws)) := fun Q q =>
  h _ ⟨Nat.le_trans hl (by decide), fun a ha => q _ _ (Same.new' ha) ⟨a, rfl, upd_same⟩⟩
theorem q_lstM (st : Stays R) (h : VM tb σ H R) (hl : ∀ vs H', R vs H' → vs.length ≤ 1000) (q : ∀ p vs H', Same H H' → H' p = some (.lst vs) → R vs H' → tz D (σ.set i (some (.ref p))) H') : tSeq (tAsg (tLst tb) (gName i)) tz D σ H :=
  h _ fun vs H1 s1 r1 => ⟨Nat.le_trans (hl vs H1 r1) (by decide), fun a ha => q a vs _ (s1.trans (Same.new' ha)) upd_same (st _ _ _ (Same.new' ha) r1)⟩
theorem l_catM {Q : VK} (st : Stays R) (ha : Val ta σ H (.ref l)) (hl : H l = some (.lst xs)) (h1 : xs.length ≤ 1000) (h : VM tb σ H R) (h2 : ∀ vs H', R vs H' → vs.length ≤ 1000)
    (q : ∀ p vs H', Same H H' → H' p = some (.lst (xs ++ vs)) → R vs H' → Q (.ref p) H') : tOp rCat ta (tLst tb) σ H Q :=
  ha _ (h _ fun vs H1 s1 r1 => ⟨Nat.le_trans (h2 vs H1 r1) (by decide), fun b nb => ⟨l, b, xs, vs, rfl, rfl, (Same.new' nb) _ _ (s1 _ _ hl), upd_same, Nat.le_trans (Nat.add_le_add h1 (h2 vs H1 r1)) (by decide),
    fun p np => q p vs _ (s1.trans ((Same.new' nb).trans (Same.new' np))) upd_same (st _ _ _ ((Same.new' nb).trans (Same.new' np)) r1)⟩⟩)
theorem q_catM (st : Stays R) (ha : Val ta σ H (.ref l)) (hl : H l = some (.lst xs)) (h1 : xs.length ≤ 1000) (h : VM tb σ H R) (h2 : ∀ vs H', R vs H' → vs.length ≤ 1000)
    (q : ∀ p vs H', Same H H' → H' p = some (.lst (xs ++ vs)) → R vs H' → tz D (σ.set i (some (.ref p))) H') : tSeq (tAsg (tOp rCat ta (tLst tb)) (gName i)) tz D σ H :=
  l_catM (Q := fun v H' => gName i v σ H' (tz D)) st ha hl h1 h h2 q
theorem r_catM (st : Stays R) (ha : Val ta σ H (.ref l)) (hl : H l = some (.lst xs)) (h1 : xs.length ≤ 1000) (h : VM tb σ H R) (h2 : ∀ vs H', R vs H' → vs.length ≤ 1000)
    (q : ∀ p vs H', Same H H' → H' p = some (.lst (xs ++ vs)) → R vs H' → D.rt (.ref p) H') : tRet (tOp rCat ta (tLst tb)) D σ H := l_catM (Q := D.rt) st ha hl h1 h h2 q
end
/-! ### walks, what follows stays as it is written -/
section
variable {K : PySem.W.Frag} {σ : L2.St} {H : Hp} {g : TG} {ta : TA} {te : TE} {tb tz : TS} {D : Ends} {a b : Addr} {xs ys : List V}
theorem q_forR1 {n : Nat} (h : VA ta σ H [.int (n : Int)]) (hn : n ≤ 100000) (Pv : Nat → L2.St → Hp → Prop) (h0 : Pv 0 σ H)
    (hs : ∀ i σ H, i < n → Pv i σ H → g (.int (i : Int)) σ H fun σ2 H2 => tb { D with nx := Pv (i + 1), ct := Pv (i + 1), bk := tz D } σ2 H2) (hd : ∀ σ H, Pv n σ H → tz D σ H) : tSeq (tFor (iRng1 ta) g tb) tz D σ H :=
  h _ ⟨(n : Int), rfl, by omega, by omega, for_range (lo := 0) (n := (n : Int).toNat) (D := { D with nx := tz D }) Pv h0 (fun i σ H hi p => by rw [Int.zero_add]; exact hs i σ H (by omega) p) (fun σ H p => hd σ H (by rw [Int.toNat_natCast] at p; exact p))⟩
theorem q_forL (h : Val te σ H (.ref a)) (hx : SqL K H a xs) (Pv : Nat → L2.St → Hp → Prop) (h0 : Pv 0 σ H) (hl : ∀ i σ H, i ≤ xs.length → Pv i σ H → SqL K H a xs)
    (hs : ∀ i x σ H, xs[i]? = some x → Pv i σ H → g x σ H fun σ2 H2 => tb { D with nx := Pv (i + 1), ct := Pv (i + 1), bk := tz D } σ2 H2) (hd : ∀ σ H, Pv xs.length σ H → tz D σ H) : tSeq (tFor (iList K te) g tb) tz D σ H :=
  h _ ⟨a, rfl, ⟨_, hx⟩, for_list (K := K) (a := a) (xs := xs) (D := { D with nx := tz D }) Pv h0 hl hs hd⟩
theorem q_forE (h : VA ta σ H [.ref a]) (hx : SqL K H a xs) (Pv : Nat → L2.St → Hp → Prop) (h0 : Pv 0 σ H) (hq : ∀ i σ H, Pv i σ H → SqL K H a xs)
    (hs : ∀ (i : Nat) (x : V) (T : Addr) (σ : L2.St) (H : Hp), xs[i]? = some x → Pv i σ H → H T = none → g (.ref T) σ (upd H T (.tup [.int (i : Nat), x])) fun σ2 H2 => tb { D with nx := Pv (i + 1), ct := Pv (i + 1), bk := tz D } σ2 H2)
    (hd : ∀ σ H, Pv xs.length σ H → tz D σ H) : tSeq (tFor (iEnum K ta) g tb) tz D σ H :=
  h _ ⟨a, xs, rfl, hx, for_enumL (D := { D with nx := tz D }) Pv h0 hq hs hd⟩
/-- two names from a pair -/
theorem g_two {i j : Nat} {x y : V} {T : Addr} {K' : L2.St → Hp → Prop} (hT : SqT K H T [x, y]) (q : K' ((σ.set i (some x)).set j (some y)) H) : gTup K 2 (gCons (gName i) (gCons (gName j) gNil)) (.ref T) σ H K' :=
  ⟨T, _, rfl, hT, rfl, x, _, rfl, y, _, rfl, rfl, q⟩
end
section
variable {K : PySem.W.Frag} {σ : L2.St} {H : Hp} {t1 te to : TE} {tb : TA} {D : Ends} {l : Addr} {xs : List V} {v x : V} {i : Nat} {R : List V → Hp → Prop}
theorem g_name {K' : L2.St → Hp → Prop} (q : K' (σ.set i (some v)) H) : gName i v σ H K' := q
/-- xs.append(e) -/
theorem s_app (h : Val to σ H (.ref l)) (hl : H l = some (.lst xs)) (he : te σ H fun v H1 => ∃ ys, H1 l = some (.lst ys) ∧ ys.length ≤ 1000 ∧ D.nx σ (upd H1 l (.lst (ys ++ [v])))) (mono : ∀ {R S : VK}, (∀ v H', R v H' → S v H') → te σ H R → te σ H S) :
    tDrop (tBM K "list" rAppend to (tCons te tNil)) D σ H :=
  h _ ⟨.inl ⟨rfl, _, SqL.of hl⟩, mono (fun v H1 ⟨ys, h1, h2, q⟩ => ⟨l, ys, v, rfl, rfl, h1, Nat.lt_of_le_of_lt h2 (by decide), q⟩) he⟩
theorem s_appC (h : Val to σ H (.ref l)) (hl : H l = some (.lst xs)) (he : te σ H fun v H1 => rAppend (.ref l) [v] H1 fun _ H2 => D.nx σ H2) : tDrop (tBM K "list" rAppend to (tCons te tNil)) D σ H := h _ ⟨.inl ⟨rfl, _, SqL.of hl⟩, he⟩
/-- f(x, [e, ..]) -/
theorem c_callL {sp : Sp} {E : XK} {Q : VK} (h1 : Val t1 σ H x) (st : Stays R) (h2 : VM tb σ H R) (hl : ∀ vs H', R vs H' → vs.length ≤ 1000) (q : ∀ l vs H', Same H H' → H' l = some (.lst vs) → R vs H' → sp [x, .ref l] H' Q E) :
    tCall sp [] E (tCons t1 (tCons (tLst tb) tNil)) σ H Q :=
  h1 _ (h2 _ fun vs H1 s1 r1 => ⟨Nat.le_trans (hl vs H1 r1) (by decide), fun a ha => q a vs _ (s1.trans (Same.new' ha)) upd_same (st _ _ _ (Same.new' ha) r1)⟩)
theorem v_neg {n : Int} (h : Val te σ H (.int n)) : Val (tUn (rU fun i => .int (-i)) te) σ H (.int (-n)) := fun Q q => h _ ⟨n, rfl, q⟩
theorem v_str {n : Int} (h : Val te σ H (.int n)) (hz : n.natAbs.log2 < 1920) : Val (tCB (fun xs H Q => ∃ i, xs = [.int i] ∧ i.natAbs.log2 < 1920 ∧ Q (.str (toString i)) H) (tCons te tNil)) σ H (.str (toString n)) := fun Q q => h _ ⟨n, rfl, hz, q⟩
theorem v_cats {a b : Str} (h1 : Val t1 σ H (.str a)) (h2 : Val te σ H (.str b)) (hz : a.length + b.length ≤ 100000) : Val (tOp (fun x y H Q => ∃ i j, x = .str i ∧ y = .str j ∧ i.length + j.length ≤ sizeLine ∧ Q (.str (i ++ j)) H) t1 te) σ H (.str (a ++ b)) :=
  fun Q q => h1 _ (h2 _ ⟨a, b, rfl, rfl, Nat.le_trans hz (by decide), q⟩)
theorem em_tup {ws : List V} {P : V → Hp → Prop} (h : VA tb σ H ws) (hl : ws.length ≤ 100000) (q : ∀ a H', H' a = some (.tup ws) → P (.ref a) H') : EM (tTup tb) σ H P := fun Q k => l_tup h hl fun a ha => k _ _ (Same.new' ha) (q a _ upd_same)
theorem em_lst' {ws : List V} {P : V → Hp → Prop} (h : VA tb σ H ws) (hl : ws.length ≤ 100000) (q : ∀ a H', H' a = some (.lst ws) → P (.ref a) H') : EM (tLst tb) σ H P := fun Q k => l_lst h hl fun a ha => k _ _ (Same.new' ha) (q a _ upd_same)
/-- {k: e} -/
theorem em_dic1 {key : Key} {P : V → Hp → Prop} (h : ∀ H1, Val te σ H1 v) (q : ∀ a H', H' a = some (.dK [(key, v)]) → P (.ref a) H') : EM (tDisp [(tC (kV key), te)]) σ H P := fun Q k a ha =>
  h _ _ ⟨upd_same, [(key, v)], rfl, by show 1 ≤ 15; decide, k _ _ (by
    have e : mergeK [] [(key, v)] = [(key, v)] := rfl
    rw [e, upd_upd]
    exact Same.new' ha) (q a _ upd_same)⟩
end
section
variable {K : PySem.W.Frag} {σ : L2.St} {H : Hp} {t1 t2 te to : TE} {ta tb : TA} {tu tw tz : TS} {D : Ends} {a b l : Addr} {xs ys : List V} {x y v w : V} {i j : Nat} {r : R2} {Q : VK}
theorem q_lst0 (h : VA tb σ H ys) (hl : ys.length ≤ 100000) (q : ∀ p, H p = none → tz D (σ.set i (some (.ref p))) (upd H p (.lst ys))) : tSeq (tAsg (tLst tb) (gName i)) tz D σ H := h _ ⟨Nat.le_trans hl (by decide), q⟩
theorem Val.is (h : Val te σ H v) (e : v = w) : Val te σ H w := e ▸ h
/-- an if over a comparison, part by part -/
theorem st_cmp (h : t1 σ H fun x H1 => t2 σ H1 fun y H2 => r x y H2 fun z H3 => ∃ b, z = .bl b ∧ if b = true then tu D σ H3 else tw D σ H3) : tIfS (tTest (tOp r t1 t2)) tu tw D σ H := h
theorem q_cmp (h : t1 σ H fun x H1 => t2 σ H1 fun y H2 => r x y H2 fun z H3 => ∃ b, z = .bl b ∧ if b = true then tu { D with nx := tz D } σ H3 else tw { D with nx := tz D } σ H3) : tSeq (tIfS (tTest (tOp r t1 t2)) tu tw) tz D σ H := h
theorem ta_two {Q : List V → Hp → Prop} (h : t1 σ H fun v H1 => t2 σ H1 fun w H2 => Q [v, w] H2) : tCons t1 (tCons t2 tNil) σ H Q := h
theorem cb_one {r : List V → Hp → VK → Prop} (h : te σ H fun v H1 => r [v] H1 Q) : tCB r (tCons te tNil) σ H Q := h
theorem l_slHi (h : Val te σ H (.ref a)) (hx : SqL K H a xs) {n : Int} (hi : Val t1 σ H (.int n)) (q : ∀ p H', Same H H' → H' p = some (.lst (cutV xs none (some n))) → Q (.ref p) H') : tSl (rSlL K) te tNoPart (tPart t1) σ H Q :=
  h _ (hi _ ⟨n, rfl, a, xs, rfl, hx, fun p hp => q p _ (Same.new' hp) upd_same⟩)
theorem v_eq (h1 : Val t1 σ H x) (h2 : Val t2 σ H y) (hs : scal x y = true) : Val (tOp rEq t1 t2) σ H (.bl (decide (x = y))) := val_op h1 h2 fun Q q => ⟨hs, q⟩
/-- [e for x in range(n)] -/
theorem l_lcR1 {n : Nat} {vs : List Nat} (h : VA ta σ H [.int (n : Int)]) (hn : n ≤ 10000) (f : Nat → V) (hw : ∀ x, wipe ((wipe σ vs).set j (some x)) vs = wipe σ vs)
    (hv : ∀ i H1, i < n → Same H H1 → Val te ((wipe σ vs).set j (some (.int (i : Int)))) H1 (f i)) (q : ∀ p H', Same H H' → H' p = some (.lst ((List.range n).map f)) → Q (.ref p) H') : tLc (iRng1 ta) (gName j) tYes te vs σ H Q := by
  refine h _ ⟨(n : Int), rfl, by omega, by omega, fun D hD => lc_range (lo := 0) (n := (n : Int).toNat) (fun i H' => Same H H' ∧ H' D = some (.lst ((List.range i).map f)) ∧ H D = none) ⟨Same.new' hD, upd_same, hD⟩ (fun i H1 hi ⟨s, e, nD⟩ => ?_) (fun H1 ⟨s, e, _⟩ => q D H1 s (by rw [Int.toNat_natCast] at e; exact e))⟩
  refine g_name ⟨hw _, ?_⟩
  show (if true = true then te _ _ _ else (Same H H1 ∧ H1 D = some (.lst ((List.range (i + 1)).map f)) ∧ H D = none))
  rw [if_pos rfl]
  have hv0 : Val te ((wipe σ vs).set j (some (.int (0 + (i : Int))))) H1 (f i) := by
    rw [Int.zero_add]
    exact hv i H1 (by omega) s
  refine hv0 _ ⟨_, e, by rw [List.length_map, List.length_range]; exact Nat.lt_of_lt_of_le (show i < 10000 by omega) (by decide), ?_, ?_, nD⟩
  · intro b o z
    rw [upd_ne (ne_of_none z nD)]
    exact s b o z
  · rw [upd_same, List.range_succ, List.map_append]
    rfl
/-- for a, b in zip(xs, ys) -/
theorem q_forZ {g : TG} (h : ta σ H fun vs H1 => ∃ a b xs ys, vs = [.ref a, .ref b] ∧ SqL K H1 a xs ∧ SqL K H1 b ys ∧ xs.length = ys.length ∧ ∃ Pv : Nat → L2.St → Hp → Prop, Pv 0 σ H1 ∧ (∀ i σ H, Pv i σ H → SqL K H a xs ∧ SqL K H b ys) ∧
      (∀ (i : Nat) (x y : V) (T : Addr) (σ : L2.St) (H : Hp), xs[i]? = some x → ys[i]? = some y → Pv i σ H → H T = none → g (.ref T) σ (upd H T (.tup [x, y])) fun σ2 H2 => tu { D with nx := Pv (i + 1), ct := Pv (i + 1), bk := tz D } σ2 H2) ∧ ∀ σ H, Pv xs.length σ H → tz D σ H)
    (mono : ∀ {R S : List V → Hp → Prop}, (∀ v H', R v H' → S v H') → ta σ H R → ta σ H S) : tSeq (tFor (iZip K ta) g tu) tz D σ H :=
  mono (fun vs H1 ⟨a, b, xs, ys, e, h1, h2, hl, Pv, p0, hq, hs, hd⟩ => ⟨a, b, xs, ys, e, h1, h2, RZ.for_zipL (D := { D with nx := tz D }) hl Pv p0 hq hs hd⟩) h
theorem zipW {g : TG} (hl : xs.length = ys.length) (Pv : Nat → L2.St → Hp → Prop) (p0 : Pv 0 σ H) (hq : ∀ i σ H, Pv i σ H → SqL K H a xs ∧ SqL K H b ys)
    (hs : ∀ (i : Nat) (x y : V) (T : Addr) (σ : L2.St) (H : Hp), xs[i]? = some x → ys[i]? = some y → Pv i σ H → H T = none → g (.ref T) σ (upd H T (.tup [x, y])) fun σ2 H2 => tu { D with nx := Pv (i + 1), ct := Pv (i + 1), bk := tz D } σ2 H2) (hd : ∀ σ H, Pv xs.length σ H → tz D σ H) :
    ∃ W : Nat → Nat → L2.St → Hp → Prop, (∃ m, W 0 m σ H) ∧ ∀ i m σ H, W i m σ H →
      ((Itz K a b).stop i H ∧ tz D σ H) ∨ ((Itz K a b).go i H ∧ ∃ N : L2.St → Hp → Prop, (∀ σ' H', N σ' H' → ∃ m', m' < m ∧ W (i + 1) m' σ' H') ∧ ∀ v H', (Itz K a b).yld i H v H' → g v σ H' fun σ2 H2 => tu { D with nx := N, ct := N, bk := tz D } σ2 H2) :=
  RZ.for_zipL (D := { D with nx := tz D }) hl Pv p0 hq hs hd
/-- .. where the row of both is known -/
theorem q_forZ' {g : TG} (h : ta σ H fun vs H1 => ∃ a b xs ys, vs = [.ref a, .ref b] ∧ SqL K H1 a xs ∧ SqL K H1 b ys ∧ ∃ W : Nat → Nat → L2.St → Hp → Prop, (∃ m, W 0 m σ H1) ∧ ∀ i m σ H, W i m σ H →
      ((Itz K a b).stop i H ∧ tz D σ H) ∨ ((Itz K a b).go i H ∧ ∃ N : L2.St → Hp → Prop, (∀ σ' H', N σ' H' → ∃ m', m' < m ∧ W (i + 1) m' σ' H') ∧ ∀ v H', (Itz K a b).yld i H v H' → g v σ H' fun σ2 H2 => tu { D with nx := N, ct := N, bk := tz D } σ2 H2)) : tSeq (tFor (iZip K ta) g tu) tz D σ H := h
end
/-! ### what the top has written, by names -/
@[irreducible] def fA (mg : Str → Option Value) (x : Str) : Addr := match mg x with
  | some (.ref a) => a
  | _ => 0
@[irreducible] def fDat (K : PySem.W.Frag) (f : Addr) : FuncData := match K.lookup f with
  | some ⟨_, _, .func fd, _⟩ => fd
  | _ => default
/-- the def x of the text -/
structure Df (K : PySem.W.Frag) (mg : Str → Option Value) (x : Str) (st : Stmt) (ps : List Str) : Prop where
  g : mg x = some (.ref (fA mg x))
  F : Fun K x x st (fA mg x) (fDat K (fA mg x))
  b : Binds K (fDat K (fA mg x)) ps []
theorem fA_of {mg : Str → Option Value} {x : Str} {a : Addr} (h : mg x = some (.ref a)) : fA mg x = a := by
  unfold fA
  rw [h]
theorem fDat_of {K : PySem.W.Frag} {f : Addr} {oc : Value} {od : Option Addr} {fd : FuncData} {sl : Array (Option Value)} (h : K.lookup f = some ⟨oc, od, .func fd, sl⟩) : fDat K f = fd := by
  unfold fDat
  rw [h]
theorem Df.mk' {K : PySem.W.Frag} {mg : Str → Option Value} {x : Str} {st : Stmt} {ps : List Str} {h : Heap} {f : Addr} {oc : Value} {od an : Option Addr} {osl : Array (Option Value)} {kV doc pm cdv ct : Value} (X : K.In h) (G : h.Ns mainGlobals mg)
    (a : PySem.W.nsIn K mainGlobals x = some (some (.ref f))) (l : K.lookup f = some ⟨oc, od, .func (PySem.W.fnOf x x (defArgs st) (defBody st) (defScope st) .none kV doc pm an cdv ct), osl⟩)
    (c : PySem.W.codeIn K cdv x = true) (k : PySem.W.keepIn K (.ref f) = true)
    (bi : ∀ (kV doc pm : Value) (an : Option Addr) (cdv ct : Value) (us : List Value), us.length = ps.length → bindArgs (PySem.W.fnOf x x (defArgs st) (defBody st) (defScope st) .none kV doc pm an cdv ct) ⟨us, []⟩ = pure (ps.zip us)) : Df K mg x st ps := by
  have e := PySem.W.mg_of X G a
  have F := fun_mk (st := st) l c k
  have e1 := fA_of e
  have e2 := fDat_of l
  refine ⟨by rw [e1]; exact e, ?_, ?_⟩
  · rw [e1, e2]; exact F
  · rw [e1, e2]; exact F.binds bi
/-- the law's own argument -/
theorem bind_one {x : Str} {st : Stmt} {p : Str} {kV doc pm cdv ct : Value} {an : Option Addr} (h : ∀ u : Value, bindArgs (PySem.W.fnOf x x (defArgs st) (defBody st) (defScope st) .none kV doc pm an cdv ct) ⟨[u], []⟩ = pure [(p, u)]) (s : Shared) (u : Value) :
    BindsTo s (PySem.W.fnOf x x (defArgs st) (defBody st) (defScope st) .none kV doc pm an cdv ct) ⟨[u], []⟩ [(p, u)] := .of_eq (h u)
section
variable {X : Cx} {k : Nat} {x : Str} {st : Stmt} {ps : List Str} {sp : Sp} {p pos : Pos} {e : Expr} {es : List Expr} {t : TA}
/-- a call of the def x -/
theorem pe_c (d : Df X.K X.mg x st ps) (G : FnOk X.prog X.w X.K X.mg X.base CX0 k (fA X.mg x) (fDat X.K (fA X.mg x)) ps sp) (hr : Room k X.A) (ha : PA X (e :: es) t) (hg : Gl X x := by rfl) (hdb : (x == ("__debug__" : Str)) = false := by decide)
    (he : starEach (e :: es) X.env = (false, eval e X.env) :: starEach es X.env := by rfl) (hpl : (backTo pos (starEach es X.env)).any (·.1) = false := by rfl) : PE X (.Call (.Name x p) (e :: es) [] pos) (tCall sp [] E0 t) :=
  pe_call G hr hg d.g d.F.kp d.b .nil pass0 ha hdb he hpl
theorem pe_cG (d : Df X.K X.mg x st ps) (G : OkG X.prog X.w X.K X.mg X.base CX0 k (fA X.mg x) (fDat X.K (fA X.mg x)) ps sp) (hr : Room k X.A) (hq : Quiet X.A) (ha : PA X (e :: es) t) (hg : Gl X x := by rfl) (hdb : (x == ("__debug__" : Str)) = false := by decide)
    (he : starEach (e :: es) X.env = (false, eval e X.env) :: starEach es X.env := by rfl) (hpl : (backTo pos (starEach es X.env)).any (·.1) = false := by rfl) : PE X (.Call (.Name x p) (e :: es) [] pos) (tCall sp [] E0 t) :=
  pe_callG G hr hq hg d.g d.F.kp d.b .nil pass0 ha hdb he hpl
/-- a class's name as a value -/
theorem pe_cls {C : Addr} (hm : X.mg x = some (.ref C)) (hg : Gl X x := by rfl) (hd : (x == ("__debug__" : Str)) = false := by decide) : PE X (.Name x pos) (tC (.ref C)) := pe_glob hg hm rfl hd
end
theorem hu64 {A : Around} {k : Nat} (hr : Room k A) : A.units + 64 < cLine := hr.units

/-! ### the law's end, where nothing is being shown -/
section
variable {P : Program} {w : World} {K : PySem.W.Frag} {mg mb : Str → Option Value} {k : Nat} {fa a : Addr} {fd : FuncData} {x : Str} {sp : Sp} {s₁ : Shared} {vs : List Value} {ns : List Int}
/-- what the law's call must do -/
abbrev Law (P : Program) (w : World) (fa a : Addr) (s₁ : Shared) : Prop :=
  codeAny (model P w) callerA (.call (.ref fa) ⟨[.ref a], []⟩) (fun r s' => r = .ok (.ret (.bool true)) ∧ OldK s₁.heap s'.heap ∧ s'.os = s₁.os ∧ AllBare s'.gens) s₁
/-- from one abstract heap that knows the script at most -/
theorem law_from (KX : K.In s₁.heap) (hns : s₁.heap.Ns mainGlobals mg) (hb : s₁.heap.Ns builtinsNs mb) (hbb : ∀ x : Str, x ≠ "__name__" → mb x = bootBuiltins x) (hlim : s₁.heap.NoLimit) (hg : s₁.gens = #[])
    (ha : s₁.heap.get? a = some { cls := .type "list", data := .seq vs.toArray }) (hr : Room k callerA)
    (F : ∀ base : Heap, K.In base → base.Ns mainGlobals mg → OkG P w K mg base CX0 k fa fd [x] sp) (hbind : ∀ (s : Shared) (u : Value), BindsTo s fd ⟨[u], []⟩ [(x, u)])
    {H : Hp} (hO : Only H) (hsp : sp [.ref a] H (fun v _ => v = .bl true) fun _ _ _ => False) (hok : HOk P w H s₁.heap) (hA : ∀ b, H b ≠ none → b = a) (hK : H a ≠ none → K.lookup a = none) : Law P w fa a s₁ := by
  have off : ∀ {b : Addr}, b ≠ a → H b = none := fun {b} nb => Decidable.byContradiction fun z => nb (hA b z)
  have kOff : ∀ {b : Addr} {o : Obj}, K.lookup b = some o → H b = none := fun {b o} e => Decidable.byContradiction fun z => by
    have q := hA b z
    subst q
    rw [hK z] at e
    cases e
  have dOff : ∀ {b : Addr} {o : Obj} {es : Array DictEntry} {ep : Nat}, s₁.heap.get? b = some o → o.data = .dict es ep → H b = none := fun {b o es ep} e d => by
    by_cases q : b = a
    · subst q
      rw [ha] at e
      cases e
      cases d
    · exact off q
  have ns' : ∀ {b : Addr} {m : Str → Option Value}, s₁.heap.Ns b m → (hidT s₁.heap H).Ns b m := fun {b m} z => by
    obtain ⟨o, es, ep, e, d, r⟩ := z
    exact ⟨o, es, ep, hidT_get e (dOff e d), d, r⟩
  have kIn' : K.In (hidT s₁.heap H) := fun b o e => hidT_get (KX b o e) (kOff e)
  obtain ⟨mc, l1, l2⟩ := hlim
  have e0 : Env0 P w K mg (hidT s₁.heap H) callerA [] s₁ H := ⟨rfl, ⟨kIn', ns' hns, ⟨mb, ns' hb, hbb⟩, ⟨mc, ns' l1, l2⟩⟩, fun b o e => of_hidT e, Nat.le_of_eq (hidT_size _ _), trivial, (fun b z => nomatch z), hok, .of_eq hg⟩
  have run := (F _ kIn' (ns' hns)).run callerA [] s₁ H ⟨[.ref a], []⟩ [.ref a] [.ref a] _ _ hr rfl e0 (hbind s₁ (.ref a)) (.cons rfl .nil) hsp
  refine codeAny_mono run fun r s' z => ?_
  cases r with
  | error e => exact z.elim
  | ok fl => cases fl with
    | next => exact z.elim
    | brk => exact z.elim
    | cont => exact z.elim
    | ret u =>
      obtain ⟨v, H', os, bare, un, hok', rv, ev⟩ := z
      have ev' : v = .bl true := ev
      subst ev'
      cases (show u = Value.bool true from rv)
      refine ⟨rfl, OldK.of_keep fun b o e => ?_, os, bare⟩
      rcases hO b with q | ⟨ob, xs, q⟩
      · exact un.keep b o e q (fun z => nomatch z) (fun z => nomatch z)
      · obtain ⟨e1, _⟩ := hok b _ q
        obtain ⟨e2, _⟩ := hok' b _ (un.frzs b ob _ q)
        rw [e] at e1
        cases e1
        exact e2
theorem law_callG (KX : K.In s₁.heap) (hns : s₁.heap.Ns mainGlobals mg) (hb : s₁.heap.Ns builtinsNs mb) (hbb : ∀ x : Str, x ≠ "__name__" → mb x = bootBuiltins x) (hlim : s₁.heap.NoLimit) (hg : s₁.gens = #[])
    (ha : s₁.heap.get? a = some { cls := .type "list", data := .seq vs.toArray }) (hi : IntsAre vs ns) (hl : ns.length ≤ sizeLine) (hr : Room k callerA)
    (F : ∀ base : Heap, K.In base → base.Ns mainGlobals mg → OkG P w K mg base CX0 k fa fd [x] sp) (hbind : ∀ (s : Shared) (u : Value), BindsTo s fd ⟨[u], []⟩ [(x, u)])
    (hsp : ∀ H : Hp, Only H → SqL K H a (ns.map V.int) → sp [.ref a] H (fun v _ => v = .bl true) fun _ _ _ => False) : Law P w fa a s₁ := by
  have rv := vals_ints hi
  cases hk : K.lookup a with
  | some o =>
    have e := KX a o hk
    rw [ha] at e
    cases e
    have hS : SqL K (fun _ => none) a (ns.map V.int) := .inr ⟨_, vs.toArray, _, hk, rfl, rfl, rfl, by rw [List.size_toArray, hi.length]; exact hl, by simpa using rv⟩
    exact law_from KX hns hb hbb hlim hg ha hr F hbind (H := fun _ => none) (fun _ => .inl rfl) (hsp _ (fun _ => .inl rfl) hS) (fun b u z => nomatch z) (fun b z => (z rfl).elim) (fun z => (z rfl).elim)
  | none =>
    have h0 : ∀ b, b ≠ a → upd (fun _ => none) a (.frz { cls := .type "list", data := .seq vs.toArray } (.lst (ns.map V.int))) b = none := fun b z => upd_ne z
    have hO : Only (upd (fun _ => none) a (.frz { cls := .type "list", data := .seq vs.toArray } (.lst (ns.map V.int)))) := fun b => by
      by_cases q : b = a
      · rw [q]; exact .inr ⟨_, _, upd_same⟩
      · exact .inl (h0 b q)
    refine law_from KX hns hb hbb hlim hg ha hr F hbind hO (hsp _ hO (.inl (.inr ⟨_, upd_same⟩))) (fun b u z => ?_) (fun b z => ?_) (fun _ => hk)
    · by_cases q : b = a
      · subst q
        rw [upd_same] at z
        cases z
        exact ⟨ha, by rw [List.length_map]; exact hl, vs, _, rv, ha⟩
      · rw [h0 b q] at z
        cases z
    · by_cases q : b = a
      · exact q
      · exact (z (h0 b q)).elim
end
/-- the law's row, from its def's promise -/
theorem walk_G {l : PySem.W.OpenLaw} {n k : Nat} {q : Program} {loose : List Str} {XP : (Str → Option Value) → Heap → Prop} {YP : World → Heap → Prop} {d : DefRec} {K : Params → PySem.W.Frag} {sp : PySem.W.Frag → Sp} {x : Str}
    (hn : l.most = some n) (hn2 : n ≤ sizeLine) (hdf : d.params.defaults = []) (hr : Room k callerA) (hY : ∀ (w : World) (h : Heap), YP w h → (K w.params).In h)
    (F : ∀ (w : World) (mg : Str → Option Value) (fa : Addr) (h : Heap), (K w.params).In h → h.Ns mainGlobals mg → mg d.name = some (.ref fa) →
      ∃ fd : FuncData, (∀ (s : Shared) (u : Value), BindsTo s fd ⟨[u], []⟩ [(x, u)]) ∧ ∀ base : Heap, (K w.params).In base → base.Ns mainGlobals mg → OkG l.prog w (K w.params) mg base CX0 k fa fd [x] (sp (K w.params)))
    (hsp : ∀ (K : PySem.W.Frag) (H : Hp) (a : Addr) (ns : List Int), ns.length ≤ n → Only H → SqL K H a (ns.map V.int) → sp K [.ref a] H (fun v _ => v = .bl true) fun _ _ _ => False) :
    PySem.W.WalkO q loose XP YP l.row.toRowW d [] (fun f vs => PySem.call f vs) := by
  refine Att.attach_call hn hdf fun w s₀ s₁ mg mb fa o pm cd doc a vs ns G Y ho hd hcd hmg hobj hints hlen hg => ?_
  have KX := hY w _ Y
  obtain ⟨fd, hb, hF⟩ := F w mg fa _ KX G.T.g hmg
  exact law_callG KX G.T.g G.T.b G.T.builtins G.T.nolimit hg hobj hints (Nat.le_trans hlen hn2) hr hF hb fun H hO hS => hsp _ H a ns hlen hO hS
end GL

/-! Exceptions of the program's own as values: made, asked for their class, their fields read. -/
namespace GL
open PySem PySem.Spec PyProof.Rows L2

/-- an exception of the class at C stands at a, with these fields (none: it has no dict of its own) -/
inductive IsEx (H : Hp) (a C : Addr) : List (Str × V) → Prop
  | bare (e : H a = some (ExO (.ref C) a)) : IsEx H a C []
  | full {dx : Addr} {fs : List (Str × V)} (e : H a = some (exo a C (some dx))) (ed : H dx = some (exd dx fs)) : IsEx H a C fs
theorem IsEx.keep {H H' : Hp} {a C : Addr} {fs : List (Str × V)} (x : IsEx H a C fs) (s : Same H H') : IsEx H' a C fs := by
  cases x with
  | bare e => exact .bare (s _ _ e)
  | full e ed => exact .full (s _ _ e) (s _ _ ed)
section
variable {X : Cx} {pins : List (Addr × Obj)} {σ : L2.St} {H : Hp} {s : Shared} {a C : Addr} {fs : List (Str × V)}
theorem IsEx.inst (I : Inv X pins σ H s) (x : IsEx H a C fs) : ∃ ox od, PySem.W.InstAt s.heap a ox C od := by
  cases x with
  | bare e =>
    have y : ObjOk X.prog X.w H s.heap a (ExO (.ref C) a) := I.hok a _ e
    obtain ⟨⟨oe, vs, h1, ⟨z1, z2⟩, h2, _⟩, _⟩ := y
    refine ⟨oe, none, h1, z1, ?_, ?_⟩
    · unfold PySem.W.notCls; rw [h2] <;> rfl
    · rw [z2]; trivial
  | full e ed =>
    obtain ⟨t1, h1⟩ := exo_at I.hok e
    obtain ⟨mA, hns, _⟩ := exd_at I.hok ed
    obtain ⟨o, es, ep, ho, _⟩ := hns
    exact ⟨_, some o, h1, rfl, rfl, ho⟩

/-! ### isinstance -/
def rIsX (K : PySem.W.Frag) : List V → Hp → VK → Prop := fun xs H Q => ∃ (a C : Addr) (fs : List (Str × V)) (c : V) (cv : Value) (b : Bool), xs = [.ref a, c] ∧ IsEx H a C fs ∧ ExcC K C ∧ (∀ u, RelV c u → u = cv) ∧
  PySem.W.kitOne K (.ref C) cv = some b ∧ Q (.bl b) H
theorem call_isX : CallR X (.builtin "isinstance") (rIsX X.K) := by
  intro pins s σ H xs us Q I r h
  obtain ⟨a, C, fs, c, cv, b, rfl, hx, T, hcv, e, q⟩ := h
  obtain ⟨ox, od, J⟩ := hx.inst I
  cases r with
  | cons ra r1 => cases r1 with
    | cons rc r2 =>
      cases r2
      cases ra
      have ec := hcv _ rc
      subst ec
      have cl : (PySem.W.clsIn X.K C).isSome = true := by
        obtain ⟨cd, h1, _⟩ := PySem.W.any_some T.hd
        rw [h1] <;> rfl
      exact PySem.W.kia_one (PySem.W.kitx_exc cl T.hg T.hk T.hs T.ha T.hn T.ht T.hm) I.kIn J e (fun z => nomatch z) fun tk => ⟨.bl b, H, I.kept (t' := tk) fun _ _ z => z, rfl, q⟩

/-! ### a field -/
def tFldX (K : PySem.W.Frag) (f : Str) (te : TE) : TE := fun σ H Q => te σ H fun x H1 => ∃ (a C dx : Addr) (fs : List (Str × V)) (v : V), x = .ref a ∧ H1 a = some (exo a C (some dx)) ∧ H1 dx = some (exd dx fs) ∧ ExcC K C ∧
  PySem.W.findIn K (.ref C) f = some none ∧ fs.lookup f = some v ∧ Q v H1
theorem pe_fldX {e : Expr} {te : TE} {f : Str} {pos : Pos} (he : PE X e te) (hb : attributeBase e f X.env (eval e X.env) = eval e X.env := by rfl) : PE X (.Attribute e f pos) (tFldX X.K f te) := by
  refine ⟨fun pins s σ H Q I h => attr_of hb (thn (he.run pins s σ H _ I h) fun u s1 hh => ?_)⟩
  obtain ⟨x, H1, I1, rx, a, C, dx, fs, v, ex, ea, ed, T, hno, l, q⟩ := hh
  subst ex
  obtain rfl : u = Value.ref a := rx
  obtain ⟨t1, h1⟩ := exo_at I1.hok ea
  obtain ⟨mA, hns, rel⟩ := exd_at I1.hok ed
  obtain ⟨od, ho, hl⟩ := lookIn_ns hns
  obtain ⟨u, hu, ru⟩ := RelO.some_of (v := v) (o := mA f) (by rw [← l]; exact rel f)
  have J : PySem.W.InstAt s1.heap a _ C (some od) := ⟨h1, rfl, rfl, ho⟩
  exact HandSPX.exc_get I1.kIn J T.hg T.hk T.hs (PySem.W.findObj_own T.hd hno rfl (by rw [hl, hu])) (handed_of ru) ⟨v, H1, I1.tok _, ru, q⟩

/-! ### made: by an __init__ of its own, by none -/
def tExV (C : Addr) (sp : Sp) (ta : TA) : TE := fun σ H Q => ta σ H fun vs H1 => vs.length ≤ 1000 ∧ ∀ a, H1 a = none → sp (.ref a :: vs) (upd H1 a (exo a C none)) (fun v H2 => v = .non ∧ Q (.ref a) H2) (fun _ _ _ => False)
theorem pe_exV {x : Str} {C fI : Addr} {k : Nat} {fd : FuncData} {ps : List Str} {sp : Sp} {p pos : Pos} {e : Expr} {es : List Expr} {ta : TA} (T : OexC X.K C) (iC : PySem.W.findIn X.K (.ref C) "__init__" = some (some (.ref fI)))
    (tI : PySem.W.typeIn X.K (.ref fI) = some (.type "function")) (F1 : FnOk X.prog X.w X.K X.mg X.base CX0 k fI fd ps sp) (hr : Room (k + 1) X.A) (hb : Binds X.K fd ps []) (hg : Gl X x) (hm : X.mg x = some (.ref C)) (ha : PA X (e :: es) ta)
    (hdb : (x == ("__debug__" : Str)) = false := by decide) (he : starEach (e :: es) X.env = (false, eval e X.env) :: starEach es X.env := by rfl) (hpl : (backTo pos (starEach es X.env)).any (·.1) = false := by rfl) :
    PE X (.Call (.Name x p) (e :: es) [] pos) (tExV C sp ta) := by
  refine ⟨fun pins s σ H Q I h => wpAny_Call_Name_kw (ld_glob I hg hm ?_ hdb)⟩
  obtain ⟨nm, q, N, bs, bm, sn, sub, ab, col, dd, k0, k1, k2, k3, k5, hC, hbm⟩ := T.cls
  refine PySem.W.callWith_K (h₀ := X.base) I.ok.mod.kin T.kC (thn (ha.run pos pins s σ H _ I h) fun us s1 ⟨vs, H1, I1, r1, hz, q1⟩ => ⟨I1.kIn, ?_⟩) he hpl
  obtain ⟨hp, g, dr, tk, os⟩ := s1
  show wpAny _ _ (call (.ref C) us) _ _ _
  have le1 : hp.objs.size ≤ hp.objs.size + 1 := Nat.le_succ _
  have q2 := q1 (hp.objs.size + 1) (I1.hok.fresh le1)
  have grown : ∀ b o, hp.get? b = some o → ((hp.push (PySem.W.kdv_tup us)).push (PySem.HandSPX.excO C hp.objs.size)).get? b = some o := fun b o e => Heap.get?_push_of_some _ (Heap.get?_push_of_some _ e)
  have there : ((hp.push (PySem.W.kdv_tup us)).push (PySem.HandSPX.excO C hp.objs.size)).get? (hp.objs.size + 1) = some (PySem.HandSPX.excO C hp.objs.size) := by heap_get
  have I2 : Inv X pins σ (upd H1 (hp.objs.size + 1) (exo (hp.objs.size + 1) C none)) ⟨(hp.push (PySem.W.kdv_tup us)).push (PySem.HandSPX.excO C hp.objs.size), g, dr, tk, os⟩ := I1.laid (t' := tk) grown le1 (exo_ok there)
  have r2 : Vals (V.ref (hp.objs.size + 1) :: vs) (Value.ref (hp.objs.size + 1) :: us) := .cons rfl r1
  have hl : (Value.ref (hp.objs.size + 1) :: us ++ []).length = ps.length := by
    rw [List.append_nil, ← r2.length]
    exact F1.len _ _ _ _ q2
  have bb := hb _ (Value.ref (hp.objs.size + 1) :: us) I2.kIn hl
  rw [List.append_nil] at bb
  have hus : us.length ≤ sizeLine := by
    rw [← r1.length, sizeLine_eq]
    omega
  refine wpAny_call (PySem.HandSPX.call_own F.excBase_ValueError (fun Y => PySem.HandSPX.refsVE_contains Y bm hbm) (I1.kIn _ _ hC) (PySem.W.looks_findIn I1.kIn iC) (fun self => PySem.W.bind_fn I1.kIn self tI) hus
    (codeAny_mono (F1.run _ X.stack _ _ _ _ _ _ _ (hr.make C us []) (I2.env0.make C us []) bb r2 q2) fun r s' z => ?_))
  cases r with
  | error er => exact z.elim
  | ok fl => cases fl with
    | ret u =>
      obtain ⟨v, H', I3, rv, ev, q3⟩ := I2.after z
      subst ev
      exact ⟨rv, ⟨V.ref (hp.objs.size + 1), H', I3, rfl, q3⟩⟩
    | next => exact z.elim
    | brk => exact z.elim
    | cont => exact z.elim
theorem pe_exV0 {C : Addr} {bmB : List Value} {B newId initId : String} {x : Str} {p pos : Pos} (F : ExcBaseFacts B newId initId bmB) (q : PySem.W.excIn X.K C bmB newId = true) (gC : X.mg x = some (.ref C)) (kC : PySem.W.keepIn X.K (.ref C) = true) (hg : Gl X x)
    (hdb : (x == ("__debug__" : Str)) = false := by decide) : PE X (.Call (.Name x p) [] [] pos) (fun σ H Q => ∀ a, H a = none → Q (.ref a) (upd H a (ExO (.ref C) a))) := by
  refine ⟨fun pins s σ H Q I h => wpAny_Call_Name_kw (ld_glob I hg gC (PySem.W.callWith_K0 I.kIn kC ?_) hdb)⟩
  obtain ⟨bm, N, nm, qn, bs, hdct, sn, sub, ab, col, dd, k0, k1, k2, k3, k5, mN, hC, hN, hni, T⟩ := exc_obj I.kIn q
  refine wpAny_call_exc_subT F T hC hN hni (fun h' a hm => ?_) (by show 0 ≤ sizeLine; rw [sizeLine_eq]; omega)
  have hn : H a = none := I.hok.gone hm.new
  obtain ⟨t, ht, _, _⟩ := hm.there
  exact ⟨.ref a, upd H a (ExO (.ref C) a), I.laidN hm.keeps hm.new hn (exO_ok ht ⟨rfl, rfl⟩ rfl rfl rfl (show 4 < 6 by decide)), rfl, h a hn⟩
end

/-! ### the classes, by names -/
@[irreducible] def iA (K : PySem.W.Frag) (C : Addr) : Addr := match PySem.W.findIn K (.ref C) "__init__" with
  | some (some (.ref f)) => f
  | _ => 0
/-- what is asked of a class without an __init__ -/
structure Cl0 (K : PySem.W.Frag) (mg : Str → Option Value) (x : Str) : Prop where
  g : mg x = some (.ref (fA mg x))
  k : PySem.W.keepIn K (.ref (fA mg x)) = true
  e : ExcC K (fA mg x)
  q : PySem.W.excIn K (fA mg x) [.type "ValueError", .type "Exception", .type "BaseException", .type "object"] "ValueError.__new__" = true
/-- .. of one with an __init__ that stores the fields fs -/
structure ClI (K : PySem.W.Frag) (mg : Str → Option Value) (x qual : Str) (st : Stmt) (ps fs : List Str) : Prop where
  g : mg x = some (.ref (fA mg x))
  e : ExcC K (fA mg x)
  o : OexC K (fA mg x)
  i : PySem.W.findIn K (.ref (fA mg x)) "__init__" = some (some (.ref (iA K (fA mg x))))
  t : PySem.W.typeIn K (.ref (iA K (fA mg x))) = some (.type "function")
  F : Fun K "__init__" qual st (iA K (fA mg x)) (fDat K (iA K (fA mg x)))
  b : Binds K (fDat K (iA K (fA mg x))) ps []
  n : ∀ f ∈ fs, PySem.W.findIn K (.ref (fA mg x)) f = some none
theorem iA_of {K : PySem.W.Frag} {C f : Addr} (h : PySem.W.findIn K (.ref C) "__init__" = some (some (.ref f))) : iA K C = f := by
  unfold iA
  rw [h]
theorem Cl0.mk' {K : PySem.W.Frag} {mg : Str → Option Value} {x : Str} {h : Heap} {C : Addr} (X : K.In h) (G : h.Ns mainGlobals mg) (a : PySem.W.nsIn K mainGlobals x = some (some (.ref C))) (k : PySem.W.keepIn K (.ref C) = true) (e : ExcC K C)
    (q : PySem.W.excIn K C [.type "ValueError", .type "Exception", .type "BaseException", .type "object"] "ValueError.__new__" = true) : Cl0 K mg x := by
  have m := PySem.W.mg_of X G a
  have c := fA_of m
  exact ⟨by rw [c]; exact m, by rw [c]; exact k, by rw [c]; exact e, by rw [c]; exact q⟩
theorem ClI.mk' {K : PySem.W.Frag} {mg : Str → Option Value} {x qual : Str} {st : Stmt} {ps fs : List Str} {h : Heap} {C f : Addr} {oc : Value} {od an : Option Addr} {osl : Array (Option Value)} {kV doc pm cdv ct : Value} (X : K.In h) (G : h.Ns mainGlobals mg)
    (a : PySem.W.nsIn K mainGlobals x = some (some (.ref C))) (e : ExcC K C) (o : OexC K C) (i : PySem.W.findIn K (.ref C) "__init__" = some (some (.ref f))) (t : PySem.W.typeIn K (.ref f) = some (.type "function"))
    (l : K.lookup f = some ⟨oc, od, .func (PySem.W.fnOf "__init__" qual (defArgs st) (defBody st) (defScope st) .none kV doc pm an cdv ct), osl⟩) (c : PySem.W.codeIn K cdv qual = true) (k : PySem.W.keepIn K (.ref f) = true)
    (bi : ∀ (kV doc pm : Value) (an : Option Addr) (cdv ct : Value) (us : List Value), us.length = ps.length → bindArgs (PySem.W.fnOf "__init__" qual (defArgs st) (defBody st) (defScope st) .none kV doc pm an cdv ct) ⟨us, []⟩ = pure (ps.zip us))
    (n : ∀ f ∈ fs, PySem.W.findIn K (.ref C) f = some none) : ClI K mg x qual st ps fs := by
  have m := PySem.W.mg_of X G a
  have c1 := fA_of m
  have c2 : iA K (fA mg x) = f := by rw [c1]; exact iA_of i
  have c3 := fDat_of l
  have F := fun_mk (st := st) l c k
  refine ⟨by rw [c1]; exact m, by rw [c1]; exact e, by rw [c1]; exact o, by rw [c2, c1]; exact i, by rw [c2]; exact t, by rw [c2, c3]; exact F, by rw [c2, c3]; exact F.binds bi, by rw [c1]; exact n⟩
def spI1 (C : Addr) (f : Str) : Sp := fun vs H Q _ => ∃ a v, vs = [.ref a, v] ∧ H a = some (exo a C none) ∧ ∀ dx, H dx = none → dx ≠ a → Q .non (upd (upd H dx (exd dx [(f, v)])) a (exo a C (some dx)))
def spI2 (C : Addr) (f g : Str) : Sp := fun vs H Q _ => ∃ a v u, vs = [.ref a, v, u] ∧ H a = some (exo a C none) ∧ ∀ dx, H dx = none → dx ≠ a → Q .non (upd (upd (upd H dx (exd dx [(f, v)])) a (exo a C (some dx))) dx (exd dx [(g, u), (f, v)]))
section
variable {K : PySem.W.Frag} {σ : L2.St} {H : Hp} {D : Ends} {a C dx : Addr} {f g : Str} {v u : V} {ta : TA} {Q : VK}
theorem s_ost1 (T : OexC K C) (n : PySem.W.findIn K (.ref C) f = some none) (h : H a = some (exo a C none)) (h0 : σ[0]? = some (some (.ref a))) {i : Nat} (h1 : σ[i]? = some (some v))
    (q : ∀ dx, H dx = none → dx ≠ a → D.nx σ (upd (upd H dx (exd dx [(f, v)])) a (exo a C (some dx)))) : tOst K f (tVar 0) (tVar i) D σ H := ⟨v, h1, _, h0, a, C, rfl, T, n, .inl ⟨h, q⟩⟩
theorem s_ost2 (T : OexC K C) (n : PySem.W.findIn K (.ref C) g = some none) (h : H a = some (exo a C (some dx))) (hd : H dx = some (exd dx [(f, v)])) (h0 : σ[0]? = some (some (.ref a))) {i : Nat} (h1 : σ[i]? = some (some u))
    (q : D.nx σ (upd H dx (exd dx [(g, u), (f, v)]))) : tOst K g (tVar 0) (tVar i) D σ H := ⟨u, h1, _, h0, a, C, rfl, T, n, .inr ⟨dx, _, h, hd, by show 1 ≤ 900; decide, q⟩⟩
/-- what the making of one hands on -/
theorem made1 (h : VA ta σ H [v]) (k : ∀ a H', Same H H' → IsEx H' a C [(f, v)] → Q (.ref a) H') : tExV C (spI1 C f) ta σ H Q :=
  h _ ⟨by show 1 ≤ 1000; decide, fun a ha => ⟨a, v, rfl, upd_same, fun dx hd ne => ⟨rfl, k a _ (fun b o e => by
    have hb : b ≠ a := ne_of_none e ha
    rw [upd_ne ne] at hd
    rw [upd_ne hb, upd_ne (ne_of_none e hd), upd_ne hb]
    exact e) (.full upd_same (by rw [upd_ne ne, upd_same]))⟩⟩⟩
theorem made2 (h : VA ta σ H [v, u]) (k : ∀ a H', Same H H' → IsEx H' a C [(g, u), (f, v)] → Q (.ref a) H') : tExV C (spI2 C f g) ta σ H Q :=
  h _ ⟨by show 2 ≤ 1000; decide, fun a ha => ⟨a, v, u, rfl, upd_same, fun dx hd ne => ⟨rfl, k a _ (fun b o e => by
    have hb : b ≠ a := ne_of_none e ha
    rw [upd_ne ne] at hd
    have hb2 : b ≠ dx := ne_of_none e hd
    rw [upd_ne hb2, upd_ne hb, upd_ne hb2, upd_ne hb]
    exact e) (.full (by rw [upd_ne (Ne.symm ne), upd_same]) upd_same)⟩⟩⟩
theorem made0 (k : ∀ a H', Same H H' → IsEx H' a C [] → Q (.ref a) H') : (fun (σ : L2.St) (H : Hp) (Q : VK) => ∀ a, H a = none → Q (.ref a) (upd H a (ExO (.ref C) a))) σ H Q :=
  fun a ha => k a _ (Same.new' ha) (.bare upd_same)
/-- isinstance of one -/
theorem v_isx {te : TE} {fs : List (Str × V)} {c : V} {cv : Value} {b : Bool} (h : Val te σ H (.ref a)) (x : IsEx H a C fs) (e : ExcC K C) (r : ∀ w, RelV c w → w = cv) (k : PySem.W.kitOne K (.ref C) cv = some b) :
    Val (tCB (rIsX K) (tCons te (tCons (tC c) tNil))) σ H (.bl b) := v_cb (va_cons h (va_cons val_c va_nil)) fun Q q => ⟨a, C, fs, c, cv, b, rfl, x, e, r, k, q⟩
theorem v_fldx {te : TE} {fs : List (Str × V)} (h : Val te σ H (.ref a)) (x : IsEx H a C fs) (hf : fs.lookup f = some v) (e : ExcC K C) (n : PySem.W.findIn K (.ref C) f = some none) : Val (tFldX K f te) σ H v := by
  intro Q q
  cases x with
  | bare _ => cases hf
  | full e1 e2 => exact h _ ⟨a, C, _, fs, v, rfl, e1, e2, e, n, hf, q⟩
end
end GL

/-! What data the heap holds, dicts among it, and what repr tells of it. -/
namespace GL
open PySem PySem.Spec PyProof.Rows L2

def keyD : Key → PyData
  | .inl i => .int i
  | .inr x => .str x
mutual
/-- the data of a value: as Dp, dicts too -/
inductive Dd (K : PySem.W.Frag) (H : Hp) : V → PyData → Prop
  | non : Dd K H .non .none
  | bl (b : Bool) : Dd K H (.bl b) (.bool b)
  | int (i : Int) : Dd K H (.int i) (.int i)
  | str (x : Str) : Dd K H (.str x) (.str x)
  | lst {a : Addr} {xs : List V} {ds : List PyData} : SqL K H a xs → DdAll K H xs ds → Dd K H (.ref a) (.list ds)
  | tup {a : Addr} {xs : List V} {ds : List PyData} : SqT K H a xs → DdAll K H xs ds → Dd K H (.ref a) (.tuple ds)
  | dic {a : Addr} {kvs : List (Key × V)} {ps : List (PyData × PyData)} : H a = some (.dK kvs) → DdKv K H kvs ps → Dd K H (.ref a) (.dict ps)
inductive DdAll (K : PySem.W.Frag) (H : Hp) : List V → List PyData → Prop
  | nil : DdAll K H [] []
  | cons {v : V} {vs : List V} {d : PyData} {ds : List PyData} : Dd K H v d → DdAll K H vs ds → DdAll K H (v :: vs) (d :: ds)
inductive DdKv (K : PySem.W.Frag) (H : Hp) : List (Key × V) → List (PyData × PyData) → Prop
  | nil : DdKv K H [] []
  | cons {k : Key} {v : V} {r : List (Key × V)} {d : PyData} {ps : List (PyData × PyData)} : Dd K H v d → DdKv K H r ps → DdKv K H ((k, v) :: r) ((keyD k, d) :: ps)
end
theorem sqt_same {K : PySem.W.Frag} {H H' : Hp} {a : Addr} {xs : List V} (e : Same H H') (h : SqT K H a xs) : SqT K H' a xs := by
  rcases h with (h | ⟨o, h⟩) | h
  · exact .inl (.inl (e _ _ h))
  · exact .inl (.inr ⟨o, e _ _ h⟩)
  · exact .inr h
mutual
theorem Dd.same {K : PySem.W.Frag} {H H' : Hp} (s : Same H H') : ∀ (d : PyData) (v : V), Dd K H v d → Dd K H' v d
  | .none, _, h => by cases h; exact .non
  | .bool _, _, h => by cases h; exact .bl _
  | .int _, _, h => by cases h; exact .int _
  | .str _, _, h => by cases h; exact .str _
  | .list ds, _, h => by
    cases h with
    | lst a b => exact .lst (s.seq a) (Dd.sameAll s ds _ b)
  | .tuple ds, _, h => by
    cases h with
    | tup a b => exact .tup (sqt_same s a) (Dd.sameAll s ds _ b)
  | .dict ps, _, h => by
    cases h with
    | dic a b => exact .dic (s _ _ a) (Dd.sameKv s ps _ b)
theorem Dd.sameAll {K : PySem.W.Frag} {H H' : Hp} (s : Same H H') : ∀ (ds : List PyData) (vs : List V), DdAll K H vs ds → DdAll K H' vs ds
  | [], _, h => by cases h; exact .nil
  | d :: ds, _, h => by
    cases h with
    | cons a b => exact .cons (Dd.same s d _ a) (Dd.sameAll s ds _ b)
theorem Dd.sameKv {K : PySem.W.Frag} {H H' : Hp} (s : Same H H') : ∀ (ps : List (PyData × PyData)) (kvs : List (Key × V)), DdKv K H kvs ps → DdKv K H' kvs ps
  | [], _, h => by cases h; exact .nil
  | (_, d) :: ps, _, h => by
    cases h with
    | cons a b => exact .cons (Dd.same s d _ a) (Dd.sameKv s ps _ b)
end
section
variable {X : Cx} {pins : List (Addr × Obj)} {σ : L2.St} {H : Hp} {s : Shared}
/-- what repr tells of a value whose data are known -/
def Shows (X : Cx) (h : Heap) (d : PyData) (u : Value) : Prop := (∃ as, Reads h u d as) ∧ ∃ bs, ReadAtMost h d.depth bs ∧ ReprK X.prog X.w bs h d.depth u d.shown
def ShowsAll (X : Cx) (h : Heap) (ds : List PyData) (us : List Value) : Prop := (∃ as, ReadsAll h us ds as) ∧ ∃ bs, ReadAtMost h (PyData.depthAll ds) bs ∧ ReprAllK X.prog X.w bs h (PyData.depthAll ds) us (PyData.shownAll ds)
theorem ShowsAll.nil {h : Heap} : ShowsAll X h [] [] := ⟨⟨_, .nil⟩, [], (fun _ z => nomatch z), .nil⟩
theorem ShowsAll.cons {h : Heap} {d : PyData} {ds : List PyData} {u : Value} {us : List Value} (a : Shows X h d u) (b : ShowsAll X h ds us) : ShowsAll X h (d :: ds) (u :: us) := by
  obtain ⟨⟨as1, r1⟩, b1, h1, k1⟩ := a
  obtain ⟨⟨as2, r2⟩, b2, h2, k2⟩ := b
  have m1 : d.depth ≤ PyData.depthAll (d :: ds) := Nat.le_max_left _ _
  have m2 : PyData.depthAll ds ≤ PyData.depthAll (d :: ds) := Nat.le_max_right _ _
  exact ⟨⟨_, .cons r1 r2⟩, b1 ++ b2, (h1.mono m1).append (h2.mono m2), .cons ((k1.more fun _ z => List.mem_append_left _ z).level_le m1) (k2.more_le (fun _ z => List.mem_append_right _ z) m2)⟩
theorem Shows.lst {h : Heap} {ds : List PyData} {us : List Value} {a : Addr} {o : Obj} {n : Nat} (ha : h.get? a = some o) (hc : o.cls = .type "list") (hd : o.data = .seq us.toArray n) (b : ShowsAll X h ds us) : Shows X h (.list ds) (.ref a) := by
  obtain ⟨⟨as, r⟩, bs, hb, k⟩ := b
  have R : Reads h (.ref a) (.list ds) _ := .list ha hc hd r
  have off : a ∉ bs := not_mem_of_deeper R (by simp only [PyData.depth]; omega) hb
  refine ⟨⟨_, R⟩, a :: bs, ReadAtMost.cons R (by simp only [PyData.depth]; omega) hb, ?_⟩
  cases us with
  | nil =>
    cases r
    exact ReprK.listEmpty ha hc hd
  | cons u us => exact ReprK.list ha hc hd off (by simpa using k.length_eq) fun i y e => k.item i y (by simpa using e)
theorem Shows.tup {h : Heap} {ds : List PyData} {us : List Value} {a : Addr} (ha : IsTup h a us.toArray) (b : ShowsAll X h ds us) : Shows X h (.tuple ds) (.ref a) := by
  obtain ⟨⟨as, r⟩, bs, hb, k⟩ := b
  obtain ⟨o, ho, hc, n, hd⟩ := ha
  have R : Reads h (.ref a) (.tuple ds) _ := .tuple ho hc hd r
  exact ⟨⟨_, R⟩, a :: bs, ReadAtMost.cons R (by simp only [PyData.depth]; omega) hb, ReprK.tuple ho hc hd (not_mem_of_deeper R (by simp only [PyData.depth]; omega) hb) k⟩
theorem shows_key {h : Heap} {k : Key} {u : Value} (e : keyIs k u = true) (hs : (keyD k).showable = true) (hz : (keyD k).shown.length ≤ sizeLine) : Shows X h (keyD k) u := by
  rcases keyIs_shape e with ⟨i, t, rfl, rfl⟩ | ⟨x, t, rfl, rfl⟩
  · exact ⟨⟨_, .int i t⟩, [], (fun _ z => nomatch z), .of_is (ReprIs.int t (of_decide_eq_true hs)) _ _ _⟩
  · exact ⟨⟨_, .str x t⟩, [], (fun _ z => nomatch z), .of_is (ReprIs.str x t hz) _ _ _⟩
theorem Shows.dic {h : Heap} {ps : List (PyData × PyData)} {es : Array DictEntry} {a : Addr} {o : Obj} {n : Nat} (ho : h.get? a = some o) (hc : o.cls = .type "dict") (hd : o.data = .dict es n) (hsys : (a == sysModules) = false)
    (b1 : ShowsAll X h (ps.map (·.1)) (es.toList.map (·.key))) (b2 : ShowsAll X h (ps.map (·.2)) (es.toList.map (·.val))) : Shows X h (.dict ps) (.ref a) := by
  obtain ⟨⟨as1, r1⟩, c1, h1, k1⟩ := b1
  obtain ⟨⟨as2, r2⟩, c2, h2, k2⟩ := b2
  have R : Reads h (.ref a) (.dict ps) _ := .dict ho hc hd r1 r2
  have hb : ReadAtMost h (PyData.depthKv ps) (c1 ++ c2) := (h1.mono (PyData.depthAll_keys_le ps)).append (h2.mono (PyData.depthAll_vals_le ps))
  refine ⟨⟨_, R⟩, a :: (c1 ++ c2), ReadAtMost.cons R (by simp only [PyData.depth]; omega) hb, ?_⟩
  simp only [PyData.depth, PyData.shown, PyData.shownKv_eq]
  exact ReprK.dict ho hc hd hsys (not_mem_of_deeper R (by simp only [PyData.depth]; omega) hb) (ReprEntriesK.of_two es.toList _ _
    (k1.more_le (fun _ z => List.mem_append_left _ z) (PyData.depthAll_keys_le ps)) (k2.more_le (fun _ z => List.mem_append_right _ z) (PyData.depthAll_vals_le ps)))
theorem all_le {ds : List PyData} {d : PyData} (hd : d ∈ ds) : d.shown ∈ PyData.shownAll ds := by
  induction ds with
  | nil => cases hd
  | cons x xs ih =>
    simp only [PyData.shownAll]
    rcases List.mem_cons.mp hd with e | e
    · rw [e]; exact List.mem_cons_self ..
    · exact List.mem_cons_of_mem _ (ih e)
mutual
theorem Dd.shows (I : Inv X pins σ H s) : ∀ (d : PyData) (v : V) (u : Value), Dd X.K H v d → RelV v u → d.showable = true → d.shown.length ≤ sizeLine → Shows X s.heap d u
  | .none, _, _, h, r, _, _ => by
    cases h; cases r
    exact ⟨⟨_, .none⟩, [], (fun _ z => nomatch z), .of_is ReprIs.none _ _ _⟩
  | .bool b, _, _, h, r, _, _ => by
    cases h; cases r
    exact ⟨⟨_, .bool b⟩, [], (fun _ z => nomatch z), .of_is (ReprIs.bool b) _ _ _⟩
  | .int i, _, _, h, r, hs, _ => by
    cases h
    obtain ⟨t, rfl⟩ := r
    exact ⟨⟨_, .int i t⟩, [], (fun _ z => nomatch z), .of_is (ReprIs.int t (of_decide_eq_true hs)) _ _ _⟩
  | .str x, _, _, h, r, _, hz => by
    cases h
    obtain ⟨t, rfl⟩ := r
    exact ⟨⟨_, .str x t⟩, [], (fun _ z => nomatch z), .of_is (ReprIs.str x t hz) _ _ _⟩
  | .list ds, _, _, h, r, hs, hz => by
    cases h with
    | lst hq ha =>
      cases r
      obtain ⟨its, rv, ⟨o, n, ho, hc, _, hd⟩, _⟩ := I.list hq
      have hz' : (listText (PyData.shownAll ds)).length ≤ sizeLine := by simpa only [PyData.shown] using hz
      exact Shows.lst ho hc hd (Dd.showsAll I ds _ its ha rv (by simpa [PyData.showable] using hs) fun t ht => Nat.le_trans (listText_mem_le ht) hz')
  | .tuple ds, _, _, h, r, hs, hz => by
    cases h with
    | tup hq ha =>
      cases r
      obtain ⟨its, rv, ⟨o, ho, hc, n, hd⟩, _⟩ := I.tuple hq
      have hz' : (tupleText (PyData.shownAll ds)).length ≤ sizeLine := by simpa only [PyData.shown] using hz
      exact Shows.tup ⟨o, ho, hc, n, hd⟩ (Dd.showsAll I ds _ its ha rv (by simpa [PyData.showable] using hs) fun t ht => Nat.le_trans (tupleText_mem_le ht) hz')
  | .dict ps, _, _, h, r, hs, hz => by
    cases h with
    | dic hq ha =>
      cases r
      obtain ⟨_, hsys, vs, kv, o, es, ep, ho, ⟨hc, _, _⟩, hd, _, pr, _⟩ := I.hok _ _ hq
      have hz' : (dictText (PyData.shownKv ps)).length ≤ sizeLine := by simpa only [PyData.shown] using hz
      obtain ⟨b1, b2⟩ := Dd.showsKv I ps _ vs es.toList ha kv pr (by simpa [PyData.showable] using hs) (fun t ht => Nat.le_trans (dictText_mem_le ht) hz')
      exact Shows.dic ho hc hd hsys b1 b2
theorem Dd.showsAll (I : Inv X pins σ H s) : ∀ (ds : List PyData) (vs : List V) (us : List Value), DdAll X.K H vs ds → Vals vs us → PyData.showableAll ds = true → (∀ t ∈ PyData.shownAll ds, t.length ≤ sizeLine) → ShowsAll X s.heap ds us
  | [], _, _, h, r, _, _ => by
    cases h; cases r
    exact .nil
  | d :: ds, _, _, h, r, hs, hz => by
    cases h with
    | cons h1 h2 => cases r with
      | cons r1 r2 =>
        have hs' : d.showable = true ∧ PyData.showableAll ds = true := by simpa [PyData.showableAll] using hs
        exact .cons (Dd.shows I d _ _ h1 r1 hs'.1 (hz _ (by simp only [PyData.shownAll]; exact List.mem_cons_self ..))) (Dd.showsAll I ds _ _ h2 r2 hs'.2 fun t ht => hz t (by simp only [PyData.shownAll]; exact List.mem_cons_of_mem _ ht))
theorem Dd.showsKv (I : Inv X pins σ H s) : ∀ (ps : List (PyData × PyData)) (kvs : List (Key × V)) (vs : List (Key × Value)) (es : List DictEntry), DdKv X.K H kvs ps → KV kvs vs → Pairs (mixKind X.prog X.w) es vs → PyData.showableKv ps = true →
    (∀ t ∈ PyData.shownKv ps, t.length ≤ sizeLine) → ShowsAll X s.heap (ps.map (·.1)) (es.map (·.key)) ∧ ShowsAll X s.heap (ps.map (·.2)) (es.map (·.val))
  | [], _, _, _, h, kv, pr, _, _ => by
    cases h; cases kv; cases pr
    exact ⟨.nil, .nil⟩
  | (k, d) :: ps, _, _, _, h, kv, pr, hs, hz => by
    cases h with
    | cons h1 h2 => cases kv with
      | cons e kv2 => cases pr with
        | cons p1 p2 p3 =>
          rename_i k0 v0 _ q _ en _
          have hs' : ((keyD k0).showable = true ∧ d.showable = true) ∧ PyData.showableKv ps = true := by simpa [PyData.showableKv] using hs
          have z0 := hz _ (by simp only [PyData.shownKv]; exact List.mem_cons_self ..)
          obtain ⟨e1, e2⟩ := e
          have z1 : (keyD k0).shown.length ≤ sizeLine := Nat.le_trans (by simp only [Str.length_append]; omega) z0
          have z2 : d.shown.length ≤ sizeLine := Nat.le_trans (by simp only [Str.length_append]; omega) z0
          obtain ⟨i1, i2⟩ := Dd.showsKv I ps _ _ _ h2 kv2 p3 hs'.2 fun t ht => hz t (by simp only [PyData.shownKv]; exact List.mem_cons_of_mem _ ht)
          have q1 : k0 = q.1 := e1
          have ky : keyIs k0 en.key = true := by rw [q1]; exact p1
          refine ⟨.cons (shows_key ky hs'.1.1 z1) i1, .cons (Dd.shows I d v0 _ h1 ?_ hs'.1.2 z2) i2⟩
          show RelV v0 en.val
          rw [p2]; exact e2
end
/-- repr of any such data -/
def rShow (K : PySem.W.Frag) : List V → Hp → VK → Prop := fun xs H Q => ∃ (v : V) (d : PyData), xs = [v] ∧ Dd K H v d ∧ d.showable = true ∧ d.depth ≤ 40 ∧ d.shown.length ≤ sizeLine ∧ Q (.str d.shown) H
theorem call_show (hq : Quiet X.A) (hu : X.A.units + 64 < cLine) : CallR X (.builtin "repr") (rShow X.K) := by
  intro pins s σ H xs us Q I r h
  obtain ⟨v, d, rfl, hd, hs, hp, hz, q⟩ := h
  cases r with
  | cons rv rn =>
    rename_i u us'
    cases rn
    have done : ∀ h' tk, (∀ b o, s.heap.get? b = some o → h'.get? b = some o) → ∀ z, EP X pins σ Q (.str d.shown z) { s with heap := h', toks := tk } := fun h' tk hk z => ⟨.str _, H, I.kept hk, ⟨z, rfl⟩, q⟩
    cases hd with
    | non => cases rv; exact PySem.P.repr_of_none ⟨.str _, H, I.tok _, ⟨_, rfl⟩, q⟩
    | bl b => cases rv; exact PySem.P.repr_of_bool ⟨.str _, H, I.tok _, ⟨_, rfl⟩, q⟩
    | int i =>
      obtain ⟨t, rfl⟩ := rv
      exact PySem.P.repr_of_int (of_decide_eq_true hs) ⟨.str _, H, I.tok _, ⟨_, rfl⟩, q⟩
    | str x =>
      obtain ⟨t, rfl⟩ := rv
      exact PySem.P.repr_of_str ⟨.str _, H, I.tok _, ⟨_, rfl⟩, q⟩
    | @lst a xs ds hq2 ha =>
      cases rv
      obtain ⟨its, rv2, ⟨o, n, ho, hc, _, hd2⟩, _⟩ := I.list hq2
      have hz' : (listText (PyData.shownAll ds)).length ≤ sizeLine := by simpa only [PyData.shown] using hz
      have hp' : PyData.depthAll ds + 1 ≤ 40 := by simpa only [PyData.depth] using hp
      obtain ⟨⟨as, r⟩, bs, hb, k⟩ := Dd.showsAll I ds _ its ha rv2 (by simpa [PyData.showable] using hs) fun t ht => Nat.le_trans (listText_mem_le ht) hz'
      have R : Reads s.heap (.ref a) (.list ds) _ := .list ho hc hd2 r
      have off : a ∉ bs := not_mem_of_deeper R (by simp only [PyData.depth]; omega) hb
      refine call_repr_slot (by omega) ⟨o, ho, hc⟩ F.slot_list_repr.toG ?_
      simp only [PyData.shown] at done
      cases its with
      | nil =>
        cases r
        simp only [PyData.shownAll, listText_nil] at done
        exact call_list_repr_empty ⟨o, ho, hc⟩ ho hd2 ⟨_, _, rfl, done s.heap _ (fun _ _ e => e) _⟩
      | cons u us => exact call_list_reprK ho hc hd2 off (by simpa using k.length_eq) (fun i y e => k.item i y (by simpa using e)) hq (fun b _ => Clear.nil b) (by show X.A.units + 1 + (PyData.depthAll ds + 1) < cLine; omega) (fun _ _ e => e) (fun h' u tk hk => ⟨_, _, rfl, done h' tk hk u⟩) hz'
    | @tup a xs ds hq2 ha =>
      cases rv
      obtain ⟨its, rv2, ⟨o, ho, hc, n, hd2⟩, _⟩ := I.tuple hq2
      have hz' : (tupleText (PyData.shownAll ds)).length ≤ sizeLine := by simpa only [PyData.shown] using hz
      have hp' : PyData.depthAll ds + 1 ≤ 40 := by simpa only [PyData.depth] using hp
      obtain ⟨⟨as, r⟩, bs, hb, k⟩ := Dd.showsAll I ds _ its ha rv2 (by simpa [PyData.showable] using hs) fun t ht => Nat.le_trans (tupleText_mem_le ht) hz'
      have R : Reads s.heap (.ref a) (.tuple ds) _ := .tuple ho hc hd2 r
      have off : a ∉ bs := not_mem_of_deeper R (by simp only [PyData.depth]; omega) hb
      simp only [PyData.shown] at done
      exact call_repr_slot (by omega) ⟨o, ho, hc⟩ F.slot_tuple_repr (call_tuple_reprK ho hc hd2 off k hq (fun b _ => Clear.nil b) (by show X.A.units + 1 + (PyData.depthAll ds + 1) < cLine; omega) (fun _ _ e => e) (fun h' u tk hk => ⟨_, _, rfl, done h' tk hk u⟩) hz')
    | @dic a kvs ps hq2 ha =>
      cases rv
      obtain ⟨_, hsys, vs, kv, o, es, ep, ho, ⟨hc, _, _⟩, hd2, _, pr, _⟩ := I.hok _ _ hq2
      have hz' : (dictText (PyData.shownKv ps)).length ≤ sizeLine := by simpa only [PyData.shown] using hz
      have hp' : PyData.depthKv ps + 1 ≤ 40 := by simpa only [PyData.depth] using hp
      obtain ⟨⟨⟨as1, r1⟩, c1, h1, k1⟩, ⟨as2, r2⟩, c2, h2, k2⟩ := Dd.showsKv I ps _ vs es.toList ha kv pr (by simpa [PyData.showable] using hs) (fun t ht => Nat.le_trans (dictText_mem_le ht) hz')
      have R : Reads s.heap (.ref a) (.dict ps) _ := .dict ho hc hd2 r1 r2
      have hb : ReadAtMost s.heap (PyData.depthKv ps) (c1 ++ c2) := (h1.mono (PyData.depthAll_keys_le ps)).append (h2.mono (PyData.depthAll_vals_le ps))
      have off : a ∉ c1 ++ c2 := not_mem_of_deeper R (by simp only [PyData.depth]; omega) hb
      simp only [PyData.shown] at done
      exact call_repr_slot (by omega) ⟨o, ho, hc⟩ F.slot_dict_repr (call_dict_reprK ho hc hd2 hsys off (ReprEntriesK.of_two es.toList _ _
        (k1.more_le (fun _ z => List.mem_append_left _ z) (PyData.depthAll_keys_le ps)) (k2.more_le (fun _ z => List.mem_append_right _ z) (PyData.depthAll_vals_le ps)) |> fun z => by rw [← PyData.shownKv_eq] at z; exact z)
        hq (fun b _ => Clear.nil b) (by show X.A.units + 1 + (PyData.depthKv ps + 1) < cLine; omega) (fun _ _ e => e) (fun h' u tk hk => ⟨_, _, rfl, done h' tk hk u⟩) hz')
end
section
variable {K : PySem.W.Frag} {σ : L2.St} {H : Hp} {te : TE} {v : V} {d : PyData}
theorem v_show (h : Val te σ H v) (hd : Dd K H v d) (hs : d.showable = true) (hp : d.depth ≤ 40) (hz : d.shown.length ≤ 100000) : Val (tCB (rShow K) (tCons te tNil)) σ H (.str d.shown) := v_cb (va_cons h va_nil) fun Q q => ⟨v, d, rfl, hd, hs, hp, Nat.le_trans hz (by decide), q⟩
end
end GL

/-! several clauses 'except X as e' in one try -/
namespace TM
open PySem PySem.Spec PyProof.Rows L2
abbrev Cl := Value × Nat × (Addr → Value → Option Addr → TS)
/-- what the clauses wish of an exception, the first one first -/
def wNames (K : PySem.W.Frag) (Wout : WX) (D : Ends) (l : List Cl) : WX := l.foldr (fun q W => wAs K q.1 q.2.1 q.2.2 W D) Wout
/-- asked only of states that hold every name -/
def wLen (n : Nat) (W : WX) : WX := fun cls d σ H => σ.length = n → W cls d σ H
inductive Clauses (X : Cx) : List ExceptHandler → List Cl → Prop
  | nil : Clauses X [] []
  | cons {x n : Str} {c : Value} {i : Nat} {ts : Addr → Value → Option Addr → TS} {b : Stmt} {r : List Stmt} {np hp : Pos} {hds : List ExceptHandler} {l : List Cl} (hi : X.N[i]? = some n) (hn : X.env.kindOf n = some .local) (hc : Names X x c)
      (suite : ∀ (a : Addr) (oe : Obj) (cls : Value) (d : Option Addr) (pn : List (Addr × Obj)), Zc cls d oe → (∃ vs, oe.data = .fields vs) → PSs (X.suite a ((a, oe) :: pn)) (b :: r) (ts a cls d)) (more : Clauses X hds l) :
      Clauses X (.ExceptHandler (some (.Name x np)) (some n) (b :: r) hp :: hds) ((c, i, ts) :: l)
section
variable {X : Cx} {body : List Stmt} {h₀ : ExceptHandler} {hds : List ExceptHandler} {l : List Cl} {pos : Pos} {tb : WX → TS} {Wout : WX}
theorem ps_try_names (hs : X.stack = X.env :: X.outer) (hf : X.env.frame = some X.env.locals) (hN : X.N.Nodup) (tk : Takes X Wout)
    (hb : ∀ (W : WX) (pn : List (Addr × Obj)) (xe : Value → Shared → Prop), Takes (X.tr pn xe) W → PassesOwn (model X.prog X.w) X.A X.env xe → PSs (X.tr pn xe) body (tb W))
    (cl : Clauses X (h₀ :: hds) l) : PS X (.Try body (h₀ :: hds) [] [] pos) (fun D σ H => tb (wLen X.N.length (wNames X.K Wout D l)) D σ H) := by
  refine ⟨fun pins s σ H D I h => ?_⟩
  have ok := I.ok
  have frames : X.A.frames = some (X.env :: X.outer) := by rw [ok.frames, hs]
  refine wpAny_Try_except ?_
  have run := (hb (wLen X.N.length (wNames X.K Wout D l)) (X.pn ++ pins) (fun e t => wpAny (model X.prog X.w) X.A (noteFrame e X.env) (fun _ t2 => wpAny (model X.prog X.w) X.A (setFlight e none) (fun _ t3 =>
    wpAny (model X.prog X.w) X.A (handleBy e X.env (h₀ :: hds)) (SP X pins D) X.xe t3) X.xe t2) X.xe t) (fun u s' xx => ?_) PassesOwn.looking).run [] s σ H D (I.toTry _) h
  · refine wpAny_mono run (fun f s1 e => ?_) (fun e s1 he => he)
    cases f with
    | next =>
      obtain ⟨σ', H', J', q⟩ := e
      exact wpAny_execs_nil ⟨σ', H', J'.ofTry ok, q⟩
    | brk =>
      obtain ⟨σ', H', J', q⟩ := e
      exact ⟨σ', H', J'.ofTry ok, q⟩
    | cont =>
      obtain ⟨σ', H', J', q⟩ := e
      exact ⟨σ', H', J'.ofTry ok, q⟩
    | ret u =>
      obtain ⟨v, σ', H', J', r, q⟩ := e
      exact ⟨v, σ', H', J'.ofTry ok, r, q⟩
  · obtain ⟨a, B, sI, pins', σ', H', cls, d, rfl, J', nb, up, sky, na, os, ag, w⟩ := xx
    have J : Inv X pins σ' H' sI := J'.ofTry ok
    have sky' : Sky B (X.env :: X.outer) a (Zc cls d) X.env.locals s'.heap := by rw [← hs]; exact sky
    show wpAny (model X.prog X.w) X.A (noteFrame (.ref a) X.env) _ _ _
    refine Sky.land Zc.steady frames hf sky' fun h3 fl3 up3 => ?_
    have J3 : Inv X pins σ' H' { s' with heap := h3 } := J.landed nb fl3.1 (up.trans up3) os ag
    obtain ⟨oe, vs, he, hz, hd⟩ := fl3.there
    have away : a ∉ frs (X.env :: X.outer) := fun hm => by
      obtain ⟨_, o', e', no⟩ := fl3.2.2.1.mem hm
      rw [he] at e'; cases e'
      exact no _ hd
    have nL : a ≠ X.env.locals := fun z => away (List.mem_filterMap.mpr ⟨X.env, List.mem_cons_self, by rw [hf, z]⟩)
    have nF : a ∉ X.fs := fun hm => by
      obtain ⟨e, m, q⟩ := List.mem_filterMap.mp hm
      exact away (List.mem_filterMap.mpr ⟨e, List.mem_cons_of_mem _ m, q⟩)
    have S3 := J3.suite he hd na nL nF
    have looks : PySem.W.Looks (model X.prog X.w) h3 (typeOf (.ref a)) cls := fun A Q E s k q => wpAny_typeOf_ref (k _ _ he) (by rw [hz.1]; exact q)
    suffices go : ∀ {hs' : List ExceptHandler} {l' : List Cl}, Clauses X hs' l' → wNames X.K Wout D l' cls d σ' H' → wpAny (model X.prog X.w) X.A (handleBy (.ref a) X.env hs') (SP X pins D) X.xe { s' with heap := h3 } from go cl (w J.len)
    intro hs' l' k
    induction k with
    | nil =>
      intro w
      refine wpAny_handleBy_nil ?_
      obtain ⟨k1, k2, k3, oe2, vs2, T, oT, ts', he2, hz2, hd2, h1, hr⟩ := id fl3
      unfold PySem.passOn
      refine wpAny_bind (wpAny_field he2 hd2 h1 ?_)
      rw [if_neg (show ¬ ((Value.ref T == Value.none) = true) from by simp)]
      have out : wpAny (model X.prog X.w) X.A (setFlight (.ref a) X.env.frame) (fun _ s4 => wpAny (model X.prog X.w) X.A (throw (.ref a) : Sem Flow) (SP X pins D) X.xe s4) X.xe { s' with heap := h3 } := by
        rw [hf]
        refine HandSPX.setFlight_upZ fl3 fun h4 hh4 up4 => wpAny_throw (tk _ _ ?_)
        exact ⟨a, B, sI, pins, σ', H', cls, d, rfl, J, nb, (up.trans up3).trans up4, .inr (.inr (by rw [hs]; exact hh4)), na, os, ag, w⟩
      first
        | exact wpAny_bind (wpAny_pure (wpAny_bind out))
        | exact wpAny_bind out
    | @cons x n c i ts b r np hp hds2 l2 hi hn hc suite more ih =>
      intro w
      obtain ⟨t, ht, yes, no⟩ := w
      refine wpAny_handleBy_cons (codeAny_handlers_test ?_) (by intro q; cases q)
      have LM := PySem.W.exm_one (M := model X.prog X.w) (J3.kIn) looks ht
      have test : ∀ {Q : Value → Shared → Prop} {E : Value → Shared → Prop}, Q c { s' with heap := h3 } → wpAny (model X.prog X.w) (X.A.mark (some (.ref a))) (eval (.Name x np) X.env) Q E { s' with heap := h3 } := fun {Q E} q => by
        obtain ⟨g, db, hm | ⟨hm, hv, nn⟩⟩ := hc
        · exact ld_glob (X := X.suite a ((a, oe) :: (X.pn ++ pins))) S3 g hm q db
        · exact ld_blt (X := X.suite a ((a, oe) :: (X.pn ++ pins))) S3 g hm hv q nn db
      refine test (LM.here ?_)
      cases t with
      | false => exact ih (no rfl)
      | true =>
        refine codeAny_handlers_suite_as ?_
        refine HandSPX.lands_againZ fl3 fun h4 fl4 up4 => ?_
        have J4 : Inv X pins σ' H' { s' with heap := h4 } := J.landed nb fl4.1 ((up.trans up3).trans up4) os ag
        obtain ⟨oe4, vs4, he4, hz4, hd4⟩ := fl4.there
        have S4 := J4.suite he4 hd4 na nL nF
        refine store_ok (X := X.suite a ((a, oe4) :: (X.pn ++ pins))) (v := .ref a) S4 hN hi (.inl hn) rfl (fun s5 S5 => ?_) (.inr hn)
        refine wpAny_mono ((suite a oe4 cls d (X.pn ++ pins) hz4 ⟨_, hd4⟩).run [] s5 _ H' _ S5 (yes rfl a na)) (fun f s6 e => ?_) (fun _ _ z => False.elim z)
        cases f with
        | next =>
          obtain ⟨σ6, H6, S6, q6⟩ := e
          exact gone_ok (S6.unsuite ok) hN hi hn fun s7 J7 => ⟨_, _, J7, q6⟩
        | brk =>
          obtain ⟨σ6, H6, S6, q6⟩ := e
          exact gone_ok (S6.unsuite ok) hN hi hn fun s7 J7 => ⟨_, _, J7, q6⟩
        | cont =>
          obtain ⟨σ6, H6, S6, q6⟩ := e
          exact gone_ok (S6.unsuite ok) hN hi hn fun s7 J7 => ⟨_, _, J7, q6⟩
        | ret u =>
          obtain ⟨v6, σ6, H6, S6, r6, q6⟩ := e
          exact gone_ok (S6.unsuite ok) hN hi hn fun s7 J7 => ⟨_, _, _, J7, r6, q6⟩
end
end TM

/-! several clauses in one try, with names or without -/
namespace TN
open PySem PySem.Spec PyProof.Rows L2
abbrev Cl := Value × Option Nat × (Addr → Value → Option Addr → TS)
def w1 (K : PySem.W.Frag) (D : Ends) (q : Cl) (W : WX) : WX := match q.2.1 with
  | some i => wAs K q.1 i q.2.2 W D
  | none => fun cls d σ H => ∃ b, PySem.W.exmOne K cls q.1 = some b ∧ (b = true → ∀ a, H a = none → q.2.2 a cls d D σ H) ∧ (b = false → W cls d σ H)
/-- what the clauses wish of an exception, the first one first -/
def wNames (K : PySem.W.Frag) (Wout : WX) (D : Ends) (l : List Cl) : WX := l.foldr (w1 K D) Wout
/-- asked only of states that hold every name -/
def wLen (n : Nat) (W : WX) : WX := fun cls d σ H => σ.length = n → W cls d σ H
inductive Clauses (X : Cx) : List ExceptHandler → List Cl → Prop
  | nil : Clauses X [] []
  | cons {x n : Str} {c : Value} {i : Nat} {ts : Addr → Value → Option Addr → TS} {b : Stmt} {r : List Stmt} {np hp : Pos} {hds : List ExceptHandler} {l : List Cl} (hi : X.N[i]? = some n) (hn : X.env.kindOf n = some .local) (hc : Names X x c)
      (suite : ∀ (a : Addr) (oe : Obj) (cls : Value) (d : Option Addr) (pn : List (Addr × Obj)), Zc cls d oe → (∃ vs, oe.data = .fields vs) → PSs (X.suite a ((a, oe) :: pn)) (b :: r) (ts a cls d)) (more : Clauses X hds l) :
      Clauses X (.ExceptHandler (some (.Name x np)) (some n) (b :: r) hp :: hds) ((c, some i, ts) :: l)
  | plain {x : Str} {c : Value} {ts : Addr → Value → Option Addr → TS} {b : Stmt} {r : List Stmt} {np hp : Pos} {hds : List ExceptHandler} {l : List Cl} (hc : Names X x c)
      (suite : ∀ (a : Addr) (oe : Obj) (cls : Value) (d : Option Addr) (pn : List (Addr × Obj)), Zc cls d oe → (∃ vs, oe.data = .fields vs) → PSs (X.suite a ((a, oe) :: pn)) (b :: r) (ts a cls d)) (more : Clauses X hds l) :
      Clauses X (.ExceptHandler (some (.Name x np)) none (b :: r) hp :: hds) ((c, none, ts) :: l)
section
variable {X : Cx} {body : List Stmt} {h₀ : ExceptHandler} {hds : List ExceptHandler} {l : List Cl} {pos : Pos} {tb : WX → TS} {Wout : WX}
theorem ps_try_names (hs : X.stack = X.env :: X.outer) (hf : X.env.frame = some X.env.locals) (hN : X.N.Nodup) (tk : Takes X Wout)
    (hb : ∀ (W : WX) (pn : List (Addr × Obj)) (xe : Value → Shared → Prop), Takes (X.tr pn xe) W → PassesOwn (model X.prog X.w) X.A X.env xe → PSs (X.tr pn xe) body (tb W))
    (cl : Clauses X (h₀ :: hds) l) : PS X (.Try body (h₀ :: hds) [] [] pos) (fun D σ H => tb (wLen X.N.length (wNames X.K Wout D l)) D σ H) := by
  refine ⟨fun pins s σ H D I h => ?_⟩
  have ok := I.ok
  have frames : X.A.frames = some (X.env :: X.outer) := by rw [ok.frames, hs]
  refine wpAny_Try_except ?_
  have run := (hb (wLen X.N.length (wNames X.K Wout D l)) (X.pn ++ pins) (fun e t => wpAny (model X.prog X.w) X.A (noteFrame e X.env) (fun _ t2 => wpAny (model X.prog X.w) X.A (setFlight e none) (fun _ t3 =>
    wpAny (model X.prog X.w) X.A (handleBy e X.env (h₀ :: hds)) (SP X pins D) X.xe t3) X.xe t2) X.xe t) (fun u s' xx => ?_) PassesOwn.looking).run [] s σ H D (I.toTry _) h
  · refine wpAny_mono run (fun f s1 e => ?_) (fun e s1 he => he)
    cases f with
    | next =>
      obtain ⟨σ', H', J', q⟩ := e
      exact wpAny_execs_nil ⟨σ', H', J'.ofTry ok, q⟩
    | brk =>
      obtain ⟨σ', H', J', q⟩ := e
      exact ⟨σ', H', J'.ofTry ok, q⟩
    | cont =>
      obtain ⟨σ', H', J', q⟩ := e
      exact ⟨σ', H', J'.ofTry ok, q⟩
    | ret u =>
      obtain ⟨v, σ', H', J', r, q⟩ := e
      exact ⟨v, σ', H', J'.ofTry ok, r, q⟩
  · obtain ⟨a, B, sI, pins', σ', H', cls, d, rfl, J', nb, up, sky, na, os, ag, w⟩ := xx
    have J : Inv X pins σ' H' sI := J'.ofTry ok
    have sky' : Sky B (X.env :: X.outer) a (Zc cls d) X.env.locals s'.heap := by rw [← hs]; exact sky
    show wpAny (model X.prog X.w) X.A (noteFrame (.ref a) X.env) _ _ _
    refine Sky.land Zc.steady frames hf sky' fun h3 fl3 up3 => ?_
    have J3 : Inv X pins σ' H' { s' with heap := h3 } := J.landed nb fl3.1 (up.trans up3) os ag
    obtain ⟨oe, vs, he, hz, hd⟩ := fl3.there
    have away : a ∉ frs (X.env :: X.outer) := fun hm => by
      obtain ⟨_, o', e', no⟩ := fl3.2.2.1.mem hm
      rw [he] at e'; cases e'
      exact no _ hd
    have nL : a ≠ X.env.locals := fun z => away (List.mem_filterMap.mpr ⟨X.env, List.mem_cons_self, by rw [hf, z]⟩)
    have nF : a ∉ X.fs := fun hm => by
      obtain ⟨e, m, q⟩ := List.mem_filterMap.mp hm
      exact away (List.mem_filterMap.mpr ⟨e, List.mem_cons_of_mem _ m, q⟩)
    have S3 := J3.suite he hd na nL nF
    have looks : PySem.W.Looks (model X.prog X.w) h3 (typeOf (.ref a)) cls := fun A Q E s k q => wpAny_typeOf_ref (k _ _ he) (by rw [hz.1]; exact q)
    suffices go : ∀ {hs' : List ExceptHandler} {l' : List Cl}, Clauses X hs' l' → wNames X.K Wout D l' cls d σ' H' → wpAny (model X.prog X.w) X.A (handleBy (.ref a) X.env hs') (SP X pins D) X.xe { s' with heap := h3 } from go cl (w J.len)
    intro hs' l' k
    induction k with
    | nil =>
      intro w
      refine wpAny_handleBy_nil ?_
      obtain ⟨k1, k2, k3, oe2, vs2, T, oT, ts', he2, hz2, hd2, h1, hr⟩ := id fl3
      unfold PySem.passOn
      refine wpAny_bind (wpAny_field he2 hd2 h1 ?_)
      rw [if_neg (show ¬ ((Value.ref T == Value.none) = true) from by simp)]
      have out : wpAny (model X.prog X.w) X.A (setFlight (.ref a) X.env.frame) (fun _ s4 => wpAny (model X.prog X.w) X.A (throw (.ref a) : Sem Flow) (SP X pins D) X.xe s4) X.xe { s' with heap := h3 } := by
        rw [hf]
        refine HandSPX.setFlight_upZ fl3 fun h4 hh4 up4 => wpAny_throw (tk _ _ ?_)
        exact ⟨a, B, sI, pins, σ', H', cls, d, rfl, J, nb, (up.trans up3).trans up4, .inr (.inr (by rw [hs]; exact hh4)), na, os, ag, w⟩
      first
        | exact wpAny_bind (wpAny_pure (wpAny_bind out))
        | exact wpAny_bind out
    | @cons x n c i ts b r np hp hds2 l2 hi hn hc suite more ih =>
      intro w
      obtain ⟨t, ht, yes, no⟩ := w
      refine wpAny_handleBy_cons (codeAny_handlers_test ?_) (by intro q; cases q)
      have LM := PySem.W.exm_one (M := model X.prog X.w) (J3.kIn) looks ht
      have test : ∀ {Q : Value → Shared → Prop} {E : Value → Shared → Prop}, Q c { s' with heap := h3 } → wpAny (model X.prog X.w) (X.A.mark (some (.ref a))) (eval (.Name x np) X.env) Q E { s' with heap := h3 } := fun {Q E} q => by
        obtain ⟨g, db, hm | ⟨hm, hv, nn⟩⟩ := hc
        · exact ld_glob (X := X.suite a ((a, oe) :: (X.pn ++ pins))) S3 g hm q db
        · exact ld_blt (X := X.suite a ((a, oe) :: (X.pn ++ pins))) S3 g hm hv q nn db
      refine test (LM.here ?_)
      cases t with
      | false => exact ih (no rfl)
      | true =>
        refine codeAny_handlers_suite_as ?_
        refine HandSPX.lands_againZ fl3 fun h4 fl4 up4 => ?_
        have J4 : Inv X pins σ' H' { s' with heap := h4 } := J.landed nb fl4.1 ((up.trans up3).trans up4) os ag
        obtain ⟨oe4, vs4, he4, hz4, hd4⟩ := fl4.there
        have S4 := J4.suite he4 hd4 na nL nF
        refine store_ok (X := X.suite a ((a, oe4) :: (X.pn ++ pins))) (v := .ref a) S4 hN hi (.inl hn) rfl (fun s5 S5 => ?_) (.inr hn)
        refine wpAny_mono ((suite a oe4 cls d (X.pn ++ pins) hz4 ⟨_, hd4⟩).run [] s5 _ H' _ S5 (yes rfl a na)) (fun f s6 e => ?_) (fun _ _ z => False.elim z)
        cases f with
        | next =>
          obtain ⟨σ6, H6, S6, q6⟩ := e
          exact gone_ok (S6.unsuite ok) hN hi hn fun s7 J7 => ⟨_, _, J7, q6⟩
        | brk =>
          obtain ⟨σ6, H6, S6, q6⟩ := e
          exact gone_ok (S6.unsuite ok) hN hi hn fun s7 J7 => ⟨_, _, J7, q6⟩
        | cont =>
          obtain ⟨σ6, H6, S6, q6⟩ := e
          exact gone_ok (S6.unsuite ok) hN hi hn fun s7 J7 => ⟨_, _, J7, q6⟩
        | ret u =>
          obtain ⟨v6, σ6, H6, S6, r6, q6⟩ := e
          exact gone_ok (S6.unsuite ok) hN hi hn fun s7 J7 => ⟨_, _, _, J7, r6, q6⟩
    | @plain x c ts b r np hp hds2 l2 hc suite more ih =>
      intro w
      obtain ⟨t, ht, yes, no⟩ := w
      refine wpAny_handleBy_cons (codeAny_handlers_test ?_) (by intro q; cases q)
      have LM := PySem.W.exm_one (M := model X.prog X.w) (J3.kIn) looks ht
      have test : ∀ {Q : Value → Shared → Prop} {E : Value → Shared → Prop}, Q c { s' with heap := h3 } → wpAny (model X.prog X.w) (X.A.mark (some (.ref a))) (eval (.Name x np) X.env) Q E { s' with heap := h3 } := fun {Q E} q => by
        obtain ⟨g, db, hm | ⟨hm, hv, nn⟩⟩ := hc
        · exact ld_glob (X := X.suite a ((a, oe) :: (X.pn ++ pins))) S3 g hm q db
        · exact ld_blt (X := X.suite a ((a, oe) :: (X.pn ++ pins))) S3 g hm hv q nn db
      refine test (LM.here ?_)
      cases t with
      | false => exact ih (no rfl)
      | true =>
        refine codeAny_handlers_suite ?_
        refine HandSPX.lands_againZ fl3 fun h4 fl4 up4 => ?_
        have J4 : Inv X pins σ' H' { s' with heap := h4 } := J.landed nb fl4.1 ((up.trans up3).trans up4) os ag
        obtain ⟨oe4, vs4, he4, hz4, hd4⟩ := fl4.there
        have S4 := J4.suite he4 hd4 na nL nF
        refine wpAny_mono ((suite a oe4 cls d (X.pn ++ pins) hz4 ⟨_, hd4⟩).run [] _ _ H' _ S4 (yes rfl a na)) (fun f s6 hsp => ?_) (fun _ _ z => False.elim z)
        cases f with
        | next =>
          obtain ⟨σ6, H6, S6, q6⟩ := hsp
          exact ⟨_, _, S6.unsuite ok, q6⟩
        | brk =>
          obtain ⟨σ6, H6, S6, q6⟩ := hsp
          exact ⟨_, _, S6.unsuite ok, q6⟩
        | cont =>
          obtain ⟨σ6, H6, S6, q6⟩ := hsp
          exact ⟨_, _, S6.unsuite ok, q6⟩
        | ret u =>
          obtain ⟨v6, σ6, H6, S6, r6, q6⟩ := hsp
          exact ⟨_, _, _, S6.unsuite ok, r6, q6⟩
end
end TN

/-! list(zip(a, b)) of two lists, or of two tuples, of one length -/
namespace ZL
open PySem PySem.Spec PyProof.Rows L2
/-- a walk over a sequence -/
structure Cur (It : Heap → Addr → Addr → Nat → Prop) (Src : Heap → Addr → Array Value → Prop) : Prop where
  item : ∀ {prog : Program} {w : World} {A : Around} {E : Value → Shared → Prop} {s : Shared} {it l : Addr} {i : Nat} {xs : Array Value} {x : Value} {Q : Value → Shared → Prop}, It s.heap it l i → Src s.heap l xs → xs[i]? = some x →
    (∀ h', It h' it l (i + 1) → Heap.SameBut it s.heap h' → Q x { s with heap := h' }) → wpAny (model prog w) A (Builtin.SmallTypes.nextOf (.ref it)) Q E s
  stop : ∀ {prog : Program} {w : World} {A : Around} {E : Value → Shared → Prop} {s : Shared} {it l : Addr} {i : Nat} {xs : Array Value} {Q : Value → Shared → Prop}, A.handled = none → It s.heap it l i → Src s.heap l xs → xs[i]? = none →
    (∀ h' e, Heap.ExtBut it s.heap h' → (∃ o, h'.get? e = some o ∧ o.cls = .type "StopIteration") → E (.ref e) { s with heap := h' }) → wpAny (model prog w) A (Builtin.SmallTypes.nextOf (.ref it)) Q E s
  itk : ∀ {h h' : Heap} {it l : Addr} {k : Nat}, It h it l k → (∀ o, h.get? it = some o → h'.get? it = some o) → It h' it l k
  srk : ∀ {h h' : Heap} {l : Addr} {xs : Array Value}, Src h l xs → (∀ o, h.get? l = some o → h'.get? l = some o) → Src h' l xs
  first : ∀ {prog : Program} {w : World} {A : Around} {E : Value → Shared → Prop} {s : Shared} {z TI TO i1 i2 l1 l2 : Addr} {k1 k2 : Nat} {xs ys : Array Value} {x y a b : Value} {Q : Option Value → Shared → Prop}, ZipApart z TI TO i1 i2 l1 l2 →
    IsZip s.heap z TI TO .none → IsPair s.heap TI (.ref i1) (.ref i2) → IsPair s.heap TO a b → It s.heap i1 l1 k1 → It s.heap i2 l2 k2 → Src s.heap l1 xs → Src s.heap l2 ys → xs[k1]? = some x → ys[k2]? = some y →
    (∀ h', IsZip h' z TI TO (rawInt s.heap.objs.size) → IsPair h' TO x y → It h' i1 l1 (k1 + 1) → It h' i2 l2 (k2 + 1) → IsPair h' s.heap.objs.size x y → h'.objs.size = s.heap.objs.size + 1 →
      (∀ c o, c ≠ z → c ≠ TO → c ≠ i1 → c ≠ i2 → s.heap.get? c = some o → h'.get? c = some o) → Q (some (.ref s.heap.objs.size)) { s with heap := h' }) → wpAny (model prog w) A (pyNext (.ref z)) Q E s
  none : ∀ {prog : Program} {w : World} {A : Around} {E : Value → Shared → Prop} {s : Shared} {z TI TO i1 i2 l1 l2 : Addr} {k1 k2 : Nat} {xs ys : Array Value} {a b : Value} {Q : Option Value → Shared → Prop}, A.handled = none → ZipApart z TI TO i1 i2 l1 l2 →
    IsZip s.heap z TI TO .none → IsPair s.heap TI (.ref i1) (.ref i2) → IsPair s.heap TO a b → It s.heap i1 l1 k1 → It s.heap i2 l2 k2 → Src s.heap l1 xs → Src s.heap l2 ys → xs[k1]? = none ∨ ys[k2]? = none →
    (∀ h', (∀ c o, c ≠ z → c ≠ TO → c ≠ i1 → c ≠ i2 → s.heap.get? c = some o → h'.get? c = some o) → Q none { s with heap := h' }) → wpAny (model prog w) A (pyNext (.ref z)) Q E s
theorem curL : Cur (fun h a l i => h.IsListIter a l i) (fun h l xs => h.IsList l xs) where
  item := wpAny_nextOf_list_item
  stop := wpAny_nextOf_list_end
  itk := fun x e => x.at e
  srk := fun x e => x.at e
  first := wpAny_pyNext_zip_item
  none := wpAny_pyNext_zip_end
theorem curT : Cur (fun h a l i => h.IsTupleIter a l i) (fun h l xs => h.IsTuple l xs) where
  item := RZ.nextOf_tuple_item
  stop := RZ.nextOf_tuple_end
  itk := fun x e => x.at e
  srk := fun ⟨o, ho, r⟩ e => ⟨o, e _ ho, r⟩
  first := RZ.pyNext_zipT_item
  none := RZ.pyNext_zipT_end
section
variable {It : Heap → Addr → Addr → Nat → Prop} {Src : Heap → Addr → Array Value → Prop} {prog : Program} {w : World} {A : Around} {E : Value → Shared → Prop} {s : Shared}
variable {z TI TO T i1 i2 l1 l2 : Addr} {f : Bool} {oT : Obj} {k1 k2 : Nat} {xs ys : Array Value}
/-- a further pair: the one ahead is still in use -/
theorem more {x y : Value} {Q : Option Value → Shared → Prop} (C : Cur It Src) (D : ZipApart z TI TO i1 i2 l1 l2) (hz : IsZipHeld s.heap z TI TO T f) (hT : s.heap.get? T = some oT) (hI : IsPair s.heap TI (.ref i1) (.ref i2))
    (a1 : It s.heap i1 l1 k1) (a2 : It s.heap i2 l2 k2) (m1 : Src s.heap l1 xs) (m2 : Src s.heap l2 ys) (hx : xs[k1]? = some x) (hy : ys[k2]? = some y)
    (q : ∀ h', IsZipHeld h' z TI TO T true → It h' i1 l1 (k1 + 1) → It h' i2 l2 (k2 + 1) → IsPair h' s.heap.objs.size x y → h'.objs.size = s.heap.objs.size + 1 →
      (∀ c o, c ≠ z → c ≠ i1 → c ≠ i2 → s.heap.get? c = some o → h'.get? c = some o) → Q (some (.ref s.heap.objs.size)) { s with heap := h' }) : wpAny (model prog w) A (pyNext (.ref z)) Q E s := by
  have ty : s.TypeIs (.ref z) "zip" := ⟨_, hz, rfl⟩
  unfold pyNext
  refine wpAny_bind (wpAny_attempt (wpAny_callSpecial?_slot (name := Str.ofString "__next__") ty F.slot_zip_next (wpAny_call_entry F.slot_zip_next ty F.entry_zip_next ?_ (F.args_zip_next_1 _))))
  show wpAny _ _ (field (.ref z) 2 >>= _) _ _ _
  refine wpAny_bind (wpAny_field hz rfl (x := .bool false) rfl ?_)
  show wpAny _ _ (field (.ref z) 3 >>= _) _ _ _
  refine wpAny_bind (wpAny_field hz rfl (x := .ref TI) rfl ?_)
  refine wpAny_bind (wpAny_seqItems hI rfl ?_)
  show wpAny _ _ (Builtin.SmallTypes.ownedTupleIsFree (.ref z) >>= _) _ _ _
  refine wpAny_bind (wpAny_tupleHeld_zip hz hT fun g1 z1 e1 => ?_)
  rw [if_neg Bool.false_ne_true]
  refine wpAny_bind ?_
  rw [← Array.forIn_toList]
  simp only [List.forIn_cons, List.forIn_nil]
  refine wpAny_bind (wpAny_bind (wpAny_holding ?_))
  show wpAny _ _ (Builtin.SmallTypes.nextOf (.ref i1) >>= _) _ _ _
  refine wpAny_bind (C.item (s := { s with heap := g1 }) (C.itk a1 fun o => e1.extBut _ _ D.i1z) (C.srk m1 fun o => e1.extBut _ _ D.l1z) hx fun g2 b1 e2 => wpAny_pure (wpAny_pure ?_))
  refine wpAny_bind (wpAny_bind (wpAny_holding ?_))
  show wpAny _ _ (Builtin.SmallTypes.nextOf (.ref i2) >>= _) _ _ _
  refine wpAny_bind (C.item (s := { s with heap := g2 }) (C.itk a2 fun o q => e2.extBut _ _ D.i12.symm (e1.extBut _ _ D.i2z q)) (C.srk m2 fun o q => e2.extBut _ _ D.l2i1 (e1.extBut _ _ D.l2z q)) hy fun g3 b2 e3 => wpAny_pure (wpAny_pure (wpAny_pure ?_)))
  show wpAny _ _ (newTuple [x, y] >>= _) _ _ _
  have sz : g3.objs.size = s.heap.objs.size := by rw [e3.1, e2.1, e1.1]
  have kp : ∀ c o, c ≠ z → c ≠ i1 → c ≠ i2 → s.heap.get? c = some o → g3.get? c = some o := fun c o n0 n1 n2 e => e3.extBut _ _ n2 (e2.extBut _ _ n1 (e1.extBut _ _ n0 e))
  have z3 : IsZipHeld g3 z TI TO T true := e3.extBut _ _ D.i2z.symm (e2.extBut _ _ D.i1z.symm z1)
  refine wpAny_bind (wpAny_newTuple (wpAny_pure ⟨_, rfl, wpAny_pure ?_⟩))
  have pr : IsPair (g3.push { cls := .type "tuple", data := .seq #[x, y] }) g3.objs.size x y := Heap.get?_push_size _ rfl
  have sz4 : (g3.push { cls := .type "tuple", data := .seq #[x, y] }).objs.size = g3.objs.size + 1 := Heap.size_push ..
  rw [sz] at pr sz4
  show Q (some (.ref g3.objs.size)) _
  rw [sz]
  exact q _ (Heap.get?_push_of_some _ z3) (C.itk b1 fun o q => Heap.get?_push_of_some _ (e3.extBut _ _ D.i12 q)) (C.itk b2 fun o q => Heap.get?_push_of_some _ q) pr sz4 fun c o n0 n1 n2 e => Heap.get?_push_of_some _ (kp c o n0 n1 n2 e)
/-- no further pair -/
theorem over {Q : Option Value → Shared → Prop} (C : Cur It Src) (hh : A.handled = Option.none) (D : ZipApart z TI TO i1 i2 l1 l2) (hz : IsZipHeld s.heap z TI TO T f) (hT : s.heap.get? T = some oT) (hI : IsPair s.heap TI (.ref i1) (.ref i2))
    (a1 : It s.heap i1 l1 k1) (m1 : Src s.heap l1 xs) (hx : xs[k1]? = none)
    (q : ∀ h', (∀ c o, c ≠ z → c ≠ i1 → c ≠ i2 → s.heap.get? c = some o → h'.get? c = some o) → Q none { s with heap := h' }) : wpAny (model prog w) A (pyNext (.ref z)) Q E s := by
  have ty : s.TypeIs (.ref z) "zip" := ⟨_, hz, rfl⟩
  unfold pyNext
  refine wpAny_bind (wpAny_attempt (wpAny_callSpecial?_slot (name := Str.ofString "__next__") ty F.slot_zip_next (wpAny_call_entry F.slot_zip_next ty F.entry_zip_next ?_ (F.args_zip_next_1 _))))
  show wpAny _ _ (field (.ref z) 2 >>= _) _ _ _
  refine wpAny_bind (wpAny_field hz rfl (x := .bool false) rfl ?_)
  show wpAny _ _ (field (.ref z) 3 >>= _) _ _ _
  refine wpAny_bind (wpAny_field hz rfl (x := .ref TI) rfl ?_)
  refine wpAny_bind (wpAny_seqItems hI rfl ?_)
  show wpAny _ _ (Builtin.SmallTypes.ownedTupleIsFree (.ref z) >>= _) _ _ _
  refine wpAny_bind (wpAny_tupleHeld_zip hz hT fun g1 z1 e1 => ?_)
  rw [if_neg Bool.false_ne_true]
  refine wpAny_bind ?_
  rw [← Array.forIn_toList]
  simp only [List.forIn_cons, List.forIn_nil]
  refine wpAny_bind (wpAny_bind (wpAny_holding ?_))
  show wpAny _ _ (Builtin.SmallTypes.nextOf (.ref i1) >>= _) _ _ _
  refine wpAny_bind (C.stop (s := { s with heap := g1 }) hh (C.itk a1 fun o => e1.extBut _ _ D.i1z) (C.srk m1 fun o => e1.extBut _ _ D.l1z) hx fun g2 e x2 he => ?_)
  obtain ⟨o, ho, hc⟩ := he
  refine wpAny_bind (wpAny_isInstance (T := "StopIteration") (b := true) ⟨o, ho, hc⟩ isSubtype_stop ?_)
  exact wpAny_pure (q _ fun c o n0 n1 n2 e => x2 _ _ n1 (e1.extBut _ _ n0 e))
end
/-- a list object -/
abbrev lob (acc : Array Value) (c : Nat) : Obj := { cls := .type "list", dict := none, data := .seq acc c, slots := #[] }
theorem gt_ne {a b c : Addr} (h : a < b) (k : b < c) : c ≠ a := Nat.ne_of_gt (Nat.lt_trans h k)
/-- the pairs so far -/
structure Prs (S : Addr) (xs ys : Array Value) (i : Nat) (h : Heap) (acc : Array Value) : Prop where
  sz : acc.size = i
  pr : ∀ (j : Nat) (x y : Value), j < i → xs[j]? = some x → ys[j]? = some y → ∃ T, acc[j]? = some (.ref T) ∧ S < T ∧ IsPair h T x y
  inc : ∀ (j k : Nat) (T T' : Addr), j < k → acc[j]? = some (.ref T) → acc[k]? = some (.ref T') → T < T'
  lt : ∀ (j : Nat) (T : Addr), acc[j]? = some (.ref T) → T < h.objs.size
  ge : ∀ (j : Nat) (T : Addr), acc[j]? = some (.ref T) → S < T
structure Zst (It : Heap → Addr → Addr → Nat → Prop) (Src : Heap → Addr → Array Value → Prop) (h0 : Heap) (S z TI TO i1 i2 l1 l2 : Addr) (xs ys : Array Value) (i : Nat) (h : Heap) (acc : Array Value) : Prop where
  zf : (IsZip h z TI TO .none ∧ ∃ a b, IsPair h TO a b) ∨ ∃ T f oT, IsZipHeld h z TI TO T f ∧ h.get? T = some oT ∧ S < T
  ti : IsPair h TI (.ref i1) (.ref i2)
  a1 : It h i1 l1 i
  a2 : It h i2 l2 i
  m1 : Src h l1 xs
  m2 : Src h l2 ys
  ps : Prs S xs ys i h acc
  kp : ∀ b o, b ≠ z → b ≠ TO → b ≠ i1 → b ≠ i2 → b ≠ S → h0.get? b = some o → h.get? b = some o
theorem loop {It : Heap → Addr → Addr → Nat → Prop} {Src : Heap → Addr → Array Value → Prop} {prog : Program} {w : World} {A : Around} {R : Result → Shared → Prop} {h0 : Heap} {S z TI TO i1 i2 l1 l2 : Addr} {xs ys : Array Value}
    (C : Cur It Src) (hh : A.handled = none) (D : ZipApart z TI TO i1 i2 l1 l2) (u : z < S ∧ TI < S ∧ TO < S ∧ i1 < S ∧ i2 < S ∧ l1 < S ∧ l2 < S) (hl : xs.size = ys.size) (hn : xs.size ≤ 100000) :
    ∀ (k i : Nat) (s : Shared) (acc : Array Value) (c : Nat), xs.size - i = k → i ≤ xs.size → Zst It Src h0 S z TI TO i1 i2 l1 l2 xs ys i s.heap acc → s.heap.get? S = some (lob acc c) →
      (∀ h' acc' c', (∀ b o, b ≠ z → b ≠ TO → b ≠ i1 → b ≠ i2 → b ≠ S → h0.get? b = some o → h'.get? b = some o) → h'.get? S = some (lob acc' c') → Prs S xs ys xs.size h' acc' → R (.ok (.ret .none)) { s with heap := h' }) →
      codeAny (model prog w) A (.builtin "list.extend.loop" ⟨[.ref S, .ref z, .none], []⟩) R s := by
  obtain ⟨uz, uI, uO, u1, u2, u3, u4⟩ := u
  have line : sizeLine = 16777216 := rfl
  intro k
  induction k with
  | zero =>
    intro i s acc c hk hi st hS q
    have ei : i = xs.size := by omega
    subst ei
    refine codeAny_builtin F.entry_extend_loop ?_
    rw [Around.under_plainId F.plain_extend_loop _]
    show wpAny _ A.in1 (pyNext (.ref z) >>= _) _ _ s
    have hend : xs[xs.size]? = none := by simp
    have fin : ∀ h', (∀ c o, c ≠ z → c ≠ TO → c ≠ i1 → c ≠ i2 → s.heap.get? c = some o → h'.get? c = some o) → R (.ok (.ret .none)) { s with heap := h' } := fun h' kp => by
      have hS' : h'.get? S = some (lob acc c) := kp S _ (Nat.ne_of_gt uz) (Nat.ne_of_gt uO) (Nat.ne_of_gt u1) (Nat.ne_of_gt u2) hS
      have big : ∀ T, S < T → T ≠ z ∧ T ≠ TO ∧ T ≠ i1 ∧ T ≠ i2 := fun T h => ⟨gt_ne uz h, gt_ne uO h, gt_ne u1 h, gt_ne u2 h⟩
      refine q h' acc c (fun b o n0 n1 n2 n3 n4 e => kp b o n0 n1 n2 n3 (st.kp b o n0 n1 n2 n3 n4 e)) hS' ⟨st.ps.sz, fun j x y hj hx hy => ?_, st.ps.inc, fun j T e => ?_, st.ps.ge⟩
      · obtain ⟨T, e1, e2, e3⟩ := st.ps.pr j x y hj hx hy
        obtain ⟨n0, n1, n2, n3⟩ := big T e2
        exact ⟨T, e1, e2, kp T _ n0 n1 n2 n3 e3⟩
      · have hjs : j < acc.size := (Array.getElem?_eq_some_iff.mp e).1
        have hj : j < xs.size := by rw [← st.ps.sz]; exact hjs
        obtain ⟨T', e1, e2, e3⟩ := st.ps.pr j xs[j] ys[j] hj (by simp [hj]) (by simp [hl ▸ hj])
        rw [e] at e1
        cases e1
        obtain ⟨n0, n1, n2, n3⟩ := big T e2
        exact Heap.lt_size (kp T _ n0 n1 n2 n3 e3)
    rcases st.zf with ⟨z0, a, b, p0⟩ | ⟨T, f, oT, z0, hT, hlt⟩
    · exact wpAny_bind (C.none (A := A.in1) hh D z0 st.ti p0 st.a1 st.a2 st.m1 st.m2 (.inl hend) fun h' kp => wpAny_pure (fin h' kp))
    · exact wpAny_bind (over (A := A.in1) C hh D z0 hT st.ti st.a1 st.m1 hend fun h' kp => wpAny_pure (fin h' fun c o n0 _ n2 n3 e => kp c o n0 n2 n3 e))
  | succ k ih =>
    intro i s acc c hk hi st hS q
    have hlt : i < xs.size := by omega
    have hlt2 : i < ys.size := by omega
    have gx : xs[i]? = some xs[i] := by simp [hlt]
    have gy : ys[i]? = some ys[i] := by simp [hlt2]
    refine codeAny_builtin F.entry_extend_loop ?_
    rw [Around.under_plainId F.plain_extend_loop _]
    show wpAny _ A.in1 (pyNext (.ref z) >>= _) _ _ s
    have hSlt : S < s.heap.objs.size := Heap.lt_size hS
    have step : ∀ h', (IsZipHeld h' z TI TO s.heap.objs.size false ∨ ∃ T f oT, IsZipHeld h' z TI TO T f ∧ h'.get? T = some oT ∧ S < T) → It h' i1 l1 (i + 1) → It h' i2 l2 (i + 1) → IsPair h' s.heap.objs.size xs[i] ys[i] → h'.objs.size = s.heap.objs.size + 1 →
        (∀ c o, c ≠ z → c ≠ TO → c ≠ i1 → c ≠ i2 → s.heap.get? c = some o → h'.get? c = some o) →
        wpAny (model prog w) A.in1 (updateSeq S (·.push (.ref s.heap.objs.size)) >>= fun _ => again (.builtin "list.extend.loop" ⟨[.ref S, .ref z, .none], []⟩))
          (fun fin s' => match fin with | .done f => R (.ok f) s' | .again c' => c'.quiet = true ∧ codeAny (model prog w) A c' R s') (fun e s' => R (.error e) s') { s with heap := h' } := fun h' zz b1 b2 pr sz kp => by
      have hS' : h'.get? S = some (lob acc c) := kp S _ (Nat.ne_of_gt uz) (Nat.ne_of_gt uO) (Nat.ne_of_gt u1) (Nat.ne_of_gt u2) hS
      have asz := st.ps.sz
      refine wpAny_bind (wpAny_updateSeq (s := { s with heap := h' }) hS' rfl (wpAny_pure ⟨plainId_quiet F.plain_extend_loop _, ?_⟩) (by rw [asz, line]; omega) (by show (acc.push _).size ≤ _; rw [Array.size_push, asz, line]; omega))
      have oth : ∀ b o, b ≠ S → h'.get? b = some o → (h'.update S (Obj.mapSeq (·.push (.ref s.heap.objs.size)))).get? b = some o := fun b o n e => (Heap.get?_update_other _ _ (Ne.symm n)).trans e
      have own : (h'.update S (Obj.mapSeq (·.push (.ref s.heap.objs.size)))).get? S = some (Obj.mapSeq (·.push (.ref s.heap.objs.size)) (lob acc c)) := Heap.get?_update_self _ hS' rfl
      have usz : (h'.update S (Obj.mapSeq (·.push (.ref s.heap.objs.size)))).objs.size = h'.objs.size := (Heap.SameBut.update ..).1
      refine ih (i + 1) { s with heap := h'.update S (Obj.mapSeq (·.push (.ref s.heap.objs.size))) } (acc.push (.ref s.heap.objs.size)) _ (by omega) (by omega) ?_ own (fun h2 acc' c' k2 e2 p2 => q h2 acc' c' k2 e2 p2)
      have nS : ∀ {b : Addr}, b < S → b ≠ S := fun h => Nat.ne_of_lt h
      have at1 : ∀ {j : Nat} {T : Addr}, (acc.push (.ref s.heap.objs.size))[j]? = some (.ref T) → (j < i ∧ acc[j]? = some (.ref T)) ∨ (j = i ∧ T = s.heap.objs.size) := fun {j T} e => by
        rw [Array.getElem?_push] at e
        by_cases hj : j = acc.size
        · rw [if_pos hj] at e
          cases e
          exact .inr ⟨by omega, rfl⟩
        · rw [if_neg hj] at e
          have := (Array.getElem?_eq_some_iff.mp e).1
          exact .inl ⟨by omega, e⟩
      refine ⟨?_, oth _ _ (nS uI) (kp _ _ D.TIz D.TITO D.TIi1 D.TIi2 st.ti), C.itk b1 fun o e => oth _ o (nS u1) e, C.itk b2 fun o e => oth _ o (nS u2) e,
        C.srk st.m1 fun o e => oth _ o (nS u3) (kp _ o D.l1z D.l1TO D.l1i1 D.l1i2 e), C.srk st.m2 fun o e => oth _ o (nS u4) (kp _ o D.l2z D.l2TO D.l2i1 D.l2i2 e), ⟨by rw [Array.size_push, asz], fun j x y hj hx hy => ?_, fun j k T T' hjk e1 e2 => ?_, fun j T e => ?_, fun j T e => ?_⟩,
        fun b o n0 n1 n2 n3 n4 e => oth b o n4 (kp b o n0 n1 n2 n3 (st.kp b o n0 n1 n2 n3 n4 e))⟩
      · rcases zz with zz | ⟨T, f, oT, zz, hT, hgt⟩
        · exact .inr ⟨_, false, _, oth _ _ (nS uz) zz, oth _ _ (Nat.ne_of_gt hSlt) pr, hSlt⟩
        · exact .inr ⟨T, f, oT, oth _ _ (nS uz) zz, oth _ _ (Nat.ne_of_gt hgt) hT, hgt⟩
      · rcases Nat.lt_or_ge j i with h | h
        · obtain ⟨T, e1, e2, e3⟩ := st.ps.pr j x y h hx hy
          refine ⟨T, by rw [Array.getElem?_push, if_neg (by omega)]; exact e1, e2, oth _ _ (Nat.ne_of_gt e2) (kp T _ (gt_ne uz e2) (gt_ne uO e2) (gt_ne u1 e2) (gt_ne u2 e2) e3)⟩
        · obtain rfl : j = i := by omega
          rw [gx] at hx
          rw [gy] at hy
          cases hx
          cases hy
          exact ⟨s.heap.objs.size, by rw [Array.getElem?_push, if_pos asz.symm], hSlt, oth _ _ (Nat.ne_of_gt hSlt) pr⟩
      · rcases at1 e1 with ⟨h1, q1⟩ | ⟨h1, q1⟩ <;> rcases at1 e2 with ⟨h2, q2⟩ | ⟨h2, q2⟩
        · exact st.ps.inc j k T T' hjk q1 q2
        · rw [q2]; exact st.ps.lt j T q1
        · exact absurd (Nat.lt_trans hjk h2) (by rw [h1]; exact Nat.lt_irrefl _)
        · exact absurd hjk (by rw [h1, h2]; exact Nat.lt_irrefl _)
      · rw [usz, sz]
        rcases at1 e with ⟨h1, q1⟩ | ⟨h1, q1⟩
        · exact Nat.lt_succ_of_lt (st.ps.lt j T q1)
        · rw [q1]; exact Nat.lt_succ_self _
      · rcases at1 e with ⟨h1, q1⟩ | ⟨h1, q1⟩
        · exact st.ps.ge j T q1
        · rw [q1]; exact hSlt
    rcases st.zf with ⟨z0, a, b, p0⟩ | ⟨T, f, oT, z0, hT, hgt⟩
    · exact wpAny_bind (C.first (A := A.in1) D z0 st.ti p0 st.a1 st.a2 st.m1 st.m2 gx gy fun h' zz pO b1 b2 pr sz kp => step h' (.inl zz) b1 b2 pr sz kp)
    · exact wpAny_bind (more (A := A.in1) C D z0 hT st.ti st.a1 st.a2 st.m1 st.m2 gx gy fun h' zz b1 b2 pr sz kp => step h' (.inr ⟨T, true, oT, zz, kp T _ (gt_ne uz hgt) (gt_ne u1 hgt) (gt_ne u2 hgt) hT, hgt⟩) b1 b2 pr sz fun c o n0 _ n2 n3 e => kp c o n0 n2 n3 e)
theorem zip_no_len : typeLookup (.type "zip") "__len__" = pure none := am_miss_of_fast (by decide +kernel)
theorem zip_no_hint : typeLookup (.type "zip") "__length_hint__" = pure none := am_miss_of_fast (by decide +kernel)
/-- list(z) of a zip that nobody has walked -/
theorem call_list_zip {It : Heap → Addr → Addr → Nat → Prop} {Src : Heap → Addr → Array Value → Prop} {prog : Program} {w : World} {A : Around} {E Q : Value → Shared → Prop} {s : Shared} {z TI TO i1 i2 l1 l2 : Addr} {xs ys : Array Value} {a b : Value}
    (C : Cur It Src) (hh : A.handled = none) (D : ZipApart z TI TO i1 i2 l1 l2) (hz : IsZip s.heap z TI TO .none) (hI : IsPair s.heap TI (.ref i1) (.ref i2)) (hO : IsPair s.heap TO a b)
    (a1 : It s.heap i1 l1 0) (a2 : It s.heap i2 l2 0) (m1 : Src s.heap l1 xs) (m2 : Src s.heap l2 ys) (u : z < s.heap.objs.size ∧ TI < s.heap.objs.size ∧ TO < s.heap.objs.size ∧ i1 < s.heap.objs.size ∧ i2 < s.heap.objs.size ∧ l1 < s.heap.objs.size ∧ l2 < s.heap.objs.size)
    (hl : xs.size = ys.size) (hn : xs.size ≤ 100000)
    (q : ∀ h' acc c, (∀ b o, b ≠ z → b ≠ TO → b ≠ i1 → b ≠ i2 → s.heap.get? b = some o → h'.get? b = some o) → h'.get? s.heap.objs.size = some (lob acc c) → Prs s.heap.objs.size xs ys xs.size h' acc → Q (.ref s.heap.objs.size) { s with heap := h' }) :
    wpAny (model prog w) A (call (.type "list") [.ref z]) Q E s := by
  generalize hSz : s.heap.objs.size = S at *
  have nz : S ≠ z := Nat.ne_of_gt u.1
  refine callType_codes (Q₁ := fun obj t => obj = .ref S ∧ t = { s with heap := s.heap.push { cls := .type "list", data := .seq #[] } }) F.called_list (F.typeCall_list_1 _) F.entry_list_init (code_list_new _ ⟨by rw [hSz], rfl⟩) fun obj t ht => ?_
  obtain ⟨rfl, rfl⟩ := ht
  have g0 : (s.heap.push { cls := .type "list", data := .seq #[] }).get? S = some { cls := .type "list", data := .seq #[] } := by rw [← hSz]; exact Heap.get?_push_size _ rfl
  refine ⟨⟨_, g0, rfl⟩, F.args_list_init_2 _ _, ?_⟩
  show wpAny _ A.in1.in1 (do let old ← Builtin.List.listItems (.ref S); Builtin.List.listUpdate (.ref S) (fun _ => #[]); letGo old.toList.reverse; Builtin.List.listExtendWith (.ref S) (.ref z) .none) _ _ _
  refine wpAny_bind ?_
  unfold Builtin.List.listItems
  refine wpAny_bind (wpAny_seqItems g0 rfl (wpAny_pure ?_))
  show wpAny _ A.in1.in1 (updateSeq S (fun _ => #[]) >>= fun _ => letGo (#[] : Array Value).toList.reverse >>= fun _ => Builtin.List.listExtendWith (.ref S) (.ref z) .none) _ _ _
  refine wpAny_bind (wpAny_updateSeq g0 rfl ?_)
  have g1 := Heap.get?_update_self (Obj.mapSeq (fun _ => (#[] : Array Value))) g0 rfl
  refine wpAny_bind (wpAny_letGo ?_)
  unfold Builtin.List.listExtendWith
  have up : ∀ (h : Heap) (f : Obj → Obj), (∀ b o, b ≠ S → s.heap.get? b = some o → h.get? b = some o) → ∀ b o, b ≠ S → s.heap.get? b = some o → (h.update S f).get? b = some o := fun h f k b o n e => (Heap.get?_update_other _ _ (Ne.symm n)).trans (k b o n e)
  have k1 : ∀ b o, b ≠ S → s.heap.get? b = some o → (s.heap.push { cls := .type "list", data := .seq #[] }).get? b = some o := fun b o _ e => Heap.get?_push_of_some _ e
  have k2 := up _ (Obj.mapSeq (fun _ => (#[] : Array Value))) k1
  have zty : ∀ {h : Heap}, (∀ b o, b ≠ S → s.heap.get? b = some o → h.get? b = some o) → IsZip h z TI TO .none := fun {h} k => k z _ (Ne.symm nz) hz
  refine wpAny_bind (wpAny_typeOf (T := "zip") ⟨_, zty k2, rfl⟩ ?_)
  have h1 : Builtin.List.listSameRef (.ref S) (.ref z) = false := by simp [Builtin.List.listSameRef, nz]
  have h2 : (Value.type "zip" == Value.type "list") = false := by decide
  have h3 : (Value.type "zip" == Value.type "tuple") = false := by decide
  simp only [h1, h2, h3, Bool.or_false, Bool.false_eq_true, if_false]
  refine wpAny_bind (wpAny_pyIter_zip (s := { s with heap := _ }) (zty k2) ?_)
  refine wpAny_bind (wpAny_holding ?_)
  unfold Builtin.List.listLengthHint
  refine wpAny_bind (wpAny_specialOf (T := "zip") ⟨_, zty k2, rfl⟩ zip_no_len ?_)
  show wpAny _ A.in1.in1 (specialOf (Value.ref z) (Str.ofString "__length_hint__") >>= _) _ _ _
  refine wpAny_bind (wpAny_specialOf (T := "zip") ⟨_, zty k2, rfl⟩ zip_no_hint ?_)
  refine wpAny_pure ?_
  show wpAny _ A.in1.in1 (rule "list.extend.makes-room" >>= fun _ => Builtin.List.listTouch (.ref S) >>= fun _ => again (.builtin "list.extend.loop" ⟨[.ref S, .ref z, .none], []⟩)) _ _ _
  refine wpAny_bind (wpAny_rule ?_)
  refine wpAny_bind ?_
  show wpAny _ A.in1.in1 (updateSeq S (·.push .none) >>= fun _ => updateSeq S (·.pop)) _ _ _
  refine wpAny_bind (wpAny_updateSeq g1 rfl ?_)
  have g2 := Heap.get?_update_self (Obj.mapSeq (·.push Value.none)) g1 rfl
  refine wpAny_updateSeq (hz := by seq_fits) g2 rfl ?_
  have g3 := Heap.get?_update_self (Obj.mapSeq (·.pop)) g2 rfl
  have k4 := up _ (Obj.mapSeq (·.pop)) (up _ (Obj.mapSeq (·.push Value.none)) k2)
  refine wpAny_pure ⟨plainId_quiet F.plain_extend_loop _, ?_⟩
  have nS : ∀ {b : Addr}, b < S → b ≠ S := fun h => Nat.ne_of_lt h
  obtain ⟨uz, uI, uO, u1, u2, u3, u4⟩ := id u
  refine loop (A := A.in1) (h0 := s.heap) C hh D u hl hn xs.size 0 _ #[] _ (by omega) (Nat.zero_le _) ⟨.inl ⟨zty k4, a, b, k4 _ _ (nS uO) hO⟩, k4 _ _ (nS uI) hI, C.itk a1 fun o e => k4 _ o (nS u1) e, C.itk a2 fun o e => k4 _ o (nS u2) e, C.srk m1 fun o e => k4 _ o (nS u3) e, C.srk m2 fun o e => k4 _ o (nS u4) e,
    ⟨rfl, fun j _ _ hj => absurd hj (Nat.not_lt_zero _), fun _ _ _ _ _ e => by simp at e, fun _ _ e => by simp at e, fun _ _ e => by simp at e⟩, fun b o _ _ _ _ n e => k4 b o n e⟩ g3 fun h' acc' c' kp hS' ps => ⟨rfl, ?_⟩
  exact q h' acc' c' (fun b o n0 n1 n2 n3 e => kp b o n0 n1 n2 n3 (Nat.ne_of_lt (by rw [← hSz]; exact Heap.lt_size e)) e) hS' ps
/-- what list(zip(..)) holds -/
def Zs (H1 H2 : Hp) (xs ys zs : List V) : Prop := zs.length = xs.length ∧ ∀ (i : Nat) (x y : V), xs[i]? = some x → ys[i]? = some y → ∃ T, zs[i]? = some (.ref T) ∧ H1 T = none ∧ H2 T = some (.tup [x, y])
def tLz (K : PySem.W.Frag) (ta : TA) : TE := fun σ H Q => ta σ H fun vs H1 => ∃ (a b : Addr) (xs ys : List V), vs = [.ref a, .ref b] ∧ ((SqL K H1 a xs ∧ SqL K H1 b ys) ∨ (SqT K H1 a xs ∧ SqT K H1 b ys)) ∧ xs.length = ys.length ∧ xs.length ≤ 100000 ∧
  ∀ (d : Addr) (zs : List V) (H2 : Hp), L2.Same H1 H2 → H1 d = none → H2 d = some (.lst zs) → Zs H1 H2 xs ys zs → Q (.ref d) H2
theorem refs_of : ∀ l : List Value, (∀ v ∈ l, ∃ T, v = .ref T) → ∃ zs : List V, Vals zs l ∧ ∀ (j : Nat) (T : Addr), l[j]? = some (.ref T) → zs[j]? = some (.ref T)
  | [], _ => ⟨[], .nil, fun j T e => by simp at e⟩
  | v :: l, h => by
    obtain ⟨T, rfl⟩ := h v (List.mem_cons_self ..)
    obtain ⟨zs, h1, h2⟩ := refs_of l fun v hv => h v (List.mem_cons_of_mem _ hv)
    refine ⟨.ref T :: zs, .cons rfl h1, fun j U e => ?_⟩
    cases j with
    | zero => simp at e; subst e; rfl
    | succ j => simp at e; simpa using h2 j U e
theorem grow {P : Program} {w : World} {H1 : Hp} {h3 : Heap} {acc : Array Value} {S : Addr} {xs ys : List V} {us vs : List Value} (rx : Vals xs us) (ry : Vals ys vs) (hl : xs.length = ys.length) (ps : Prs S us.toArray vs.toArray us.length h3 acc)
    (fresh : ∀ T, S < T → H1 T = none) (old : HOk P w H1 h3) : ∀ m, m ≤ xs.length → ∃ H2 : Hp, L2.Same H1 H2 ∧ (∀ (j : Nat) (x y : V) (T : Addr), j < m → xs[j]? = some x → ys[j]? = some y → acc[j]? = some (.ref T) → H2 T = some (.tup [x, y])) ∧
      (∀ b, H1 b = none → (∀ j, j < m → acc[j]? ≠ some (.ref b)) → H2 b = none) ∧ HOk P w H2 h3 := by
  intro m
  induction m with
  | zero => exact fun _ => ⟨H1, L2.Same.refl H1, fun j _ _ _ h => absurd h (Nat.not_lt_zero _), fun b e _ => e, old⟩
  | succ m ih =>
    intro hm
    obtain ⟨H2, s2, g2, f2, o2⟩ := ih (by omega)
    have mx : xs[m]? = some xs[m] := List.getElem?_eq_getElem (by omega)
    have my : ys[m]? = some ys[m] := List.getElem?_eq_getElem (by omega)
    obtain ⟨u, hu, ru⟩ := rx.get mx
    obtain ⟨v, hv, rv⟩ := ry.get my
    obtain ⟨T, eT, gT, pT⟩ := ps.pr m u v (by rw [← rx.length]; omega) (by simpa using hu) (by simpa using hv)
    have nT : H2 T = none := f2 T (fresh T gT) fun j hj e => absurd (ps.inc j m T T hj e eT) (Nat.lt_irrefl _)
    refine ⟨upd H2 T (.tup [xs[m], ys[m]]), s2.trans (GL.Same.new' nT), fun j x y U hj hx hy e => ?_, fun b e hb => ?_, o2.laidN (fun _ _ q => q) nT ⟨by show 2 ≤ sizeLine; decide, [u, v], .cons ru (.cons rv .nil), ⟨_, pT, rfl, _, rfl⟩⟩⟩
    · rcases Nat.lt_or_ge j m with h | h
      · rw [upd_ne (Nat.ne_of_lt (ps.inc j m U T h e eT))]
        exact g2 j x y U h hx hy e
      · obtain rfl : j = m := by omega
        rw [mx] at hx
        rw [my] at hy
        rw [eT] at e
        cases hx
        cases hy
        cases e
        exact upd_same
    · have nb : b ≠ T := fun z => hb m (Nat.lt_succ_self m) (by rw [z]; exact eT)
      rw [upd_ne nb]
      exact f2 b e fun j hj => hb j (by omega)
theorem pe_listZip {X : Cx} {e e2 : Expr} {ta : TA} {p p' pos pos' : Pos} (hc : X.calm = true) (hg : Gl X "zip") (hm : X.mg "zip" = none) (hg' : Gl X "list") (hm' : X.mg "list" = none) (ha : PA X [e, e2] ta)
    (hs : starEach [e, e2] X.env = (false, eval e X.env) :: starEach [e2] X.env := by rfl) (hpl : (backTo pos (starEach [e2] X.env)).any (·.1) = false := by rfl)
    (hs' : starEach [Expr.Call (.Name "zip" p) [e, e2] [] pos] X.env = (false, eval (Expr.Call (.Name "zip" p) [e, e2] [] pos) X.env) :: starEach [] X.env := by rfl) :
    PE X (.Call (.Name "list" p') [.Call (.Name "zip" p) [e, e2] [] pos] [] pos') (tLz X.K ta) := by
  refine ⟨fun pins s σ H Q I h => ?_⟩
  refine wpAny_Call_Name_kw (ld_blt I hg' hm' PyProof.Rows.boot_list ?_)
  refine PyProof.Rows.callWith_type1 ?_ hs' rfl
  rw [hs']
  show wpAny _ _ (spliced ((false, eval (Expr.Call (.Name "zip" p) [e, e2] [] pos) X.env) :: backTo pos' (starEach [] X.env))) _ _ s
  refine Calls.spliced_cons ?_
  refine wpAny_Call_Name_kw (ld_blt I hg hm PyProof.Rows.boot_zip (PyProof.Rows.callWith_type1 (thn (ha.run pos pins s σ H _ I h) fun us s1 ⟨ws, H1, I1, r1, q1⟩ => ?_) hs hpl))
  obtain ⟨a, b, xs, ys, ex, q1⟩ := q1
  subst ex
  obtain ⟨sq, hl, hn, q⟩ := q1
  cases r1 with
  | cons r rr =>
    cases rr with
    | cons r' rr =>
      cases rr
      cases r
      cases r'
      have main : ∀ {It : Heap → Addr → Addr → Nat → Prop} {Src : Heap → Addr → Array Value → Prop} {us vs : List Value} (C : Cur It Src) (rx : Vals xs us) (ry : Vals ys vs) (m1 : Src s1.heap a us.toArray) (m2 : Src s1.heap b vs.toArray) (la : a < s1.heap.objs.size) (lb : b < s1.heap.objs.size) (h' : Heap),
          IsZip h' (s1.heap.objs.size + 4) (s1.heap.objs.size + 2) (s1.heap.objs.size + 3) .none → IsPair h' (s1.heap.objs.size + 2) (.ref s1.heap.objs.size) (.ref (s1.heap.objs.size + 1)) → IsPair h' (s1.heap.objs.size + 3) .none .none →
          It h' s1.heap.objs.size a 0 → It h' (s1.heap.objs.size + 1) b 0 → h'.objs.size = s1.heap.objs.size + 5 → (∀ c o, s1.heap.get? c = some o → h'.get? c = some o) →
          wpAny (model X.prog X.w) X.A (spliced (backTo pos' (starEach [] X.env))) (fun us2 s2 => wpAny (model X.prog X.w) X.A (call (.type "list") (Value.ref (s1.heap.objs.size + 4) :: us2)) (EP X pins σ Q) X.xe s2) X.xe { s1 with heap := h' } := by
        intro It Src us vs C rx ry m1 m2 la lb h' hz hI hO a1 a2 sz kp
        refine Calls.spliced_nil ?_
        have rl := rx.length
        have rl2 := ry.length
        refine call_list_zip (s := { s1 with heap := h' }) C (I.ok.hd hc) (PySem.W.ktu_apart s1.heap.objs.size a b la lb) hz hI hO a1 a2 (C.srk m1 fun o => kp _ o) (C.srk m2 fun o => kp _ o) ?_ (by simp; omega) (by simp; omega) fun h3 acc c kp3 hS ps => ?_
        · show _ < h'.objs.size ∧ _ < h'.objs.size ∧ _ < h'.objs.size ∧ _ < h'.objs.size ∧ _ < h'.objs.size ∧ _ < h'.objs.size ∧ _ < h'.objs.size
          rw [sz]
          refine ⟨?_, ?_, ?_, ?_, ?_, Nat.lt_of_lt_of_le la (Nat.le_add_right _ _), Nat.lt_of_lt_of_le lb (Nat.le_add_right _ _)⟩
          · exact Nat.lt_succ_self _
          · exact Nat.add_lt_add_left (by decide) _
          · exact Nat.add_lt_add_left (by decide) _
          · exact Nat.lt_add_of_pos_right (by decide)
          · exact Nat.add_lt_add_left (by decide) _
        · have ge : s1.heap.objs.size ≤ h'.objs.size := by rw [sz]; exact Nat.le_add_right _ _
          have k1 : ∀ b o, s1.heap.get? b = some o → h3.get? b = some o := fun b o eb => by
            have lb := Heap.lt_size eb
            exact kp3 b o (Nat.ne_of_lt (Nat.lt_of_lt_of_le lb (Nat.le_add_right _ _))) (Nat.ne_of_lt (Nat.lt_of_lt_of_le lb (Nat.le_add_right _ _))) (Nat.ne_of_lt lb) (Nat.ne_of_lt (Nat.lt_of_lt_of_le lb (Nat.le_add_right _ _))) (kp b o eb)
          have ps' : Prs h'.objs.size us.toArray vs.toArray us.length h3 acc := by
            have := ps
            rw [List.size_toArray] at this
            exact this
          obtain ⟨H2, s2, g2, f2, o2⟩ := grow (P := X.prog) (w := X.w) rx ry hl ps' (fun T hT => I1.hok.fresh (Nat.le_trans ge (Nat.le_of_lt hT))) (I1.hok.kept k1) xs.length (Nat.le_refl _)
          have refs : ∀ v ∈ acc.toList, ∃ T, v = Value.ref T := fun v hv => by
            obtain ⟨j, hj, e⟩ := List.getElem_of_mem hv
            have hj' : j < us.length := by rw [← ps'.sz]; simpa using hj
            obtain ⟨T, eT, _, _⟩ := ps'.pr j us[j] (vs[j]'(by omega)) hj' (by simp [hj']) (by simp)
            have e2 : acc.toList[j]? = some v := by rw [List.getElem?_eq_getElem hj, e]
            rw [Array.getElem?_toList] at e2
            rw [eT] at e2
            exact ⟨T, (Option.some.inj e2).symm⟩
          obtain ⟨zs, hv, hz2⟩ := refs_of acc.toList refs
          have zl : zs.length = xs.length := by rw [hv.length, Array.length_toList, ps'.sz, rl]
          have nS1 : H1 h'.objs.size = none := I1.hok.fresh ge
          have nS : H2 h'.objs.size = none := f2 _ nS1 fun j _ e => absurd (ps'.ge j _ e) (Nat.lt_irrefl _)
          have s3 : L2.Same H1 (upd H2 h'.objs.size (.lst zs)) := s2.trans (GL.Same.new' nS)
          have ok3 : HOk X.prog X.w (upd H2 h'.objs.size (.lst zs)) h3 := o2.laidN (fun _ _ q => q) nS ⟨by rw [zl]; exact Nat.le_trans hn (by decide), acc.toList, c, hv, hS⟩
          refine ⟨.ref h'.objs.size, upd H2 h'.objs.size (.lst zs), I1.un (t' := s1.toks) ⟨fun b o eb _ _ _ => k1 b o eb, fun b o eb _ _ _ => ⟨o.slots, k1 b o eb⟩, fun b o eb nb _ => ?_, fun b o eb _ => ⟨o, k1 b o eb⟩, fun b ws e => s3 _ _ e, fun b o u e => s3 _ _ e, fun b ps e => ⟨#[], by rw [s3 _ _ e]; simp⟩⟩ ok3, rfl, ?_⟩
          · have lb := Nat.lt_of_lt_of_le (Heap.lt_size eb) ge
            rw [upd_ne (Nat.ne_of_lt lb)]
            exact f2 b nb fun j _ e => absurd (Nat.lt_trans (ps'.ge j _ e) lb) (Nat.lt_irrefl _)
          · refine q _ zs _ s3 nS1 upd_same ⟨zl, fun i x y hx hy => ?_⟩
            have hi : i < xs.length := (List.getElem?_eq_some_iff.mp hx).1
            obtain ⟨u, hu, _⟩ := rx.get hx
            obtain ⟨v, hv2, _⟩ := ry.get hy
            obtain ⟨T, eT, gT, _⟩ := ps'.pr i u v (by omega) (by simpa using hu) (by simpa using hv2)
            refine ⟨T, hz2 i T (by rw [Array.getElem?_toList]; exact eT), I1.hok.fresh (Nat.le_trans ge (Nat.le_of_lt gT)), ?_⟩
            rw [upd_ne (Nat.ne_of_gt gT)]
            exact g2 i x y T hi hx hy eT
      rcases sq with ⟨qa, qb⟩ | ⟨qa, qb⟩
      · obtain ⟨us, rv, p1, _⟩ := I1.list qa
        obtain ⟨vs, rv2, p2, _⟩ := I1.list qb
        exact call_zip_2 p1.isList p2.isList fun h' hz hI hO a1 a2 sz kp => main curL rv rv2 p1.isList p2.isList p1.lt p2.lt h' hz hI hO a1 a2 sz kp
      · obtain ⟨us, rv, p1, _⟩ := I1.tuple qa
        obtain ⟨vs, rv2, p2, _⟩ := I1.tuple qb
        have la : a < s1.heap.objs.size := let ⟨_, ho, _⟩ := id p1; Heap.lt_size ho
        have lb : b < s1.heap.objs.size := let ⟨_, ho, _⟩ := id p2; Heap.lt_size ho
        exact RZ.call_zipT (show s1.heap.IsTuple a us.toArray from p1) (show s1.heap.IsTuple b vs.toArray from p2) fun h' hz hI hO a1 a2 sz kp => main curT rv rv2 p1 p2 la lb h' hz hI hO a1 a2 sz kp
end ZL

namespace WM
def quarter (x y : Int) : Int := if 0 < x ∧ 0 ≤ y then 0 else if x ≤ 0 ∧ 0 < y then 1 else if x < 0 then 2 else 3
def level (x y : Int) : Int := if 0 < x ∧ y = 0 then 4 else quarter x y
def cross (x y z w : Int) : Int := x * w - y * z
/-- the law's quarters of a side -/
def stepQ (q r : Int) (up : Prop) [Decidable up] : Int :=
  if (r - q) % 4 = 2 then (if up then 2 else -2) else if (r - q) % 4 = 3 then -1 else (r - q) % 4
/-- the program's count of a side -/
def pass (x y z w : Int) : Int := (if y ≤ 0 ∧ 0 < w ∧ 0 < cross x y z w then 1 else 0) - (if w ≤ 0 ∧ 0 < y ∧ cross x y z w < 0 then 1 else 0)
inductive Cl (x y : Int) : Int → Int → Prop
  | c0 (hx : 0 < x) (hy : 0 < y) : Cl x y 0 0
  | cA (hx : 0 < x) (hy : y = 0) : Cl x y 0 4
  | c1 (hx : x ≤ 0) (hy : 0 < y) : Cl x y 1 1
  | c2 (hx : x < 0) (hy : y ≤ 0) : Cl x y 2 2
  | c3 (hx : 0 ≤ x) (hy : y < 0) : Cl x y 3 3
theorem cl_of {x y : Int} (h : ¬ (x = 0 ∧ y = 0)) : Cl x y (quarter x y) (level x y) := by
  rcases Int.lt_trichotomy x 0 with hx | hx | hx <;> rcases Int.lt_trichotomy y 0 with hy | hy | hy
  · have e1 : quarter x y = 2 := by unfold quarter; rw [if_neg (by omega), if_neg (by omega), if_pos hx]
    have e2 : level x y = 2 := by unfold level; rw [if_neg (by omega), e1]
    rw [e1, e2]; exact .c2 hx (by omega)
  · have e1 : quarter x y = 2 := by unfold quarter; rw [if_neg (by omega), if_neg (by omega), if_pos hx]
    have e2 : level x y = 2 := by unfold level; rw [if_neg (by omega), e1]
    rw [e1, e2]; exact .c2 hx (by omega)
  · have e1 : quarter x y = 1 := by unfold quarter; rw [if_neg (by omega), if_pos (by omega)]
    have e2 : level x y = 1 := by unfold level; rw [if_neg (by omega), e1]
    rw [e1, e2]; exact .c1 (by omega) hy
  · have e1 : quarter x y = 3 := by unfold quarter; rw [if_neg (by omega), if_neg (by omega), if_neg (by omega)]
    have e2 : level x y = 3 := by unfold level; rw [if_neg (by omega), e1]
    rw [e1, e2]; exact .c3 (by omega) hy
  · exact absurd ⟨hx, hy⟩ h
  · have e1 : quarter x y = 1 := by unfold quarter; rw [if_neg (by omega), if_pos (by omega)]
    have e2 : level x y = 1 := by unfold level; rw [if_neg (by omega), e1]
    rw [e1, e2]; exact .c1 (by omega) hy
  · have e1 : quarter x y = 3 := by unfold quarter; rw [if_neg (by omega), if_neg (by omega), if_neg (by omega)]
    have e2 : level x y = 3 := by unfold level; rw [if_neg (by omega), e1]
    rw [e1, e2]; exact .c3 (by omega) hy
  · have e1 : quarter x y = 0 := by unfold quarter; rw [if_pos (by omega)]
    have e2 : level x y = 4 := by unfold level; rw [if_pos (by omega)]
    rw [e1, e2]; exact .cA hx hy
  · have e1 : quarter x y = 0 := by unfold quarter; rw [if_pos (by omega)]
    have e2 : level x y = 0 := by unfold level; rw [if_neg (by omega), e1]
    rw [e1, e2]; exact .c0 hx hy
theorem side {x y z w : Int} (h : ¬ (cross x y z w = 0 ∧ x * z + y * w ≤ 0)) : stepQ (quarter x y) (quarter z w) (0 < cross x y z w) = level z w - level x y + 4 * pass x y z w := by
  have h1 : ¬ (x = 0 ∧ y = 0) := fun ⟨a, b⟩ => h (by subst a b; simp [cross])
  have h2 : ¬ (z = 0 ∧ w = 0) := fun ⟨a, b⟩ => h (by subst a b; simp [cross])
  have c1 := cl_of h1
  have c2 := cl_of h2
  generalize quarter x y = q1 at *
  generalize quarter z w = q2 at *
  generalize level x y = l1 at *
  generalize level z w = l2 at *
  unfold stepQ pass cross at *
  cases c1 with
  | c0 hx hy =>
    cases c2 with
    | c0 hz hw =>
      have fA : 0 < x * w := Int.mul_pos hx hw
      have fB : 0 < y * z := Int.mul_pos hy hz
      have fC : 0 < x * z := Int.mul_pos hx hz
      have fD : 0 < y * w := Int.mul_pos hy hw
      generalize x * w = A at *
      generalize y * z = B at *
      generalize x * z = C at *
      generalize y * w = D at *
      rw [if_neg (by decide), if_neg (by decide)]
      omega
    | cA hz hw =>
      have fA : x * w = 0 := by rw [hw, Int.mul_zero]
      have fB : 0 < y * z := Int.mul_pos hy hz
      have fC : 0 < x * z := Int.mul_pos hx hz
      have fD : y * w = 0 := by rw [hw, Int.mul_zero]
      generalize x * w = A at *
      generalize y * z = B at *
      generalize x * z = C at *
      generalize y * w = D at *
      rw [if_neg (by decide), if_neg (by decide)]
      omega
    | c1 hz hw =>
      have fA : 0 < x * w := Int.mul_pos hx hw
      have fB : y * z ≤ 0 := Int.mul_nonpos_of_nonneg_of_nonpos (Int.le_of_lt hy) hz
      have fC : x * z ≤ 0 := Int.mul_nonpos_of_nonneg_of_nonpos (Int.le_of_lt hx) hz
      have fD : 0 < y * w := Int.mul_pos hy hw
      generalize x * w = A at *
      generalize y * z = B at *
      generalize x * z = C at *
      generalize y * w = D at *
      rw [if_neg (by decide), if_neg (by decide)]
      omega
    | c2 hz hw =>
      have fA : x * w ≤ 0 := Int.mul_nonpos_of_nonneg_of_nonpos (Int.le_of_lt hx) hw
      have fB : y * z < 0 := Int.mul_neg_of_pos_of_neg hy hz
      have fC : x * z < 0 := Int.mul_neg_of_pos_of_neg hx hz
      have fD : y * w ≤ 0 := Int.mul_nonpos_of_nonneg_of_nonpos (Int.le_of_lt hy) hw
      generalize x * w = A at *
      generalize y * z = B at *
      generalize x * z = C at *
      generalize y * w = D at *
      rw [if_pos (by decide)]
      omega
    | c3 hz hw =>
      have fA : x * w < 0 := Int.mul_neg_of_pos_of_neg hx hw
      have fB : 0 ≤ y * z := Int.mul_nonneg (Int.le_of_lt hy) hz
      have fC : 0 ≤ x * z := Int.mul_nonneg (Int.le_of_lt hx) hz
      have fD : y * w < 0 := Int.mul_neg_of_pos_of_neg hy hw
      generalize x * w = A at *
      generalize y * z = B at *
      generalize x * z = C at *
      generalize y * w = D at *
      rw [if_neg (by decide), if_pos (by decide)]
      omega
  | cA hx hy =>
    cases c2 with
    | c0 hz hw =>
      have fA : 0 < x * w := Int.mul_pos hx hw
      have fB : y * z = 0 := by rw [hy, Int.zero_mul]
      have fC : 0 < x * z := Int.mul_pos hx hz
      have fD : y * w = 0 := by rw [hy, Int.zero_mul]
      generalize x * w = A at *
      generalize y * z = B at *
      generalize x * z = C at *
      generalize y * w = D at *
      rw [if_neg (by decide), if_neg (by decide)]
      omega
    | cA hz hw =>
      have fA : x * w = 0 := by rw [hw, Int.mul_zero]
      have fB : y * z = 0 := by rw [hy, Int.zero_mul]
      have fC : 0 < x * z := Int.mul_pos hx hz
      have fD : y * w = 0 := by rw [hy, Int.zero_mul]
      generalize x * w = A at *
      generalize y * z = B at *
      generalize x * z = C at *
      generalize y * w = D at *
      rw [if_neg (by decide), if_neg (by decide)]
      omega
    | c1 hz hw =>
      have fA : 0 < x * w := Int.mul_pos hx hw
      have fB : y * z = 0 := by rw [hy, Int.zero_mul]
      have fC : x * z ≤ 0 := Int.mul_nonpos_of_nonneg_of_nonpos (Int.le_of_lt hx) hz
      have fD : y * w = 0 := by rw [hy, Int.zero_mul]
      generalize x * w = A at *
      generalize y * z = B at *
      generalize x * z = C at *
      generalize y * w = D at *
      rw [if_neg (by decide), if_neg (by decide)]
      omega
    | c2 hz hw =>
      have fA : x * w ≤ 0 := Int.mul_nonpos_of_nonneg_of_nonpos (Int.le_of_lt hx) hw
      have fB : y * z = 0 := by rw [hy, Int.zero_mul]
      have fC : x * z < 0 := Int.mul_neg_of_pos_of_neg hx hz
      have fD : y * w = 0 := by rw [hy, Int.zero_mul]
      generalize x * w = A at *
      generalize y * z = B at *
      generalize x * z = C at *
      generalize y * w = D at *
      rw [if_pos (by decide)]
      omega
    | c3 hz hw =>
      have fA : x * w < 0 := Int.mul_neg_of_pos_of_neg hx hw
      have fB : y * z = 0 := by rw [hy, Int.zero_mul]
      have fC : 0 ≤ x * z := Int.mul_nonneg (Int.le_of_lt hx) hz
      have fD : y * w = 0 := by rw [hy, Int.zero_mul]
      generalize x * w = A at *
      generalize y * z = B at *
      generalize x * z = C at *
      generalize y * w = D at *
      rw [if_neg (by decide), if_pos (by decide)]
      omega
  | c1 hx hy =>
    cases c2 with
    | c0 hz hw =>
      have fA : x * w ≤ 0 := Int.mul_nonpos_of_nonpos_of_nonneg hx (Int.le_of_lt hw)
      have fB : 0 < y * z := Int.mul_pos hy hz
      have fC : x * z ≤ 0 := Int.mul_nonpos_of_nonpos_of_nonneg hx (Int.le_of_lt hz)
      have fD : 0 < y * w := Int.mul_pos hy hw
      generalize x * w = A at *
      generalize y * z = B at *
      generalize x * z = C at *
      generalize y * w = D at *
      rw [if_neg (by decide), if_pos (by decide)]
      omega
    | cA hz hw =>
      have fA : x * w = 0 := by rw [hw, Int.mul_zero]
      have fB : 0 < y * z := Int.mul_pos hy hz
      have fC : x * z ≤ 0 := Int.mul_nonpos_of_nonpos_of_nonneg hx (Int.le_of_lt hz)
      have fD : y * w = 0 := by rw [hw, Int.mul_zero]
      generalize x * w = A at *
      generalize y * z = B at *
      generalize x * z = C at *
      generalize y * w = D at *
      rw [if_neg (by decide), if_pos (by decide)]
      omega
    | c1 hz hw =>
      have fA : x * w ≤ 0 := Int.mul_nonpos_of_nonpos_of_nonneg hx (Int.le_of_lt hw)
      have fB : y * z ≤ 0 := Int.mul_nonpos_of_nonneg_of_nonpos (Int.le_of_lt hy) hz
      have fC : 0 ≤ x * z := Int.mul_nonneg_of_nonpos_of_nonpos hx hz
      have fD : 0 < y * w := Int.mul_pos hy hw
      generalize x * w = A at *
      generalize y * z = B at *
      generalize x * z = C at *
      generalize y * w = D at *
      rw [if_neg (by decide), if_neg (by decide)]
      omega
    | c2 hz hw =>
      have fA : 0 ≤ x * w := Int.mul_nonneg_of_nonpos_of_nonpos hx hw
      have fB : y * z < 0 := Int.mul_neg_of_pos_of_neg hy hz
      have fC : 0 ≤ x * z := Int.mul_nonneg_of_nonpos_of_nonpos hx (Int.le_of_lt hz)
      have fD : y * w ≤ 0 := Int.mul_nonpos_of_nonneg_of_nonpos (Int.le_of_lt hy) hw
      generalize x * w = A at *
      generalize y * z = B at *
      generalize x * z = C at *
      generalize y * w = D at *
      rw [if_neg (by decide), if_neg (by decide)]
      omega
    | c3 hz hw =>
      have fA : 0 ≤ x * w := Int.mul_nonneg_of_nonpos_of_nonpos hx (Int.le_of_lt hw)
      have fB : 0 ≤ y * z := Int.mul_nonneg (Int.le_of_lt hy) hz
      have fC : x * z ≤ 0 := Int.mul_nonpos_of_nonpos_of_nonneg hx hz
      have fD : y * w < 0 := Int.mul_neg_of_pos_of_neg hy hw
      generalize x * w = A at *
      generalize y * z = B at *
      generalize x * z = C at *
      generalize y * w = D at *
      rw [if_pos (by decide)]
      omega
  | c2 hx hy =>
    cases c2 with
    | c0 hz hw =>
      have fA : x * w < 0 := Int.mul_neg_of_neg_of_pos hx hw
      have fB : y * z ≤ 0 := Int.mul_nonpos_of_nonpos_of_nonneg hy (Int.le_of_lt hz)
      have fC : x * z < 0 := Int.mul_neg_of_neg_of_pos hx hz
      have fD : y * w ≤ 0 := Int.mul_nonpos_of_nonpos_of_nonneg hy (Int.le_of_lt hw)
      generalize x * w = A at *
      generalize y * z = B at *
      generalize x * z = C at *
      generalize y * w = D at *
      rw [if_pos (by decide)]
      omega
    | cA hz hw =>
      have fA : x * w = 0 := by rw [hw, Int.mul_zero]
      have fB : y * z ≤ 0 := Int.mul_nonpos_of_nonpos_of_nonneg hy (Int.le_of_lt hz)
      have fC : x * z < 0 := Int.mul_neg_of_neg_of_pos hx hz
      have fD : y * w = 0 := by rw [hw, Int.mul_zero]
      generalize x * w = A at *
      generalize y * z = B at *
      generalize x * z = C at *
      generalize y * w = D at *
      rw [if_pos (by decide)]
      omega
    | c1 hz hw =>
      have fA : x * w < 0 := Int.mul_neg_of_neg_of_pos hx hw
      have fB : 0 ≤ y * z := Int.mul_nonneg_of_nonpos_of_nonpos hy hz
      have fC : 0 ≤ x * z := Int.mul_nonneg_of_nonpos_of_nonpos (Int.le_of_lt hx) hz
      have fD : y * w ≤ 0 := Int.mul_nonpos_of_nonpos_of_nonneg hy (Int.le_of_lt hw)
      generalize x * w = A at *
      generalize y * z = B at *
      generalize x * z = C at *
      generalize y * w = D at *
      rw [if_neg (by decide), if_pos (by decide)]
      omega
    | c2 hz hw =>
      have fA : 0 ≤ x * w := Int.mul_nonneg_of_nonpos_of_nonpos (Int.le_of_lt hx) hw
      have fB : 0 ≤ y * z := Int.mul_nonneg_of_nonpos_of_nonpos hy (Int.le_of_lt hz)
      have fC : 0 < x * z := Int.mul_pos_of_neg_of_neg hx hz
      have fD : 0 ≤ y * w := Int.mul_nonneg_of_nonpos_of_nonpos hy hw
      generalize x * w = A at *
      generalize y * z = B at *
      generalize x * z = C at *
      generalize y * w = D at *
      rw [if_neg (by decide), if_neg (by decide)]
      omega
    | c3 hz hw =>
      have fA : 0 < x * w := Int.mul_pos_of_neg_of_neg hx hw
      have fB : y * z ≤ 0 := Int.mul_nonpos_of_nonpos_of_nonneg hy hz
      have fC : x * z ≤ 0 := Int.mul_nonpos_of_nonpos_of_nonneg (Int.le_of_lt hx) hz
      have fD : 0 ≤ y * w := Int.mul_nonneg_of_nonpos_of_nonpos hy (Int.le_of_lt hw)
      generalize x * w = A at *
      generalize y * z = B at *
      generalize x * z = C at *
      generalize y * w = D at *
      rw [if_neg (by decide), if_neg (by decide)]
      omega
  | c3 hx hy =>
    cases c2 with
    | c0 hz hw =>
      have fA : 0 ≤ x * w := Int.mul_nonneg hx (Int.le_of_lt hw)
      have fB : y * z < 0 := Int.mul_neg_of_neg_of_pos hy hz
      have fC : 0 ≤ x * z := Int.mul_nonneg hx (Int.le_of_lt hz)
      have fD : y * w < 0 := Int.mul_neg_of_neg_of_pos hy hw
      generalize x * w = A at *
      generalize y * z = B at *
      generalize x * z = C at *
      generalize y * w = D at *
      rw [if_neg (by decide), if_neg (by decide)]
      omega
    | cA hz hw =>
      have fA : x * w = 0 := by rw [hw, Int.mul_zero]
      have fB : y * z < 0 := Int.mul_neg_of_neg_of_pos hy hz
      have fC : 0 ≤ x * z := Int.mul_nonneg hx (Int.le_of_lt hz)
      have fD : y * w = 0 := by rw [hw, Int.mul_zero]
      generalize x * w = A at *
      generalize y * z = B at *
      generalize x * z = C at *
      generalize y * w = D at *
      rw [if_neg (by decide), if_neg (by decide)]
      omega
    | c1 hz hw =>
      have fA : 0 ≤ x * w := Int.mul_nonneg hx (Int.le_of_lt hw)
      have fB : 0 ≤ y * z := Int.mul_nonneg_of_nonpos_of_nonpos (Int.le_of_lt hy) hz
      have fC : x * z ≤ 0 := Int.mul_nonpos_of_nonneg_of_nonpos hx hz
      have fD : y * w < 0 := Int.mul_neg_of_neg_of_pos hy hw
      generalize x * w = A at *
      generalize y * z = B at *
      generalize x * z = C at *
      generalize y * w = D at *
      rw [if_pos (by decide)]
      omega
    | c2 hz hw =>
      have fA : x * w ≤ 0 := Int.mul_nonpos_of_nonneg_of_nonpos hx hw
      have fB : 0 < y * z := Int.mul_pos_of_neg_of_neg hy hz
      have fC : x * z ≤ 0 := Int.mul_nonpos_of_nonneg_of_nonpos hx (Int.le_of_lt hz)
      have fD : 0 ≤ y * w := Int.mul_nonneg_of_nonpos_of_nonpos (Int.le_of_lt hy) hw
      generalize x * w = A at *
      generalize y * z = B at *
      generalize x * z = C at *
      generalize y * w = D at *
      rw [if_neg (by decide), if_pos (by decide)]
      omega
    | c3 hz hw =>
      have fA : x * w ≤ 0 := Int.mul_nonpos_of_nonneg_of_nonpos hx (Int.le_of_lt hw)
      have fB : y * z ≤ 0 := Int.mul_nonpos_of_nonpos_of_nonneg (Int.le_of_lt hy) hz
      have fC : 0 ≤ x * z := Int.mul_nonneg hx hz
      have fD : 0 < y * w := Int.mul_pos_of_neg_of_neg hy hw
      generalize x * w = A at *
      generalize y * z = B at *
      generalize x * z = C at *
      generalize y * w = D at *
      rw [if_neg (by decide), if_neg (by decide)]
      omega
end WM

namespace LW
open PySem PySem.Spec PyProof.Rows L2 GL
def top (i : Nat) : Stmt := PySem.Challenge.pw_flowpapers_k36_whole_windings.main.body.getD i (.Pass ⟨0, 0, 0, 0⟩)
abbrev sis_ratio : Stmt := top 9
theorem scis_ratio : FnScope ["value"] ["value"] (defScope sis_ratio) := ⟨rfl, rfl, rfl, by decide +kernel, rfl, by decide +kernel, by decide +kernel⟩
abbrev stold : Stmt := top 10
theorem sctold : FnScope ["value", "what", "top", "bottom"] ["value", "what"] (defScope stold) := ⟨rfl, rfl, rfl, by decide +kernel, rfl, by decide +kernel, by decide +kernel⟩
abbrev sis_integer : Stmt := top 11
theorem scis_integer : FnScope ["value"] ["value"] (defScope sis_integer) := ⟨rfl, rfl, rfl, by decide +kernel, rfl, by decide +kernel, by decide +kernel⟩
abbrev s_parts : Stmt := top 12
theorem sc_parts : FnScope ["value", "what"] ["value", "what"] (defScope s_parts) := ⟨rfl, rfl, rfl, by decide +kernel, rfl, by decide +kernel, by decide +kernel⟩
abbrev s_lowest : Stmt := top 13
theorem sc_lowest : FnScope ["top", "bottom", "divisor"] ["top", "bottom"] (defScope s_lowest) := ⟨rfl, rfl, rfl, by decide +kernel, rfl, by decide +kernel, by decide +kernel⟩
abbrev sis_row : Stmt := top 15
theorem scis_row : FnScope ["value", "number"] ["value"] (defScope sis_row) := ⟨rfl, rfl, rfl, by decide +kernel, rfl, by decide +kernel, by decide +kernel⟩
abbrev sis_row_of : Stmt := top 16
theorem scis_row_of : FnScope ["value", "many"] ["value", "many"] (defScope sis_row_of) := ⟨rfl, rfl, rfl, by decide +kernel, rfl, by decide +kernel, by decide +kernel⟩
abbrev sis_place : Stmt := top 17
theorem scis_place : FnScope ["value"] ["value"] (defScope sis_place) := ⟨rfl, rfl, rfl, by decide +kernel, rfl, by decide +kernel, by decide +kernel⟩
abbrev spair_of : Stmt := top 18
theorem scpair_of : FnScope ["value"] ["value"] (defScope spair_of) := ⟨rfl, rfl, rfl, by decide +kernel, rfl, by decide +kernel, by decide +kernel⟩
abbrev splace_of : Stmt := top 19
theorem scplace_of : FnScope ["value"] ["value"] (defScope splace_of) := ⟨rfl, rfl, rfl, by decide +kernel, rfl, by decide +kernel, by decide +kernel⟩
abbrev sbottom_of : Stmt := top 21
theorem scbottom_of : FnScope ["pairs", "below", "_", "bottom"] ["pairs"] (defScope sbottom_of) := ⟨rfl, rfl, rfl, by decide +kernel, rfl, by decide +kernel, by decide +kernel⟩
abbrev swhole_row : Stmt := top 22
theorem scwhole_row : FnScope ["pairs", "below", "top", "bottom"] ["pairs"] (defScope swhole_row) := ⟨rfl, rfl, rfl, by decide +kernel, rfl, by decide +kernel, by decide +kernel⟩
abbrev sclosed_row_of : Stmt := top 24
theorem scclosed_row_of : FnScope ["value", "place", "places", "start", "end"] ["value"] (defScope sclosed_row_of) := ⟨rfl, rfl, rfl, by decide +kernel, rfl, by decide +kernel, by decide +kernel⟩
abbrev sgrid_of : Stmt := top 25
theorem scgrid_of : FnScope ["rows", "wide", "_", "row", "place", "high", "points", "found", "start"] ["rows"] (defScope sgrid_of) := ⟨rfl, rfl, rfl, by decide +kernel, rfl, by decide +kernel, by decide +kernel⟩
abbrev ssides_of : Stmt := top 26
theorem scsides_of : FnScope ["places"] ["places"] (defScope ssides_of) := ⟨rfl, rfl, rfl, by decide +kernel, rfl, by decide +kernel, by decide +kernel⟩
abbrev swinding : Stmt := top 28
theorem scwinding : FnScope ["corners", "place", "row", "point", "points", "found", "a", "b", "c", "d", "turn"] ["corners", "place"] (defScope swinding) := ⟨rfl, rfl, rfl, by decide +kernel, rfl, by decide +kernel, by decide +kernel⟩
abbrev s_is_between : Stmt := top 29
theorem sc_is_between : FnScope ["one", "other", "number"] ["one", "other", "number"] (defScope s_is_between) := ⟨rfl, rfl, rfl, by decide +kernel, rfl, by decide +kernel, by decide +kernel⟩
abbrev s_law_pen : Stmt := top 31
theorem sc_law_pen : FnScope ["_law_script", "_law_fold", "_law_cell"] ["_law_script"] (defScope s_law_pen) := ⟨rfl, rfl, rfl, by decide +kernel, rfl, by decide +kernel, by decide +kernel⟩
abbrev s_law_draw : Stmt := top 32
theorem sc_law_draw : FnScope ["_law_pen_here", "_law_many", "_law_cell", "_law_digit", "_law_mixed"] ["_law_pen_here", "_law_many"] (defScope s_law_draw) := ⟨rfl, rfl, rfl, by decide +kernel, rfl, by decide +kernel, by decide +kernel⟩
abbrev s_law_pick : Stmt := top 33
theorem sc_law_pick : FnScope ["_law_pen_here", "_law_some"] ["_law_pen_here", "_law_some"] (defScope s_law_pick) := ⟨rfl, rfl, rfl, by decide +kernel, rfl, by decide +kernel, by decide +kernel⟩
abbrev s_law_is_whole : Stmt := top 34
theorem sc_law_is_whole : FnScope ["_law_thing"] ["_law_thing"] (defScope s_law_is_whole) := ⟨rfl, rfl, rfl, by decide +kernel, rfl, by decide +kernel, by decide +kernel⟩
abbrev s_law_gcd : Stmt := top 35
theorem sc_law_gcd : FnScope ["_law_one", "_law_two", "_law_lap"] ["_law_one", "_law_two"] (defScope s_law_gcd) := ⟨rfl, rfl, rfl, by decide +kernel, rfl, by decide +kernel, by decide +kernel⟩
abbrev s_law_q : Stmt := top 36
theorem sc_law_q : FnScope ["_law_top", "_law_bottom", "_law_by"] ["_law_top", "_law_bottom"] (defScope s_law_q) := ⟨rfl, rfl, rfl, by decide +kernel, rfl, by decide +kernel, by decide +kernel⟩
abbrev s_law_plus : Stmt := top 37
theorem sc_law_plus : FnScope ["_law_one", "_law_two"] ["_law_one", "_law_two"] (defScope s_law_plus) := ⟨rfl, rfl, rfl, by decide +kernel, rfl, by decide +kernel, by decide +kernel⟩
abbrev s_law_minus : Stmt := top 38
theorem sc_law_minus : FnScope ["_law_one", "_law_two"] ["_law_one", "_law_two"] (defScope s_law_minus) := ⟨rfl, rfl, rfl, by decide +kernel, rfl, by decide +kernel, by decide +kernel⟩
abbrev s_law_times : Stmt := top 39
theorem sc_law_times : FnScope ["_law_one", "_law_two"] ["_law_one", "_law_two"] (defScope s_law_times) := ⟨rfl, rfl, rfl, by decide +kernel, rfl, by decide +kernel, by decide +kernel⟩
abbrev s_law_passed : Stmt := top 40
theorem sc_law_passed : FnScope ["_law_pen_here", "_law_ratio_here", "_law_by"] ["_law_pen_here", "_law_ratio_here"] (defScope s_law_passed) := ⟨rfl, rfl, rfl, by decide +kernel, rfl, by decide +kernel, by decide +kernel⟩
abbrev s_law_ratio : Stmt := top 41
theorem sc_law_ratio : FnScope ["_law_pen_here", "_law_most", "_law_bottom"] ["_law_pen_here", "_law_most"] (defScope s_law_ratio) := ⟨rfl, rfl, rfl, by decide +kernel, rfl, by decide +kernel, by decide +kernel⟩
abbrev s_law_middle : Stmt := top 42
theorem sc_law_middle : FnScope ["_law_one", "_law_two"] ["_law_one", "_law_two"] (defScope s_law_middle) := ⟨rfl, rfl, rfl, by decide +kernel, rfl, by decide +kernel, by decide +kernel⟩
abbrev s_law_cross : Stmt := top 43
theorem sc_law_cross : FnScope ["_law_one", "_law_two"] ["_law_one", "_law_two"] (defScope s_law_cross) := ⟨rfl, rfl, rfl, by decide +kernel, rfl, by decide +kernel, by decide +kernel⟩
abbrev s_law_step : Stmt := top 44
theorem sc_law_step : FnScope ["_law_one", "_law_two"] ["_law_one", "_law_two"] (defScope s_law_step) := ⟨rfl, rfl, rfl, by decide +kernel, rfl, by decide +kernel, by decide +kernel⟩
abbrev s_law_sides : Stmt := top 45
theorem sc_law_sides : FnScope ["_law_corners"] ["_law_corners"] (defScope s_law_sides) := ⟨rfl, rfl, rfl, by decide +kernel, rfl, by decide +kernel, by decide +kernel⟩
abbrev s_law_place : Stmt := top 46
theorem sc_law_place : FnScope ["_law_pen_here", "_law_most"] ["_law_pen_here", "_law_most"] (defScope s_law_place) := ⟨rfl, rfl, rfl, by decide +kernel, rfl, by decide +kernel, by decide +kernel⟩
abbrev s_law_winding_of : Stmt := top 47
theorem sc_law_winding_of : FnScope ["_law_row", "_law_place_here", "_law_quarters", "_law_one", "_law_two", "_law_first", "_law_second", "_law_cross_here", "_law_dot", "_law_turn"] ["_law_row", "_law_place_here"] (defScope s_law_winding_of) := ⟨rfl, rfl, rfl, by decide +kernel, rfl, by decide +kernel, by decide +kernel⟩
abbrev s_law_quarter : Stmt := top 48
theorem sc_law_quarter : FnScope ["_law_step_here", "_law_x", "_law_y"] ["_law_step_here"] (defScope s_law_quarter) := ⟨rfl, rfl, rfl, by decide +kernel, rfl, by decide +kernel, by decide +kernel⟩
abbrev s_law_fault : Stmt := top 49
theorem sc_law_fault : FnScope ["_law_call", "_law_told", "error"] ["_law_call"] (defScope s_law_fault) := ⟨rfl, rfl, rfl, by decide +kernel, rfl, by decide +kernel, by decide +kernel⟩
abbrev slaw : Stmt := top 50
theorem sclaw : FnScope ["_law_script", "_law_pen_here", "_law_lap", "_law_row", "_law_k", "_law_place_here", "_law_places", "_law_one", "_law_two", "_law_half", "_law_passed_here", "_law_x", "_law_y", "_law_there", "_law_kept", "_law_told", "_law_due", "_law_good", "_law_odd", "_law_bad"] ["_law_script"] (defScope slaw) := ⟨rfl, rfl, rfl, by decide +kernel, rfl, by decide +kernel, by decide +kernel⟩
/-! ### the pen -/
abbrev kCe : Key := Sum.inr ("cells" : Str)
abbrev kAt : Key := Sum.inr ("at" : Str)
abbrev kDi : Key := Sum.inr ("digits" : Str)
abbrev kCo : Key := Sum.inr ("count" : Str)
abbrev kFo : Key := Sum.inr ("fold" : Str)
def penK (c : Addr) (a d n f : Int) : List (Key × V) := [(kCe, .ref c), (kAt, .int a), (kDi, .int d), (kCo, .int n), (kFo, .int f)]
theorem sneCeAt : ¬ (("cells" : Str) = "at") := by decide +kernel
theorem neCeAt : ¬ (kCe = kAt) := by decide +kernel
theorem sneCeDi : ¬ (("cells" : Str) = "digits") := by decide +kernel
theorem neCeDi : ¬ (kCe = kDi) := by decide +kernel
theorem sneCeCo : ¬ (("cells" : Str) = "count") := by decide +kernel
theorem neCeCo : ¬ (kCe = kCo) := by decide +kernel
theorem sneCeFo : ¬ (("cells" : Str) = "fold") := by decide +kernel
theorem neCeFo : ¬ (kCe = kFo) := by decide +kernel
theorem sneAtCe : ¬ (("at" : Str) = "cells") := by decide +kernel
theorem neAtCe : ¬ (kAt = kCe) := by decide +kernel
theorem sneAtDi : ¬ (("at" : Str) = "digits") := by decide +kernel
theorem neAtDi : ¬ (kAt = kDi) := by decide +kernel
theorem sneAtCo : ¬ (("at" : Str) = "count") := by decide +kernel
theorem neAtCo : ¬ (kAt = kCo) := by decide +kernel
theorem sneAtFo : ¬ (("at" : Str) = "fold") := by decide +kernel
theorem neAtFo : ¬ (kAt = kFo) := by decide +kernel
theorem sneDiCe : ¬ (("digits" : Str) = "cells") := by decide +kernel
theorem neDiCe : ¬ (kDi = kCe) := by decide +kernel
theorem sneDiAt : ¬ (("digits" : Str) = "at") := by decide +kernel
theorem neDiAt : ¬ (kDi = kAt) := by decide +kernel
theorem sneDiCo : ¬ (("digits" : Str) = "count") := by decide +kernel
theorem neDiCo : ¬ (kDi = kCo) := by decide +kernel
theorem sneDiFo : ¬ (("digits" : Str) = "fold") := by decide +kernel
theorem neDiFo : ¬ (kDi = kFo) := by decide +kernel
theorem sneCoCe : ¬ (("count" : Str) = "cells") := by decide +kernel
theorem neCoCe : ¬ (kCo = kCe) := by decide +kernel
theorem sneCoAt : ¬ (("count" : Str) = "at") := by decide +kernel
theorem neCoAt : ¬ (kCo = kAt) := by decide +kernel
theorem sneCoDi : ¬ (("count" : Str) = "digits") := by decide +kernel
theorem neCoDi : ¬ (kCo = kDi) := by decide +kernel
theorem sneCoFo : ¬ (("count" : Str) = "fold") := by decide +kernel
theorem neCoFo : ¬ (kCo = kFo) := by decide +kernel
theorem sneFoCe : ¬ (("fold" : Str) = "cells") := by decide +kernel
theorem neFoCe : ¬ (kFo = kCe) := by decide +kernel
theorem sneFoAt : ¬ (("fold" : Str) = "at") := by decide +kernel
theorem neFoAt : ¬ (kFo = kAt) := by decide +kernel
theorem sneFoDi : ¬ (("fold" : Str) = "digits") := by decide +kernel
theorem neFoDi : ¬ (kFo = kDi) := by decide +kernel
theorem sneFoCo : ¬ (("fold" : Str) = "count") := by decide +kernel
theorem neFoCo : ¬ (kFo = kCo) := by decide +kernel
theorem pen_cells {c : Addr} {a d n f : Int} : valV (penK c a d n f) kCe = some (.ref c) := by
  unfold penK
  rw [valV_pos rfl]
theorem pen_at {c : Addr} {a d n f : Int} : valV (penK c a d n f) kAt = some (.int a) := by
  unfold penK
  rw [valV_neg neCeAt, valV_pos rfl]
theorem pen_digits {c : Addr} {a d n f : Int} : valV (penK c a d n f) kDi = some (.int d) := by
  unfold penK
  rw [valV_neg neCeDi, valV_neg neAtDi, valV_pos rfl]
theorem pen_count {c : Addr} {a d n f : Int} : valV (penK c a d n f) kCo = some (.int n) := by
  unfold penK
  rw [valV_neg neCeCo, valV_neg neAtCo, valV_neg neDiCo, valV_pos rfl]
theorem pen_fold {c : Addr} {a d n f : Int} : valV (penK c a d n f) kFo = some (.int f) := by
  unfold penK
  rw [valV_neg neCeFo, valV_neg neAtFo, valV_neg neDiFo, valV_neg neCoFo, valV_pos rfl]
theorem put_at {c : Addr} {a d n f x : Int} : putK (penK c a d n f) kAt (.int x) = penK c x d n f := by
  simp [putK, penK, sneCeAt, sneDiAt, sneCoAt, sneFoAt]
theorem put_digits {c : Addr} {a d n f x : Int} : putK (penK c a d n f) kDi (.int x) = penK c a x n f := by
  simp [putK, penK, sneCeDi, sneAtDi, sneCoDi, sneFoDi]
theorem put_count {c : Addr} {a d n f x : Int} : putK (penK c a d n f) kCo (.int x) = penK c a d x f := by
  simp [putK, penK, sneCeCo, sneAtCo, sneDiCo, sneFoCo]
theorem put_fold {c : Addr} {a d n f x : Int} : putK (penK c a d n f) kFo (.int x) = penK c a d n x := by
  simp [putK, penK, sneCeFo, sneAtFo, sneDiFo, sneCoFo]
theorem merge_pen {c : Addr} {f : Int} : mergeK [] (penK c 0 0 0 f) = penK c 0 0 0 f := by
  simp [mergeK, putK, penK, sneCeAt, sneCeDi, sneCeCo, sneCeFo, sneAtDi, sneAtCo, sneAtFo, sneDiCo, sneDiFo, sneCoFo]
/-- a pen stands at p: at most m draws were made -/
def PenAt (H : Hp) (p c : Addr) (m : Nat) : Prop := ∃ (a d n f : Int) (ns : List Int), H p = some (.dK (penK c a d n f)) ∧ H c = some (.lst (ns.map V.int)) ∧
  0 ≤ a ∧ a ≤ ns.length ∧ 0 ≤ d ∧ 0 ≤ n ∧ n ≤ m ∧ 0 ≤ f ∧ f < 2147483587
theorem PenAt.le {H : Hp} {p c : Addr} {m m' : Nat} (h : PenAt H p c m) (l : m ≤ m') : PenAt H p c m' := by
  obtain ⟨a, d, n, f, ns, h1, h2, h3, h4, h5, h6, h7, h8⟩ := h
  exact ⟨a, d, n, f, ns, h1, h2, h3, h4, h5, h6, by omega, h8⟩
/-- all that stood stands, but what the pen's own dict holds -/
def But (p : Addr) (H H' : Hp) : Prop := ∀ b o, H b = some o → b ≠ p → H' b = some o
theorem But.refl {p : Addr} {H : Hp} : But p H H := fun _ _ h _ => h
theorem But.trans {p : Addr} {H H1 H2 : Hp} (a : But p H H1) (b : But p H1 H2) : But p H H2 := fun c o h n => b c o (a c o h n) n
theorem But.of {p : Addr} {H H' : Hp} (a : Same H H') : But p H H' := fun b o h _ => a b o h
/-- a list of its own may change -/
theorem PenAt.off {H H' : Hp} {p c : Addr} {m : Nat} (h : PenAt H p c m) (s1 : ∀ o, H p = some o → H' p = some o) (s2 : ∀ o, H c = some o → H' c = some o) : PenAt H' p c m := by
  obtain ⟨a, d, n, f, ns, h1, h2, h3⟩ := h
  exact ⟨a, d, n, f, ns, s1 _ h1, s2 _ h2, h3⟩
theorem Same.new {H : Hp} {p : Addr} {o : HO} (h : H p = none) : Same H (upd H p o) := fun b u e => by
  rw [upd_ne (ne_of_none e h)]
  exact e
theorem PenAt.same {H H' : Hp} {p c : Addr} {m : Nat} (h : PenAt H p c m) (s : Same H H') : PenAt H' p c m := by
  obtain ⟨a, d, n, f, ns, h1, h2, h3⟩ := h
  exact ⟨a, d, n, f, ns, s _ _ h1, s _ _ h2, h3⟩

/-! ### what they promise -/
def spPen (K : PySem.W.Frag) : Sp := fun vs H Q _ => ∃ (a : Addr) (ns : List Int), vs = [.ref a] ∧ SqL K H a (ns.map V.int) ∧ ns.length ≤ 63 ∧ ∀ (p c : Addr) (H' : Hp), Same H H' → PenAt H' p c 0 → Q (.ref p) H'
/-- the number of draws that may have been made -/
def most : Nat := 1000000000
def spDraw : Sp := fun vs H Q _ => ∃ (p c : Addr) (many : Int) (m : Nat), vs = [.ref p, .int many] ∧ PenAt H p c m ∧ m < most ∧ 0 < many ∧ many < 1000000000 ∧
  ∀ (r : Int) (H' : Hp), 0 ≤ r → r < many → But p H H' → PenAt H' p c (m + 1) → Q (.int r) H'

structure Txt (K : PySem.W.Frag) (mg : Str → Option Value) : Prop where
  int : mg "int" = none
  bool : mg "bool" = none
  list : mg "list" = none
  tuple : mg "tuple" = none
  len : mg "len" = none
  range : mg "range" = none
  isinstance : mg "isinstance" = none
  repr : mg "repr" = none
  abs : mg "abs" = none
  all : mg "all" = none
  zip : mg "zip" = none
  gcd : mg "gcd" = some (.builtin "math.gcd")
  lcm : mg "lcm" = some (.builtin "math.lcm")
  is_ratio : Df K mg "is_ratio" sis_ratio ["value"]
  told : Df K mg "told" stold ["value", "what"]
  is_integer : Df K mg "is_integer" sis_integer ["value"]
  _parts : Df K mg "_parts" s_parts ["value", "what"]
  _lowest : Df K mg "_lowest" s_lowest ["top", "bottom"]
  is_row : Df K mg "is_row" sis_row ["value"]
  is_row_of : Df K mg "is_row_of" sis_row_of ["value", "many"]
  is_place : Df K mg "is_place" sis_place ["value"]
  pair_of : Df K mg "pair_of" spair_of ["value"]
  place_of : Df K mg "place_of" splace_of ["value"]
  bottom_of : Df K mg "bottom_of" sbottom_of ["pairs"]
  whole_row : Df K mg "whole_row" swhole_row ["pairs"]
  closed_row_of : Df K mg "closed_row_of" sclosed_row_of ["value"]
  grid_of : Df K mg "grid_of" sgrid_of ["rows"]
  sides_of : Df K mg "sides_of" ssides_of ["places"]
  winding : Df K mg "winding" swinding ["corners", "place"]
  _is_between : Df K mg "_is_between" s_is_between ["one", "other", "number"]
  _law_pen : Df K mg "_law_pen" s_law_pen ["_law_script"]
  _law_draw : Df K mg "_law_draw" s_law_draw ["_law_pen_here", "_law_many"]
  _law_pick : Df K mg "_law_pick" s_law_pick ["_law_pen_here", "_law_some"]
  _law_is_whole : Df K mg "_law_is_whole" s_law_is_whole ["_law_thing"]
  _law_gcd : Df K mg "_law_gcd" s_law_gcd ["_law_one", "_law_two"]
  _law_q : Df K mg "_law_q" s_law_q ["_law_top", "_law_bottom"]
  _law_plus : Df K mg "_law_plus" s_law_plus ["_law_one", "_law_two"]
  _law_minus : Df K mg "_law_minus" s_law_minus ["_law_one", "_law_two"]
  _law_times : Df K mg "_law_times" s_law_times ["_law_one", "_law_two"]
  _law_passed : Df K mg "_law_passed" s_law_passed ["_law_pen_here", "_law_ratio_here"]
  _law_ratio : Df K mg "_law_ratio" s_law_ratio ["_law_pen_here", "_law_most"]
  _law_middle : Df K mg "_law_middle" s_law_middle ["_law_one", "_law_two"]
  _law_cross : Df K mg "_law_cross" s_law_cross ["_law_one", "_law_two"]
  _law_step : Df K mg "_law_step" s_law_step ["_law_one", "_law_two"]
  _law_sides : Df K mg "_law_sides" s_law_sides ["_law_corners"]
  _law_place : Df K mg "_law_place" s_law_place ["_law_pen_here", "_law_most"]
  _law_winding_of : Df K mg "_law_winding_of" s_law_winding_of ["_law_row", "_law_place_here"]
  _law_quarter : Df K mg "_law_quarter" s_law_quarter ["_law_step_here"]
  _law_fault : Df K mg "_law_fault" s_law_fault ["_law_call"]
  law : Df K mg "law" slaw ["_law_script"]
  BadNumber : ClI K mg "BadNumber" "BadNumber.__init__" (inClass (top 3) 0) ["self", "what", "number"] ["what", "number"]
  BadRow : ClI K mg "BadRow" "BadRow.__init__" (inClass (top 4) 0) ["self", "row"] ["row"]
  Shared : ClI K mg "Shared" "Shared.__init__" (inClass (top 5) 0) ["self", "plane"] ["plane"]
  NoRest : ClI K mg "NoRest" "NoRest.__init__" (inClass (top 6) 0) ["self", "place"] ["place"]
  NotRound : Cl0 K mg "NotRound"
  xBadRowBadNumber : PySem.W.exmOne K (.ref (fA mg "BadRow")) (.ref (fA mg "BadNumber")) = some false
  xBadRowBadRow : PySem.W.exmOne K (.ref (fA mg "BadRow")) (.ref (fA mg "BadRow")) = some true
  lb : ∀ (s : PySem.Shared) (u : PySem.Value), BindsTo s (fDat K (fA mg "law")) ⟨[u], []⟩ [("_law_script", u)]
section
variable {P : Program} {w : World} {K : PySem.W.Frag} {mg : Str → Option Value} {base : Heap}
theorem scI_BadNumber : FnScope ["self", "what", "number"] ["self", "what", "number"] (defScope (inClass (top 3) 0)) := ⟨rfl, rfl, rfl, by decide +kernel, rfl, by decide +kernel, by decide +kernel⟩
theorem init_BadNumber (T : Txt K mg) : FnOk P w K mg base CX0 1 (iA K (fA mg "BadNumber")) (fDat K (iA K (fA mg "BadNumber"))) ["self", "what", "number"] (spI2 (fA mg "BadNumber") "what" "number") := by
  refine T.BadNumber.F.ok scI_BadNumber (fun vs H Q E h => ?_) (fun cdv A outer s H vs Q E hr h => ?_)
  · obtain ⟨a, v, u, rfl, _⟩ := h
    rfl
  · obtain ⟨a, v, u, rfl, ha, k⟩ := h
    refine ⟨_, pss_cons (ps_ost (pv 0) (pv 1)) (pss_one (ps_ost (pv 0) (pv 2))), s_ost1 T.BadNumber.o (T.BadNumber.n _ (by simp)) ha rfl rfl fun dx hd ne => ?_⟩
    exact s_ost2 T.BadNumber.o (T.BadNumber.n _ (by simp)) upd_same (by rw [upd_ne ne, upd_same]) rfl rfl (k dx hd ne)

/-! ### kinds of values -/
def kinds : List String := ["int", "bool", "str", "NoneType", "dict", "list", "tuple"]
theorem kit_int {n : String} (h : n ∈ kinds) : PySem.W.kitOne K (.type n) (.type "int") = some (decide (n = "int") || decide (n = "bool")) := by
  simp only [kinds, List.mem_cons, List.not_mem_nil, or_false] at h
  rcases h with rfl | rfl | rfl | rfl | rfl | rfl | rfl <;> exact kit_ty (by decide +kernel)
theorem kit_bool {n : String} (h : n ∈ kinds) : PySem.W.kitOne K (.type n) (.type "bool") = some (decide (n = "bool")) := by
  simp only [kinds, List.mem_cons, List.not_mem_nil, or_false] at h
  rcases h with rfl | rfl | rfl | rfl | rfl | rfl | rfl <;> exact kit_ty (by decide +kernel)
theorem kit_tuple {n : String} (h : n ∈ kinds) : PySem.W.kitOne K (.type n) (.type "tuple") = some (decide (n = "tuple")) := by
  simp only [kinds, List.mem_cons, List.not_mem_nil, or_false] at h
  rcases h with rfl | rfl | rfl | rfl | rfl | rfl | rfl <;> exact kit_ty (by decide +kernel)
theorem kit_list {n : String} (h : n ∈ kinds) : PySem.W.kitOne K (.type n) (.type "list") = some (decide (n = "list")) := by
  simp only [kinds, List.mem_cons, List.not_mem_nil, or_false] at h
  rcases h with rfl | rfl | rfl | rfl | rfl | rfl | rfl <;> exact kit_ty (by decide +kernel)
theorem kit_seq {n : String} (h : n ∈ kinds) : PySem.W.kitAny K (.type n) [.type "tuple", .type "list"] = some (decide (n = "tuple") || decide (n = "list")) := by
  refine kitAny_cons (kit_tuple h) (fun e => ?_) (fun e => by rw [e]; rfl)
  rw [e]
  exact kitAny_cons (kit_list h) (fun e2 => by rw [e2]; rfl) (fun e2 => by rw [e2]; rfl)
/-- a value's kind, by its name -/
inductive Is (H : Hp) : V → String → Prop
  | int (i : Int) : Is H (.int i) "int"
  | bl (b : Bool) : Is H (.bl b) "bool"
  | str (x : Str) : Is H (.str x) "str"
  | non : Is H .non "NoneType"
  | lst {a : Addr} {xs : List V} (e : H a = some (.lst xs)) : Is H (.ref a) "list"
  | tup {a : Addr} {xs : List V} (e : H a = some (.tup xs)) : Is H (.ref a) "tuple"
  | dic {a : Addr} {kvs : List (Key × V)} (e : H a = some (.dK kvs)) : Is H (.ref a) "dict"
theorem Is.ty {K : PySem.W.Frag} {H : Hp} {v : V} {n : String} (h : Is H v n) : TyX K H v (.type n) ∧ n ∈ kinds := by
  cases h with
  | int i => exact ⟨.base (.int i), by decide⟩
  | bl b => exact ⟨.base (.bl b), by decide⟩
  | str x => exact ⟨.base (.str x), by decide⟩
  | non => exact ⟨.base .non, by decide⟩
  | lst e => exact ⟨.base (.lst e), by decide⟩
  | tup e => exact ⟨.base (.tup e), by decide⟩
  | dic e => exact ⟨.base (.dK e), by decide⟩
theorem Is.same {H H' : Hp} {v : V} {n : String} (h : Is H v n) (s : Same H H') : Is H' v n := by
  cases h with
  | int i => exact .int i
  | bl b => exact .bl b
  | str x => exact .str x
  | non => exact .non
  | lst e => exact .lst (s _ _ e)
  | tup e => exact .tup (s _ _ e)
  | dic e => exact .dic (s _ _ e)
theorem v_isi {σ : L2.St} {H : Hp} {te : TE} {v : V} {n c : String} {b : Bool} (h : Val te σ H v) (ty : TyX K H v (.type n)) (k : PySem.W.kitOne K (.type n) (.type c) = some b) :
    Val (tCB (rIsi K) (tCons te (tCons (tC (.ty c)) tNil))) σ H (.bl b) := v_cb (va_cons h (va_cons val_c va_nil)) fun Q q => ⟨v, _, _, _, b, rfl, .ty c, ty, k, q⟩
def spInt : Sp := fun vs H Q _ => ∃ (v : V) (n : String), vs = [v] ∧ Is H v n ∧ Q (.bl (decide (n = "int"))) H
theorem ok_is_integer (T : Txt K mg) : FnOk P w K mg base CX0 1 (fA mg "is_integer") (fDat K (fA mg "is_integer")) ["value"] spInt := by
  refine T.is_integer.F.ok scis_integer (fun vs H Q E h => ?_) (fun cdv A outer s H vs Q E hr h => ?_)
  · obtain ⟨v, n, rfl, _⟩ := h
    rfl
  · obtain ⟨v, n, rfl, is, k⟩ := h
    obtain ⟨ty, hn⟩ := is.ty (K := K)
    refine ⟨_, (pss_one (ps_ret (pe_and (pe_callB call_isi (by rfl) T.isinstance (by decide +kernel) (pa_cons (pv 0) (pa_cons (pe_bltn (v := .ty "int") (by rfl) T.int (by decide +kernel) rfl) pa_nil))) (pe_one (pe_not (pe_callB call_isi (by rfl) T.isinstance (by decide +kernel) (pa_cons (pv 0) (pa_cons (pe_bltn (v := .ty "bool") (by rfl) T.bool (by decide +kernel) rfl) pa_nil)))))))), ?_⟩
    refine r_ret ?_
    refine (v_isi (val_var rfl) ty (kit_int hn)) _ ?_
    refine ⟨_, rfl, ?_⟩
    by_cases h1 : n = "int"
    · subst h1
      refine iteT ?_
      refine (v_isi (val_var rfl) ty (kit_bool hn)) _ ?_
      exact ⟨_, rfl, k⟩
    · by_cases h2 : n = "bool"
      · subst h2
        refine iteT ?_
        refine (v_isi (val_var rfl) ty (kit_bool hn)) _ ?_
        exact ⟨_, rfl, k⟩
      · have e : (decide (n = "int") || decide (n = "bool")) = false := by simp [h1, h2]
        rw [e]
        refine iteF ?_
        rw [decide_eq_false h1] at k
        exact k

/-! ### is_ratio -/
/-- a list or a tuple stands at a -/
def Sq (H : Hp) (a : Addr) (xs : List V) : Prop := H a = some (.lst xs) ∨ H a = some (.tup xs)
theorem Sq.same {H H' : Hp} {a : Addr} {xs : List V} (h : Sq H a xs) (s : Same H H') : Sq H' a xs := h.elim (fun z => .inl (s _ _ z)) fun z => .inr (s _ _ z)
theorem Sq.is {H : Hp} {a : Addr} {xs : List V} (h : Sq H a xs) : ∃ n, Is H (.ref a) n ∧ (n = "list" ∨ n = "tuple") := by
  rcases h with h | h
  · exact ⟨"list", .lst h, .inl rfl⟩
  · exact ⟨"tuple", .tup h, .inr rfl⟩
theorem Sq.sq {K : PySem.W.Frag} {H : Hp} {a : Addr} {xs : List V} (h : Sq H a xs) : SqL K H a xs ∨ SqT K H a xs := h.elim (fun z => .inl (SqL.of z)) fun z => .inr (SqT.of z)
theorem v_ixS {K : PySem.W.Frag} {σ : L2.St} {H : Hp} {te tb : TE} {a : Addr} {xs : List V} {n : Nat} {v : V} (h : Val te σ H (.ref a)) (hi : Val tb σ H (.int (n : Int))) (hx : Sq H a xs) (he : xs[n]? = some v) : Val (tOp (rIx K) te tb) σ H v :=
  val_op h hi fun Q q => hx.elim (fun z => .inl ⟨a, xs, n, v, rfl, rfl, SqL.of z, atI_nat he, q⟩) fun z => .inr (.inl ⟨a, xs, n, v, rfl, rfl, SqT.of z, atI_nat he, q⟩)
/-- what is_ratio answers -/
inductive RatQ (H : Hp) : V → Bool → Prop
  | int (i : Int) : RatQ H (.int i) true
  | odd {v : V} {n : String} (h : Is H v n) (o : n = "bool" ∨ n = "str" ∨ n = "NoneType" ∨ n = "dict") : RatQ H v false
  | len {a : Addr} {xs : List V} (h : Sq H a xs) (l : xs.length ≠ 2) : RatQ H (.ref a) false
  | fst {a : Addr} {x y : V} {n : String} (h : Sq H a [x, y]) (hx : Is H x n) (o : n ≠ "int") : RatQ H (.ref a) false
  | snd {a : Addr} {i : Int} {y : V} {n : String} (h : Sq H a [.int i, y]) (hx : Is H y n) (o : n ≠ "int") : RatQ H (.ref a) false
  | pair {a : Addr} {i j : Int} (h : Sq H a [.int i, .int j]) : RatQ H (.ref a) (decide (0 < j))
theorem RatQ.same {H H' : Hp} {v : V} {b : Bool} (h : RatQ H v b) (s : Same H H') : RatQ H' v b := by
  cases h with
  | int i => exact .int i
  | odd h o => exact .odd (h.same s) o
  | len h l => exact .len (h.same s) l
  | fst h hx o => exact .fst (h.same s) (hx.same s) o
  | snd h hx o => exact .snd (h.same s) (hx.same s) o
  | pair h => exact .pair (h.same s)
def spRat : Sp := fun vs H Q _ => ∃ (v : V) (b : Bool), vs = [v] ∧ RatQ H v b ∧ ∀ H', Same H H' → Q (.bl b) H'
/-- if not t: .. -/
theorem q_ifNot {σ : L2.St} {H : Hp} {t : TT} {t1 tz : TS} {D : Ends} (h : t σ H fun c H1 => if (!c) = true then t1 { D with nx := tz D } σ H1 else tz D σ H1) : tSeq (tIfS (tNot t) t1 tNext) tz D σ H := h
/-- if not t or u: .. -/
theorem q_ifOrNot {σ : L2.St} {H : Hp} {t u : TT} {t1 tz : TS} {D : Ends} (h : t σ H fun c H1 => if (!c) = true then (if true = true then t1 { D with nx := tz D } σ H1 else tz D σ H1) else
    u σ H1 fun b H2 => if b = true then t1 { D with nx := tz D } σ H2 else tz D σ H2) : tSeq (tIfS (tOr (tNot t) u) t1 tNext) tz D σ H := h
theorem ok_is_ratio (T : Txt K mg) : FnOk P w K mg base CX0 3 (fA mg "is_ratio") (fDat K (fA mg "is_ratio")) ["value"] spRat := by
  have Gis_integer := ok_is_integer (P := P) (w := w) (base := base) T
  refine T.is_ratio.F.ok scis_ratio (fun vs H Q E h => ?_) (fun cdv A outer s H vs Q E hr h => ?_)
  · obtain ⟨v, b, rfl, _⟩ := h
    rfl
  · obtain ⟨v, b, rfl, hR, k⟩ := h
    refine ⟨_, (pss_cons (ps_if (pt_val (pe_c T.is_integer Gis_integer (hr.mono (by decide)) (pa_cons (pv 0) pa_nil))) (pss_one (ps_ret pe_bl)) pss_nil)
  (pss_cons (ps_if (PW.pt (pw_or (pt_not (pt_val (pe_callB call_isiT (by rfl) T.isinstance (by decide +kernel) (pa_cons (pv 0) (pa_cons (pe_tup (pa_cons (pe_bltn (v := .ty "tuple") (by rfl) T.tuple (by decide +kernel) rfl) (pa_cons (pe_bltn (v := .ty "list") (by rfl) T.list (by decide +kernel) rfl) pa_nil))) pa_nil))))) (pw_or1 (pt_cmpR op_ne (pe_callB call_len_seq (by rfl) T.len PySem.boot_len (pa_cons (pv 0) pa_nil)) pe_int (nomark _))))) (pss_one (ps_ret pe_bl)) pss_nil)
  (pss_one (ps_ret (pe_and (pe_c T.is_integer Gis_integer (hr.mono (by decide)) (pa_cons (pe_ix ix_seq (pv 0) pe_int (fun _ _ => rfl)) pa_nil)) (pe_and (pe_c T.is_integer Gis_integer (hr.mono (by decide)) (pa_cons (pe_ix ix_seq (pv 0) pe_int (fun _ _ => rfl)) pa_nil)) (pe_one (pe_cmpR op_gt (pe_ix ix_seq (pv 0) pe_int (fun _ _ => rfl)) pe_int (nomark _))))))))), ?_⟩
    have whole : ∀ {te : TE} {σ : L2.St} {H1 : Hp} {v : V} {n : String}, Val te σ H1 v → Is H1 v n → Val (tCall spInt [] E0 (tCons te tNil)) σ H1 (.bl (decide (n = "int"))) := fun h i Q q => c_call (va_cons h va_nil) ⟨_, _, rfl, i, q⟩
    have no : ∀ {n : String}, n ≠ "int" → decide (n = "int") = false := fun h => decide_eq_false h
    -- isinstance(value, (tuple, list)): a new tuple of both
    have both : ∀ {H1 : Hp} {v : V} {n : String} {Q : Bool → Hp → Prop}, Is H1 v n → (∀ H2, Same H1 H2 → Q (decide (n = "tuple") || decide (n = "list")) H2) →
        tB (tCB (rIsiT K) (tCons (tVar 0) (tCons (tTup (tCons (tC (.ty "tuple")) (tCons (tC (.ty "list")) tNil))) tNil))) [some v] H1 Q := fun {H1 v n Q} i q =>
      ⟨v, rfl, ⟨by show 2 ≤ sizeLine; decide, fun p hp => ⟨v, p, [.ty "tuple", .ty "list"], _, [.type "tuple", .type "list"], _, rfl, upd_same, .cons (.ty _) (.cons (.ty _) .nil), (i.same (Same.new' hp)).ty.1, kit_seq (i.ty (K := K)).2, _, rfl, q _ (Same.new' hp)⟩⟩⟩
    have notI : ∀ {a : Addr} {xs : List V}, Sq H a xs → ∃ n, Is H (.ref a) n ∧ n ≠ "int" ∧ (decide (n = "tuple") || decide (n = "list")) = true := fun {a xs} h => by
      obtain ⟨n, i, o⟩ := h.is
      exact ⟨n, i, by rcases o with rfl | rfl <;> decide, by rcases o with rfl | rfl <;> decide⟩
    have lenOf : ∀ {a : Addr} {xs : List V} {H2 : Hp}, Sq H2 a xs → Val (tCB (fun xs H Q => ∃ p ys, xs = [.ref p] ∧ (SqL K H p ys ∨ SqT K H p ys) ∧ Q (.int ys.length) H) (tCons (tVar 0) tNil)) [some (.ref a)] H2 (.int (xs.length : Int)) := fun h => v_len (val_var rfl) h.sq
    have two : ∀ {a : Addr} {x y : V} {H2 : Hp} {j : Nat} {v : V}, Sq H2 a [x, y] → [x, y][j]? = some v → Val (tOp (rIx K) (tVar 0) (tC (.int (j : Int)))) [some (.ref a)] H2 v := fun h e => v_ixS (val_var rfl) val_c h e
    cases hR with
    | int i => exact q_when (b := true) (ans_val (whole (val_var rfl) (.int i))) (fun _ => st_ret val_c (k H (Same.refl H))) (fun z => nomatch z)
    | @odd _ n h o =>
      have ni : n ≠ "int" := by rcases o with rfl | rfl | rfl | rfl <;> decide
      have ns : (decide (n = "tuple") || decide (n = "list")) = false := by rcases o with rfl | rfl | rfl | rfl <;> decide
      refine q_unless (Ans.to (ans_val (whole (val_var rfl) h)) (no ni)) ?_
      refine q_ifOrNot (both h fun H2 s2 => ?_)
      rw [ns]
      exact iteT (iteT (st_ret val_c (k H2 s2)))
    | @len a xs h l =>
      obtain ⟨n, i, ni, ns⟩ := notI h
      refine q_unless (Ans.to (ans_val (whole (val_var rfl) i)) (no ni)) ?_
      refine q_ifOrNot (both i fun H2 s2 => ?_)
      rw [ns]
      refine iteF ?_
      refine (ans_ne (lenOf (h.same s2)) val_c rfl (b := true) (by simp; omega)) _ ?_
      exact iteT (st_ret val_c (k H2 s2))
    | @fst a x y n h hx o =>
      obtain ⟨m, i, ni, ns⟩ := notI h
      refine q_unless (Ans.to (ans_val (whole (val_var rfl) i)) (no ni)) ?_
      refine q_ifOrNot (both i fun H2 s2 => ?_)
      rw [ns]
      refine iteF ?_
      refine (ans_ne (lenOf (h.same s2)) val_c rfl (b := false) (by simp)) _ ?_
      refine iteF ?_
      refine r_ret ?_
      refine (whole (two (j := 0) (h.same s2) rfl) (hx.same s2)) _ ⟨_, rfl, ?_⟩
      rw [no o]
      exact iteF (k H2 s2)
    | @snd a i y n h hx o =>
      obtain ⟨m, j, ni, ns⟩ := notI h
      refine q_unless (Ans.to (ans_val (whole (val_var rfl) j)) (no ni)) ?_
      refine q_ifOrNot (both j fun H2 s2 => ?_)
      rw [ns]
      refine iteF ?_
      refine (ans_ne (lenOf (h.same s2)) val_c rfl (b := false) (by simp)) _ ?_
      refine iteF ?_
      refine r_ret ?_
      refine (whole (two (j := 0) (h.same s2) rfl) (.int i)) _ ⟨_, rfl, ?_⟩
      refine iteT ?_
      refine (whole (two (j := 1) (h.same s2) rfl) (hx.same s2)) _ ⟨_, rfl, ?_⟩
      rw [no o]
      exact iteF (k H2 s2)
    | @pair a i j h =>
      obtain ⟨m, i2, ni, ns⟩ := notI h
      refine q_unless (Ans.to (ans_val (whole (val_var rfl) i2)) (no ni)) ?_
      refine q_ifOrNot (both i2 fun H2 s2 => ?_)
      rw [ns]
      refine iteF ?_
      refine (ans_ne (lenOf (h.same s2)) val_c rfl (b := false) (by simp)) _ ?_
      refine iteF ?_
      refine r_ret ?_
      refine (whole (two (j := 0) (h.same s2) rfl) (.int i)) _ ⟨_, rfl, ?_⟩
      refine iteT ?_
      refine (whole (two (j := 1) (h.same s2) rfl) (.int j)) _ ⟨_, rfl, ?_⟩
      refine iteT ?_
      refine (two (j := 1) (h.same s2) rfl) _ ?_
      exact ⟨_, _, rfl, rfl, k H2 s2⟩

/-! ### the parts of a ratio -/
inductive Rt (H : Hp) : V → Int → Int → Prop
  | int (i : Int) : Rt H (.int i) i 1
  | pair {a : Addr} {i j : Int} (h : Sq H a [.int i, .int j]) (p : 0 < j) : Rt H (.ref a) i j
theorem Rt.same {H H' : Hp} {v : V} {i j : Int} (h : Rt H v i j) (s : Same H H') : Rt H' v i j := by
  cases h with
  | int i => exact .int i
  | pair h p => exact .pair (h.same s) p
theorem Rt.pos {H : Hp} {v : V} {i j : Int} (h : Rt H v i j) : 0 < j := by
  cases h with
  | int i => decide
  | pair h p => exact p
theorem Rt.yes {H : Hp} {v : V} {i j : Int} (h : Rt H v i j) : RatQ H v true := by
  cases h with
  | int i => exact .int i
  | pair h p =>
    have q := RatQ.pair h
    rw [decide_eq_true p] at q
    exact q
/-- BadNumber(what, number) leaves -/
def Bad (mg : Str → Option Value) (H : Hp) (wh v : V) (E : XK) : Prop := ∀ (d : Addr) (H' : Hp), Same H H' → H d = none → H' d = some (.xd [("number", v), ("what", wh)]) → E (.ref (fA mg "BadNumber")) (some d) H'
theorem Bad.from {mg : Str → Option Value} {H H' : Hp} {wh v : V} {E : XK} (b : Bad mg H wh v E) (s : Same H H') : Bad mg H' wh v E := fun d H2 s2 n e => b d H2 (s.trans s2) (s.free n) e
theorem x_made2 {σ : L2.St} {H : Hp} {ta : TA} {C : Addr} {f g : Str} {v u : V} {Q : XK} (h : VA ta σ H [v, u]) (k : ∀ d H', Same H H' → H d = none → H' d = some (.xd [(g, u), (f, v)]) → Q (.ref C) (some d) H') : tMkO C (spI2 C f g) [] ta σ H Q :=
  h _ ⟨by show 2 ≤ 1000; decide, fun a ha => ⟨a, v, u, rfl, upd_same, fun dx hd ne => by
    rw [upd_ne ne] at hd
    refine ⟨rfl, dx, _, by rw [upd_ne (Ne.symm ne), upd_same], upd_same, hd, k dx _ (fun b o e => ?_) hd upd_same⟩
    have hb : b ≠ a := ne_of_none e ha
    have hb2 : b ≠ dx := ne_of_none e hd
    rw [upd_ne hb2, del_ne hb, upd_ne hb2, upd_ne hb, upd_ne hb2, upd_ne hb]
    exact e⟩⟩
def spParts (mg : Str → Option Value) : Sp := fun vs H Q E => ∃ (v wh : V), vs = [v, wh] ∧ ((∃ i j, Rt H v i j ∧ ∀ (p : Addr) (H' : Hp), Same H H' → H' p = some (.tup [.int i, .int j]) → Q (.ref p) H') ∨ (RatQ H v false ∧ Bad mg H wh v E))
theorem ok_parts (T : Txt K mg) : FnOk P w K mg base (L2.CX P w) 5 (fA mg "_parts") (fDat K (fA mg "_parts")) ["value", "what"] (spParts mg) := by
  have Gis_ratio := ok_is_ratio (P := P) (w := w) (base := base) T
  have Gi_BadNumber := init_BadNumber (P := P) (w := w) (base := base) T
  refine T._parts.F.okX sc_parts (fun vs H Q E h => ?_) (fun cdv A outer s H vs Q E hr h => ?_)
  · obtain ⟨v, wh, rfl, _⟩ := h
    rfl
  · obtain ⟨v, wh, rfl, h⟩ := h
    refine ⟨_, (pss_cons (ps_if (pt_not (pt_val (pe_c T.is_ratio Gis_ratio (hr.mono (by decide)) (pa_cons (pv 0) pa_nil)))) (pss_one (ps_raise rfl (takes_of rfl rfl rfl rfl) (pmk_oex T.BadNumber.o T.BadNumber.i T.BadNumber.t Gi_BadNumber (hr.mono (by decide)) T.BadNumber.b .nil pass0 (by rfl) T.BadNumber.g (pa_cons (pv 1) (pa_cons (pv 0) pa_nil))))) pss_nil)
  (pss_cons (ps_if (pt_val (pe_callB call_isi (by rfl) T.isinstance (by decide +kernel) (pa_cons (pv 0) (pa_cons (pe_bltn (v := .ty "int") (by rfl) T.int (by decide +kernel) rfl) pa_nil)))) (pss_one (ps_ret (pe_tup (pa_cons (pv 0) (pa_cons pe_int pa_nil))))) pss_nil)
  (pss_one (ps_ret (pe_tup (pa_cons (pe_ix ix_seq (pv 0) pe_int (fun _ _ => rfl)) (pa_cons (pe_ix ix_seq (pv 0) pe_int (fun _ _ => rfl)) pa_nil))))))), ?_⟩
    have rat : ∀ {b : Bool} {X : Bool → Hp → Prop}, RatQ H v b → (∀ H', Same H H' → X b H') → (tB (tCall spRat [] E0 (tCons (tVar 0) tNil))) [some v, some wh] H X := fun r k =>
      c_call (va_cons (val_var rfl) va_nil) ⟨_, _, rfl, r, fun H' s => ⟨_, rfl, k H' s⟩⟩
    rcases h with ⟨i, j, r, k⟩ | ⟨r, k⟩
    · refine q_ifNot (rat r.yes fun H1 s1 => ?_)
      refine iteF ?_
      have r1 := r.same s1
      cases r1 with
      | int i =>
        obtain ⟨ty, hn⟩ := (Is.int (H := H1) i).ty (K := K)
        refine q_when (b := true) (ans_val (v_isi (val_var rfl) ty (kit_int hn))) (fun _ => ?_) (fun z => nomatch z)
        exact r_ret (te := tTup _) ((va_cons (val_var rfl) (va_cons val_c va_nil)) _ ⟨by show 2 ≤ sizeLine; decide, fun p hp => k p _ (s1.trans (Same.new' hp)) upd_same⟩)
      | @pair a i j h p =>
        obtain ⟨n, is, o⟩ := h.is
        have e : (decide (n = "int") || decide (n = "bool")) = false := by rcases o with rfl | rfl <;> decide
        obtain ⟨ty, hn⟩ := is.ty (K := K)
        have z := v_isi (K := K) (σ := [some (.ref a), some wh]) (te := tVar 0) (val_var rfl) ty (kit_int hn)
        rw [e] at z
        refine q_unless (ans_val z) ?_
        exact r_ret (te := tTup _) ((va_cons (v_ixS (n := 0) (val_var rfl) val_c h rfl) (va_cons (v_ixS (n := 1) (val_var rfl) val_c h rfl) va_nil)) _ ⟨by show 2 ≤ sizeLine; decide, fun p hp => k p _ (s1.trans (Same.new' hp)) upd_same⟩)
    · refine q_ifNot (rat r fun H1 s1 => ?_)
      exact iteT (x_made2 (va_cons (val_var rfl) (va_cons (val_var rfl) va_nil)) fun d H' s n e => k d H' (s1.trans s) (s1.free n) e)

theorem op_fdivS {X : Cx} : OpR X (binaryOp .FloorDiv) (rI (fun _ j => j ≠ 0 ∧ j.natAbs.log2 < 9000) fun i j => .int (i.fdiv j)) := opI fun _ _ _ _ _ _ _ hc q => floordiv_int hc.1 q (.inl (PyProof.noPylong_of_log2 hc.2))
/-! ### lowest terms -/
def gI (i j : Int) : Int := ((Nat.gcd i.natAbs j.natAbs : Nat) : Int)
theorem gI_pos {i j : Int} (h : 0 < j) : 0 < gI i j := by
  have : 0 < Nat.gcd i.natAbs j.natAbs := Nat.gcd_pos_of_pos_right _ (by omega)
  unfold gI
  omega
theorem gI_le {i j : Int} (h : 0 < j) : gI i j ≤ j := by
  have : Nat.gcd i.natAbs j.natAbs ≤ j.natAbs := Nat.le_of_dvd (by omega) (Nat.gcd_dvd_right _ _)
  unfold gI
  omega
def wd : Nat := 4000
def spLow : Sp := fun vs H Q _ => ∃ i j : Int, vs = [.int i, .int j] ∧ 0 < j ∧ j.natAbs < 2 ^ wd ∧ ∀ (p : Addr) (H' : Hp), Same H H' → H' p = some (.tup [.int (i / gI i j), .int (j / gI i j)]) → Q (.ref p) H'
theorem ok_lowest (T : Txt K mg) : FnOk P w K mg base CX0 1 (fA mg "_lowest") (fDat K (fA mg "_lowest")) ["top", "bottom"] spLow := by
  refine T._lowest.F.ok sc_lowest (fun vs H Q E h => ?_) (fun cdv A outer s H vs Q E hr h => ?_)
  · obtain ⟨i, j, rfl, _⟩ := h
    rfl
  · obtain ⟨i, j, rfl, hj, hb, k⟩ := h
    refine ⟨_, (pss_cons (ps_set (i := 2) sc_lowest.nd rfl (Or.inl rfl) (pe_callBfun cr_gcd (by rfl) T.gcd (pa_cons (pv 0) (pa_cons (pv 1) pa_nil))))
  (pss_one (ps_ret (pe_tup (pa_cons (pe_op op_fdivW (pv 0) (pv 2)) (pa_cons (pe_op op_fdivW (pv 1) (pv 2)) pa_nil)))))), ?_⟩
    have hd : CDivW i (gI i j) ∧ CDivW j (gI i j) := by
      have h := wide_div (i := i) (gI_pos (i := i) hj) (b := wd) (wide_le (Int.le_of_lt (gI_pos hj)) (gI_le hj) hb) (by decide) (by decide)
      exact ⟨h, h⟩
    refine q_set (v := .int (gI i j)) (v_cb (va_cons (val_var rfl) (va_cons (val_var rfl) va_nil)) fun Q q => ⟨i, j, rfl, q⟩) ?_
    exact r_ret (te := tTup _) ((va_cons (v_div (val_var rfl) (val_var rfl) hd.1) (va_cons (v_div (val_var rfl) (val_var rfl) hd.2) va_nil)) _ ⟨by show 2 ≤ sizeLine; decide, fun p hp => k p _ (Same.new' hp) upd_same⟩)
/-- a ratio of any terms below 2 ^ 1000, and its parts -/
def Fit (i j : Int) : Prop := i.natAbs < 2 ^ 1000 ∧ j.natAbs < 2 ^ 1000
theorem fit_mul {i j : Int} (h : i.natAbs < 2 ^ 1000) (g : j.natAbs < 2 ^ 1000) : CMulW i j := wide_mul h g (by decide) (by decide) (by decide)
theorem fit_lt {i j : Int} (h : i.natAbs < 2 ^ 1000) (g : j.natAbs < 2 ^ 1000) : (i * j).natAbs < 2 ^ wd := Nat.lt_of_lt_of_le (wide_lt h g) (Nat.pow_le_pow_right (by decide) (by decide))
theorem fit_add {i j : Int} (h : i.natAbs < 2 ^ (1000 + 1000)) (g : j.natAbs < 2 ^ (1000 + 1000)) : (i + j).natAbs < 2 ^ wd := by
  have e : 2 ^ (1000 + 1000) + 2 ^ (1000 + 1000) = 2 ^ (1000 + 1000 + 1) := by rw [Nat.pow_succ (n := 2) (m := 1000 + 1000)]; exact (Nat.mul_two _).symm
  have l : 2 ^ (1000 + 1000 + 1) ≤ 2 ^ wd := Nat.pow_le_pow_right (by decide) (by decide)
  exact Nat.lt_of_lt_of_le (Nat.lt_of_le_of_lt (Int.natAbs_add_le i j) (Nat.add_lt_add h g)) (Nat.le_trans (Nat.le_of_eq e) l)
theorem fit_sub {i j : Int} (h : i.natAbs < 2 ^ (1000 + 1000)) (g : j.natAbs < 2 ^ (1000 + 1000)) : (i - j).natAbs < 2 ^ wd := by
  rw [Int.sub_eq_add_neg]
  exact fit_add h (by rw [Int.natAbs_neg]; exact g)
theorem q_parts {mg : Str → Option Value} {K : PySem.W.Frag} {σ : L2.St} {H : Hp} {E : XK} {ta : TA} {v wh : V} {a b : Int} {i j n : Nat} {tz : TS} {D : Ends} (hn : n = 2) (h : VA ta σ H [v, wh]) (r : Rt H v a b)
    (q : ∀ H', Same H H' → tz D ((σ.set i (some (.int a))).set j (some (.int b))) H') : tSeq (tAsg (tCall (spParts mg) [] E ta) (gTup K n (gCons (gName i) (gCons (gName j) gNil)))) tz D σ H := by
  subst hn
  exact (show tAsg _ _ _ _ _ from c_call h ⟨v, wh, rfl, .inl ⟨a, b, r, fun p H' s e => g_two (SqT.of e) (q H' s)⟩⟩)
theorem q_partsX {mg : Str → Option Value} {σ : L2.St} {H : Hp} {E : XK} {ta : TA} {v wh : V} {g : TG} {tz : TS} {D : Ends} (h : VA ta σ H [v, wh]) (r : RatQ H v false) (b : Bad mg H wh v E) :
    tSeq (tAsg (tCall (spParts mg) [] E ta) g) tz D σ H := (show tAsg _ _ _ _ _ from c_call h ⟨v, wh, rfl, .inr ⟨r, b⟩⟩)

def sp_told (mg : Str → Option Value) : Sp := fun vs H Q E => ∃ (v wh : V), vs = [v, wh] ∧ ((∃ i j, Rt H v i j ∧ Fit i j ∧ ∀ (p : Addr) (H' : Hp), Same H H' → H' p = some (.tup [.int ((i) / gI (i) (j)), .int ((j) / gI (i) (j))]) → Q (.ref p) H') ∨ (RatQ H v false ∧ Bad mg H wh v E))
theorem ok_told (T : Txt K mg) : FnOk P w K mg base (L2.CX P w) 6 (fA mg "told") (fDat K (fA mg "told")) ["value", "what"] (sp_told mg) := by
  have G_parts := ok_parts (P := P) (w := w) (base := base) T
  have G_lowest := ok_lowest (P := P) (w := w) (base := base) T
  refine T.told.F.okX sctold (fun vs H Q E h => ?_) (fun cdv A outer s H vs Q E hr h => ?_)
  · obtain ⟨v, u, rfl, _⟩ := h
    rfl
  · obtain ⟨v, u, rfl, h⟩ := h
    refine ⟨_, (pss_cons (ps_asg (pe_call G_parts (hr.mono (by decide)) (by rfl) T._parts.g T._parts.F.kp T._parts.b .nil (passes_call (takes_of rfl rfl rfl rfl) (fun _ _ _ _ h => h)) (pa_cons (pv 0) (pa_cons (pv 1) pa_nil))) (pg_tup rfl (pgs_cons (pg_name (i := 2) sctold.nd rfl (Or.inl rfl)) (pgs_cons (pg_name (i := 3) sctold.nd rfl (Or.inl rfl)) pgs_nil))))
  (pss_one (ps_ret (pe_c T._lowest G_lowest (hr.mono (by decide)) (pa_cons (pv 2) (pa_cons (pv 3) pa_nil)))))), ?_⟩
    rcases h with ⟨i, j, r, ⟨fi, fj⟩, q⟩ | ⟨r, b⟩
    · refine q_parts rfl (va_cons (val_var rfl) (va_cons (val_var rfl) va_nil)) r fun H1 s1 => ?_
      exact r_ret (te := tCall _ _ _ _) (c_call (va_cons (val_var rfl) (va_cons (val_var rfl) va_nil)) ⟨_, _, rfl, r.pos, Nat.lt_of_lt_of_le fj (Nat.pow_le_pow_right (by decide) (by decide)), fun p H' s e => q p H' (s1.trans s) e⟩)
    · exact q_partsX (va_cons (val_var rfl) (va_cons (val_var rfl) va_nil)) r b
theorem q_told {mg : Str → Option Value} {K : PySem.W.Frag} {σ : L2.St} {H : Hp} {E : XK} {ta : TA} {v wh : V} {a b : Int} {i j n : Nat} {tz : TS} {D : Ends} (hn : n = 2) (h : VA ta σ H [v, wh]) (r : Rt H v a b) (f : Fit a b)
    (q : ∀ H', Same H H' → tz D ((σ.set i (some (.int (a / gI a b)))).set j (some (.int (b / gI a b)))) H') : tSeq (tAsg (tCall (sp_told mg) [] E ta) (gTup K n (gCons (gName i) (gCons (gName j) gNil)))) tz D σ H := by
  subst hn
  exact (show tAsg _ _ _ _ _ from c_call h ⟨v, wh, rfl, .inl ⟨a, b, r, f, fun p H' s e => g_two (SqT.of e) (q H' s)⟩⟩)
theorem q_toldX {mg : Str → Option Value} {σ : L2.St} {H : Hp} {E : XK} {ta : TA} {v wh : V} {g : TG} {tz : TS} {D : Ends} (h : VA ta σ H [v, wh]) (r : RatQ H v false) (b : Bad mg H wh v E) :
    tSeq (tAsg (tCall (sp_told mg) [] E ta) g) tz D σ H := (show tAsg _ _ _ _ _ from c_call h ⟨v, wh, rfl, .inr ⟨r, b⟩⟩)

theorem q_while0 {t : TT} {tb tz : TS} {D : Ends} {σ : L2.St} {H : Hp} (h : Ans t σ H false) (q : tz D σ H) : tSeq (tWhile t tb) tz D σ H :=
  ⟨fun _ σ' H' => σ' = σ ∧ H' = H, ⟨0, rfl, rfl⟩, fun m σ' H' ⟨e1, e2⟩ => by
    subst e1 e2
    exact h _ (iteF q)⟩
theorem q_app0 {to te : TE} {tz : TS} {D : Ends} {σ : L2.St} {H : Hp} {l : Addr} {xs : List V} (h : Val to σ H (.ref l)) (hl : H l = some (.lst xs)) (he : te σ H fun v H1 => rAppend (.ref l) [v] H1 fun _ H2 => tz D σ H2) :
    tSeq (tDrop (tBM K "list" rAppend to (tCons te tNil))) tz D σ H := s_appC (D := { D with nx := tz D }) h hl he
theorem op_l {r : R2} {ta tb : TE} {σ : L2.St} {H : Hp} {Q : VK} {x : V} (h : Val ta σ H x) (k : tb σ H fun y H1 => r x y H1 Q) : tOp r ta tb σ H Q := h _ k
theorem v_tif {t : TT} {x y z : V} {σ : L2.St} {H : Hp} {b : Bool} (h : Ans t σ H b) (e : (if b = true then x else y) = z) : Val (tIf t (tC x) (tC y)) σ H z := fun Q q => h _ (by
  subst e
  cases b <;> exact q)
theorem ok_pen {f : Addr} {fd : FuncData} (F : Fun K "_law_pen" "_law_pen" s_law_pen f fd) (T : Txt K mg) : FnOk P w K mg base CX0 1 f fd ["_law_script"] (spPen K) := by
  refine F.ok sc_law_pen (fun vs H Q E h => ?_) (fun cdv A outer s H vs Q E hr h => ?_)
  · obtain ⟨a, ns, rfl, _⟩ := h
    rfl
  · obtain ⟨a, ns, rfl, hS, hl, k⟩ := h
    refine ⟨_, pss_cons (ps_set (i := 1) sc_law_pen.nd rfl (Or.inl rfl) pe_int)
      (pss_cons (ps_for PassesOwn.never rfl (pi_list (pv 0)) (pg_name (i := 2) sc_law_pen.nd rfl (Or.inl rfl))
        (pss_one (ps_set (i := 1) sc_law_pen.nd rfl (Or.inl rfl) (pe_op op_mod (pe_callTy call_int1 (by rfl) T.int (by decide +kernel) (pa_cons (pe_op op_add (pe_op op_mul (pv 1) pe_int) (pv 2)) pa_nil)) pe_int))))
      (pss_one (ps_ret (pe_disp (pps_cons pe_str (pe_callTy call_list_of (by rfl) T.list (by decide +kernel) (pa_cons (pv 0) pa_nil)) (pps_cons pe_str pe_int (pps_cons pe_str pe_int (pps_cons pe_str pe_int (pps_cons pe_str (pv 1) pps_nil))))) (by rfl) (by rfl) (fun z => by cases z) (by decide))))), ?_⟩
    refine ⟨_, rfl, a, rfl, ⟨_, hS⟩, for_list (K := K) (a := a) (xs := ns.map V.int) (fun i σ H' => ∃ (v : Int) (c : Option V), σ = [some (.ref a), some (.int v), c] ∧ H' = H ∧ 0 ≤ v ∧ v < 1000000007)
      ⟨0, none, rfl, rfl, by decide, by decide⟩ (fun i σ H' _ ⟨_, _, _, e, _⟩ => e ▸ hS) ?_ ?_⟩
    · rintro i y σ H' hi ⟨v, c, rfl, rfl, h0, h1⟩
      obtain ⟨z, rfl⟩ : ∃ z, y = V.int z := by
        rw [List.getElem?_map] at hi
        cases e : ns[i]? with
        | none => rw [e] at hi; cases hi
        | some z => rw [e] at hi; exact ⟨z, (Option.some.inj hi).symm⟩
      refine ⟨_, rfl, _, _, rfl, rfl, .inl ⟨by omega, by omega⟩, _, rfl, _, _, rfl, rfl, .inl ⟨_, rfl, ?_⟩⟩
      refine ⟨_, _, rfl, rfl, (by show (0 : Int) < 1000000007; decide), ?_⟩
      exact ⟨_, _, rfl, rfl, Int.emod_nonneg _ (by decide), Int.emod_lt_of_pos _ (by decide)⟩
    · rintro σ H' ⟨v, c, rfl, rfl, h0, h1⟩
      intro p hp
      refine ⟨_, rfl, a, _, rfl, .inl (Same.seq (Same.new hp) hS), fun l hl' => ?_⟩
      refine ⟨_, rfl, ?_⟩
      have npl : p ≠ l := ne_of_none upd_same hl'
      refine ⟨by rw [upd_ne npl, upd_same], penK l 0 0 0 v, rfl, (by show 5 ≤ 15; decide), ?_⟩
      rw [merge_pen]
      have hl0 : H' l = none := (Same.new hp).free hl'
      refine k p l _ (fun b o e => ?_) ⟨0, 0, 0, v, ns, upd_same, ?_, by decide, by omega, by decide, by decide, by decide, h0, by omega⟩
      · rw [upd_ne (ne_of_none e hp), upd_ne (ne_of_none e hl0), upd_ne (ne_of_none e hp)]
        exact e
      · rw [upd_ne npl.symm, upd_same]
theorem ok_draw {f : Addr} {fd : FuncData} (F : Fun K "_law_draw" "_law_draw" s_law_draw f fd) (T : Txt K mg) : FnOk P w K mg base CX0 1 f fd ["_law_pen_here", "_law_many"] spDraw := by
  refine F.ok sc_law_draw (fun vs H Q E h => ?_) (fun cdv A outer s H vs Q E hr h => ?_)
  · obtain ⟨p, c, many, m, rfl, _⟩ := h
    rfl
  · obtain ⟨p, c, many, m, rfl, hP, hm, h0, h1, k⟩ := h
    have hu := hu_of hr
    refine ⟨_, pss_cons (ps_dput hu (pv 0) pe_str (pe_op op_add (pe_dget hu (pv 0) pe_str (fun _ _ => rfl)) pe_int) rfl)
      (C8.pss_cut (ps_if (PW.pt (pw_and (pt_cmpR op_eq (pe_dget hu (pv 0) pe_str (fun _ _ => rfl)) pe_int (nomark _))
          (pw_and1 (pt_cmpR op_lt (pe_dget hu (pv 0) pe_str (fun _ _ => rfl)) (pe_callB call_len_seq (by rfl) T.len PySem.boot_len (pa_cons (pe_dget hu (pv 0) pe_str (fun _ _ => rfl)) pa_nil)) (nomark _)))))
        (pss_cons (ps_set (i := 2) sc_law_draw.nd rfl (Or.inl rfl) (pe_ix ix_list (pe_dget hu (pv 0) pe_str (fun _ _ => rfl)) (pe_dget hu (pv 0) pe_str (fun _ _ => rfl)) (fun _ _ => rfl)))
        (pss_cons (ps_dput hu (pv 0) pe_str (pe_op op_add (pe_dget hu (pv 0) pe_str (fun _ _ => rfl)) pe_int) rfl)
        (pss_one (ps_if (pt_cmpR op_ge (pv 2) (pe_op op_pow pe_int pe_int) (nomark _))
          (pss_one (ps_dput hu (pv 0) pe_str (pe_op op_sub (pv 2) (pe_op op_pow pe_int pe_int)) rfl))
          (pss_one (ps_dput hu (pv 0) pe_str (pe_op op_mod (pe_callTy call_int1 (by rfl) T.int (by decide +kernel) (pa_cons (pe_op op_add (pe_op op_mul (pe_dget hu (pv 0) pe_str (fun _ _ => rfl)) pe_int) (pv 2)) pa_nil)) pe_int) rfl))))))
        pss_nil)
      (pss_cons (ps_if (pt_cmpR op_gt (pe_dget hu (pv 0) pe_str (fun _ _ => rfl)) pe_int (nomark _))
        (pss_cons (ps_set (i := 3) sc_law_draw.nd rfl (Or.inl rfl) (pe_op op_modN (pe_callTy call_int1 (by rfl) T.int (by decide +kernel) (pa_cons (pe_dget hu (pv 0) pe_str (fun _ _ => rfl)) pa_nil)) (pv 1)))
        (pss_cons (ps_dput hu (pv 0) pe_str (pe_op op_fdivN (pe_dget hu (pv 0) pe_str (fun _ _ => rfl)) (pv 1)) rfl)
        (pss_one (ps_ret (pv 3)))))
        pss_nil)
      (pss_cons (ps_set (i := 4) sc_law_draw.nd rfl (Or.inl rfl) (pe_op op_add (pe_op op_add (pe_dget hu (pv 0) pe_str (fun _ _ => rfl)) (pe_op op_mul (pe_dget hu (pv 0) pe_str (fun _ _ => rfl)) pe_int)) pe_int))
      (pss_one (ps_ret (pe_op op_modN (pe_op op_fdiv (pe_callTy call_int1 (by rfl) T.int (by decide +kernel) (pa_cons (pe_op op_mod (pe_op op_pow (pv 4) pe_int) pe_int) pa_nil)) pe_int) (pv 1))))))), ?_⟩
    obtain ⟨a, d, n, fo, ns, hp, hc, b1, b2, b3, b4, b5, b6, b7⟩ := hP
    have npc : c ≠ p := ne_of hc hp (by intro z; cases z)
    have get : ∀ {z1 z2 z3 : Option V} {H1 : Hp} {c : Addr} {a d n f : Int} {k : Key} {v : V}, H1 p = some (.dK (penK c a d n f)) → valV (penK c a d n f) k = some v →
      Val (tDGet (tVar 0) (tC (kV k))) [some (.ref p), some (.int many), z1, z2, z3] H1 v := fun h1 h2 => v_get (val_var rfl) h1 h2
    have pn : ∀ {H1 : Hp} {o : HO}, H1 c = some (.lst (ns.map V.int)) → upd H1 p o c = some (.lst (ns.map V.int)) := fun e => by rw [upd_ne npc]; exact e
    have bu : ∀ {H1 : Hp} {o : HO}, But p H H1 → But p H (upd H1 p o) := fun e b o h ne => by rw [upd_ne ne]; exact e b o h ne
    -- count
    refine s_put (k := kCo) (val_var rfl) (v_I0 (get (k := kCo) hp pen_count) val_c) hp (by show 5 ≤ 100; decide) ?_
    rw [put_count]
    have hp1 : upd H p (HO.dK (penK c a d (n + 1) fo)) p = some (.dK (penK c a d (n + 1) fo)) := upd_same
    have hc1 : upd H p (HO.dK (penK c a d (n + 1) fo)) c = some (.lst (ns.map V.int)) := pn hc
    have bt : But p H (upd H p (HO.dK (penK c a d (n + 1) fo))) := bu But.refl
    generalize upd H p (HO.dK (penK c a d (n + 1) fo)) = H1 at hp1 hc1 bt
    refine ⟨fun σ' H' => ∃ (a' d' f' : Int) (z : Option V), σ' = [some (.ref p), some (.int many), z, none, none] ∧ But p H H' ∧ H' p = some (.dK (penK c a' d' (n + 1) f')) ∧ H' c = some (.lst (ns.map V.int)) ∧
      0 ≤ a' ∧ a' ≤ ns.length ∧ 0 ≤ d' ∧ 0 ≤ f' ∧ f' < 2147483587, ?_, ?_⟩
    · -- a cell is taken
      refine st_if (b := decide (d = 0) && decide (a < ns.length)) (ans_and2 ((ans_eq (get (k := kDi) hp1 pen_digits) val_c rfl rfl).to (by simp)) ((a_I (get (k := kAt) hp1 pen_at) (v_len (get (k := kCe) hp1 pen_cells) (.inl (SqL.of hc1)))).to (by simp))) (fun e => ?_) (fun e => ?_)
      · have e1 : d = 0 ∧ a < ns.length := by simpa using e
        obtain ⟨i, rfl⟩ : ∃ i : Nat, a = i := ⟨a.toNat, by omega⟩
        have hi : i < ns.length := by omega
        refine st_set (v := .int ns[i]) (v_ixL (get (k := kCe) hp1 pen_cells) (get (k := kAt) hp1 pen_at) (SqL.of hc1) (by simp [hi])) ?_
        refine s_put (k := kAt) (val_var rfl) (v_I0 (get (k := kAt) hp1 pen_at) val_c) hp1 (by show 5 ≤ 100; decide) ?_
        rw [put_at]
        refine st_if (b := decide (ns[i] ≥ 10 ^ 18)) ((a_I (val_var rfl) (v_pow val_c val_c ⟨by decide, by decide, by decide⟩)).to ?_) (fun e2 => ?_) (fun e2 => ?_)
        · simp
        · refine s_put (k := kDi) (val_var rfl) (v_I0 (val_var rfl) (v_pow val_c val_c ⟨by decide, by decide, by decide⟩)) upd_same (by show 5 ≤ 100; decide) ?_
          rw [put_digits]
          exact ⟨_, _, _, _, rfl, bu (bu bt), upd_same, pn (pn hc1), by omega, by omega, by simp at e2; simp; omega, b6, b7⟩
        · refine s_put (k := kFo) (val_var rfl) (v_I (v_int1 (v_I0 (v_I (get (k := kFo) upd_same pen_fold) val_c (.inl ⟨by omega, by omega⟩)) (val_var rfl))) val_c (by decide)) upd_same (by show 5 ≤ 100; decide) ?_
          rw [put_fold]
          exact ⟨_, _, _, _, rfl, bu (bu bt), upd_same, pn (pn hc1), by omega, by omega, b3, Int.emod_nonneg _ (by decide), Int.emod_lt_of_pos _ (by decide)⟩
      · exact ⟨a, d, fo, none, rfl, bt, hp1, hc1, b1, b2, b3, b6, b7⟩
    · rintro σ' H' ⟨a', d', f', z, rfl, bt', hp', hc', g1, g2, g3, g4, g5⟩
      refine st_if (b := decide (0 < d')) ((a_I (get (k := kDi) hp' pen_digits) val_c).to (by simp)) (fun e => ?_) (fun e => ?_)
      · have e1 : 0 < d' := by simpa using e
        refine st_set (v_I (v_int1 (get (k := kDi) hp' pen_digits)) (val_var rfl) (by omega)) ?_
        refine s_put (k := kDi) (val_var rfl) (v_I (get (k := kDi) hp' pen_digits) (val_var rfl) ⟨by omega, by omega⟩) hp' (by show 5 ≤ 100; decide) ?_
        rw [put_digits]
        refine st_ret (val_var rfl) ?_
        refine k _ _ (Int.fmod_nonneg_of_pos _ h0) (Int.fmod_lt_of_pos _ h0) (bu bt') ⟨_, _, _, _, _, upd_same, pn hc', g1, g2, Int.fdiv_nonneg (by omega) (by omega), by omega, by omega, g4, g5⟩
      · refine st_set (v_add (v_add (get (k := kFo) hp' pen_fold) (v_mul (get (k := kCo) hp' pen_count) val_c (.inl ⟨by omega, by unfold most at hm; omega⟩))) val_c) ?_
        refine st_ret (v_fmod (v_div (v_int1 (v_mod (v_pow (val_var rfl) val_c ⟨by decide, by decide, by unfold most at hm; omega⟩) val_c (by decide))) val_c ⟨by decide, by decide⟩) (val_var rfl) (by omega)) ?_
        exact k _ _ (Int.fmod_nonneg_of_pos _ h0) (Int.fmod_lt_of_pos _ h0) bt' ⟨_, _, _, _, _, hp', hc', g1, g2, g3, by omega, by omega, g4, g5⟩
theorem But.seq {K : PySem.W.Frag} {H H' : Hp} {p q : Addr} {kvs : List (Key × V)} {xs : List V} (b : But p H H') (hp : H p = some (.dK kvs)) (h : SqL K H q xs) : SqL K H' q xs := by
  rcases h with (h | ⟨o, h⟩) | h
  · exact .inl (.inl (b _ _ h (ne_of h hp (by intro z; cases z))))
  · exact .inl (.inr ⟨o, b _ _ h (ne_of h hp (by intro z; cases z))⟩)
  · exact .inr h
theorem PenAt.dk {H : Hp} {p c : Addr} {m : Nat} (h : PenAt H p c m) : ∃ kvs, H p = some (.dK kvs) := by
  obtain ⟨a, d, n, f, ns, h1, _⟩ := h
  exact ⟨_, h1⟩
/-- one item of a list is drawn -/
def spPick (K : PySem.W.Frag) : Sp := fun vs H Q _ => ∃ (p c q : Addr) (xs : List V) (m : Nat), vs = [.ref p, .ref q] ∧ PenAt H p c m ∧ m < most ∧ SqL K H q xs ∧ 0 < xs.length ∧ xs.length < 1000000000 ∧
  ∀ (v : V) (H' : Hp), v ∈ xs → But p H H' → PenAt H' p c (m + 1) → Q v H'
theorem ok_pick (T : Txt K mg) : FnOk P w K mg base CX0 3 (fA mg "_law_pick") (fDat K (fA mg "_law_pick")) ["_law_pen_here", "_law_some"] (spPick K) := by
  have G_law_draw := ok_draw (P := P) (w := w) (base := base) T._law_draw.F T
  refine T._law_pick.F.ok sc_law_pick (fun vs H Q E h => ?_) (fun cdv A outer s H vs Q E hr h => ?_)
  · obtain ⟨p, c, q, xs, m, rfl, _⟩ := h
    rfl
  · obtain ⟨p, c, q, xs, m, rfl, hP, hm, hS, h0, h1, k⟩ := h
    refine ⟨_, (pss_one (ps_ret (pe_ix ix_list (pv 1) (pe_c T._law_draw G_law_draw (hr.mono (by decide)) (pa_cons (pv 0) (pa_cons (pe_callB call_len_seq (by rfl) T.len PySem.boot_len (pa_cons (pv 1) pa_nil)) pa_nil))) (fun _ _ => rfl)))), ?_⟩
    refine ⟨_, rfl, c_call (va_cons (val_var rfl) (va_cons (v_len (val_var rfl) (.inl hS)) va_nil)) ⟨p, c, _, m, rfl, hP, hm, by omega, by omega, fun r H' r0 r1 b P' => ?_⟩⟩
    obtain ⟨kvs, hd⟩ := hP.dk
    obtain ⟨i, rfl⟩ : ∃ i : Nat, r = i := ⟨r.toNat, by omega⟩
    have hi : i < xs.length := by omega
    exact ⟨q, xs, i, xs[i], rfl, rfl, b.seq hd hS, atI_nat (List.getElem?_eq_getElem hi), k _ _ (List.getElem_mem hi) b P'⟩

/-! ### the law's own ratios -/
theorem half {a b : Nat} (h : b < a) (h0 : 0 < b) : b * (a % b) * 2 ≤ a * b := by
  have h1 := Nat.mod_lt a h0
  have h2 := Nat.mod_add_div a b
  have h3 : 1 ≤ a / b := Nat.div_pos (Nat.le_of_lt h) h0
  have h4 : b ≤ b * (a / b) := Nat.le_mul_of_pos_right _ h3
  have h5 : a % b * 2 ≤ a := by omega
  rw [Nat.mul_assoc, Nat.mul_comm a b]
  exact Nat.mul_le_mul_left _ h5
theorem v_abs {te : TE} {σ : L2.St} {H : Hp} {x : Int} (h : Val te σ H (.int x)) : Val (tCB (fun xs H Q => ∃ i, xs = [.int i] ∧ Q (.int (if i < 0 then -i else i)) H) (tCons te tNil)) σ H (.int (x.natAbs : Int)) := fun Q q => h _ ⟨x, rfl, by
  have e : (if x < 0 then -x else x) = (x.natAbs : Int) := by split <;> omega
  rw [e]
  exact q⟩
def spLGcd : Sp := fun vs H Q _ => ∃ x y : Int, vs = [.int x, .int y] ∧ x.natAbs < 2 ^ wd ∧ y.natAbs < 2 ^ wd ∧ Q (.int (gI x y)) H
theorem ok_law_gcd (T : Txt K mg) : FnOk P w K mg base CX0 1 (fA mg "_law_gcd") (fDat K (fA mg "_law_gcd")) ["_law_one", "_law_two"] spLGcd := by
  refine T._law_gcd.F.ok sc_law_gcd (fun vs H Q E h => ?_) (fun cdv A outer s H vs Q E hr h => ?_)
  · obtain ⟨x, y, rfl, _⟩ := h
    rfl
  · obtain ⟨x, y, rfl, hx, hy, k⟩ := h
    refine ⟨_, (pss_cons (ps_par (i := 0) (j := 1) (by rfl) sc_law_gcd.nd rfl rfl (by decide) rfl rfl (pa_cons (pe_callB call_abs (by rfl) T.abs (by decide +kernel) (pa_cons (pv 0) pa_nil)) (pa_cons (pe_callB call_abs (by rfl) T.abs (by decide +kernel) (pa_cons (pv 1) pa_nil)) pa_nil)) (by rfl))
  (pss_cons (ps_for PassesOwn.never rfl (pi_range1 (by rfl) T.range (pa_cons pe_int pa_nil)) (pg_name (i := 2) sc_law_gcd.nd rfl (Or.inl rfl))
  (pss_cons (ps_if (pt_cmpR op_eq (pv 1) pe_int (nomark _)) (pss_one ps_break) pss_nil)
  (pss_one (ps_par (i := 0) (j := 1) (by rfl) sc_law_gcd.nd rfl rfl (by decide) rfl rfl (pa_cons (pv 1) (pa_cons (pe_op op_modN (pe_callTy call_int1 (by rfl) T.int (by decide +kernel) (pa_cons (pv 0) pa_nil)) (pv 1)) pa_nil)) (by rfl)))))
  (pss_one (ps_ret (pv 0))))), ?_⟩
    have hM : x.natAbs * y.natAbs < 2 ^ (wd + wd) := by
      rw [Nat.pow_add]
      exact Nat.mul_lt_mul'' hx hy
    refine (show tPar 0 1 _ _ _ _ from ?_)
    refine (va_cons (v_abs (val_var rfl)) (va_cons (v_abs (val_var rfl)) va_nil)) _ ⟨_, _, rfl, ?_⟩
    refine q_forR1 (n := 50000) (va_cons val_c va_nil) (by decide) (fun i σ H' => ∃ (a b : Nat) (z : Option V), σ = [some (.int a), some (.int b), z] ∧ H' = H ∧ Nat.gcd a b = Nat.gcd x.natAbs y.natAbs ∧ (i = 0 ∨ b < a) ∧ a * b * 2 ^ (i - 1) ≤ x.natAbs * y.natAbs)
      ⟨x.natAbs, y.natAbs, none, rfl, rfl, rfl, .inl rfl, by simp⟩ ?_ ?_
    · rintro i σ H' hi ⟨a, b, z, rfl, rfl, hg, hb, hm⟩
      refine (show tSeq (tIfS _ _ _) _ _ _ _ from ?_)
      by_cases b0 : b = 0
      · subst b0
        refine q_when (b := true) (ans_eq (x := .int ((0 : Nat) : Int)) (y := .int 0) (val_var rfl) val_c rfl rfl) (fun _ => ?_) (fun z => nomatch z)
        unfold tBreak
        refine st_ret (val_var rfl) ?_
        have e : gI x y = (a : Int) := by
          unfold gI
          rw [← hg, Nat.gcd_zero_right]
        rw [← e]
        exact k
      · refine q_unless (ans_eq (x := .int (b : Int)) (y := .int 0) (val_var rfl) val_c rfl (decide_eq_false (by simp [b0]))) ?_
        have e : ((a : Int).fmod (b : Int)) = ((a % b : Nat) : Int) := by
          rw [Int.fmod_eq_emod_of_nonneg _ (by omega)]
          exact (Int.natCast_emod a b).symm
        refine (show tPar 0 1 _ _ _ _ from ?_)
        refine (va_cons (val_var rfl) (va_cons (v_fmod (i := (a : Int)) (j := (b : Int)) (v_int1 (val_var rfl)) (val_var rfl) (by omega)) va_nil)) _ ⟨_, _, rfl, ?_⟩
        rw [e]
        refine ⟨b, a % b, _, rfl, rfl, ?_, .inr (Nat.mod_lt _ (by omega)), ?_⟩
        · rw [← hg, Nat.gcd_comm b, ← Nat.gcd_rec, Nat.gcd_comm]
        · rcases hb with rfl | hb
          · refine Nat.le_trans ?_ hm
            simp only [Nat.zero_add, Nat.sub_self, Nat.zero_sub, Nat.pow_zero, Nat.mul_one]
            rw [Nat.mul_comm a b]
            exact Nat.mul_le_mul_left _ (Nat.mod_le _ _)
          · cases i with
            | zero => 
              refine Nat.le_trans ?_ hm
              simp only [Nat.zero_add, Nat.sub_self, Nat.zero_sub, Nat.pow_zero, Nat.mul_one]
              rw [Nat.mul_comm a b]
              exact Nat.mul_le_mul_left _ (Nat.mod_le _ _)
            | succ i =>
              refine Nat.le_trans ?_ hm
              have h := Nat.mul_le_mul_right (2 ^ i) (half hb (by omega))
              simp only [Nat.add_sub_cancel]
              rw [Nat.pow_succ, Nat.mul_comm (2 ^ i) 2, ← Nat.mul_assoc]
              exact h
    · rintro σ H' ⟨a, b, z, rfl, rfl, hg, hb, hm⟩
      have b0 : b = 0 := by
        rcases Nat.eq_zero_or_pos b with h | h
        · exact h
        · exfalso
          have ha : b < a := hb.resolve_left (by decide)
          have h1 : 1 ≤ a * b := Nat.mul_pos (by omega) h
          have h2 : 2 ^ (50000 - 1) ≤ a * b * 2 ^ (50000 - 1) := Nat.le_mul_of_pos_left _ h1
          have h3 : 2 ^ (wd + wd) ≤ 2 ^ (50000 - 1) := Nat.pow_le_pow_right (by decide) (by decide)
          exact Nat.lt_irrefl _ (Nat.lt_of_le_of_lt (Nat.le_trans h3 (Nat.le_trans h2 hm)) hM)
      subst b0
      refine st_ret (val_var rfl) ?_
      have e : gI x y = (a : Int) := by
        unfold gI
        rw [← hg, Nat.gcd_zero_right]
      rw [← e]
      exact k
def spLQ : Sp := fun vs H Q _ => ∃ x y : Int, vs = [.int x, .int y] ∧ x.natAbs < 2 ^ wd ∧ y.natAbs < 2 ^ wd ∧ ((0 < y ∧ ∀ (p : Addr) (H' : Hp), Same H H' → H' p = some (.tup [.int (x / gI x y), .int (y / gI x y)]) → Q (.ref p) H') ∨
  (y < 0 ∧ ∀ (p : Addr) (H' : Hp), Same H H' → H' p = some (.tup [.int ((-x) / gI x y), .int ((-y) / gI x y)]) → Q (.ref p) H'))
theorem ok_law_q (T : Txt K mg) : FnOk P w K mg base CX0 2 (fA mg "_law_q") (fDat K (fA mg "_law_q")) ["_law_top", "_law_bottom"] spLQ := by
  have G_law_gcd := ok_law_gcd (P := P) (w := w) (base := base) T
  refine T._law_q.F.ok sc_law_q (fun vs H Q E h => ?_) (fun cdv A outer s H vs Q E hr h => ?_)
  · obtain ⟨x, y, rfl, _⟩ := h
    rfl
  · obtain ⟨x, y, rfl, hx, hy, k⟩ := h
    refine ⟨_, (pss_cons (ps_set (i := 2) sc_law_q.nd rfl (Or.inl rfl) (pe_c T._law_gcd G_law_gcd (hr.mono (by decide)) (pa_cons (pv 0) (pa_cons (pv 1) pa_nil))))
  (pss_cons (ps_set (i := 2) sc_law_q.nd rfl (Or.inl rfl) (pe_ifExp (pt_cmpR op_lt (pv 1) pe_int (nomark _)) (pe_un un_neg (pv 2)) (pv 2)))
  (pss_one (ps_ret (pe_tup (pa_cons (pe_op op_fdivS (pv 0) (pv 2)) (pa_cons (pe_op op_fdivS (pv 1) (pv 2)) pa_nil))))))), ?_⟩
    refine q_asg (c_call (va_cons (val_var rfl) (va_cons (val_var rfl) va_nil)) ⟨x, y, rfl, hx, hy, ?_⟩)
    have big : ∀ {d : Int}, d = gI x y ∨ d = -gI x y → 0 < gI x y → y ≠ 0 → d ≠ 0 ∧ d.natAbs.log2 < 9000 := fun {d} h g y0 => by
      have l : gI x y ≤ y.natAbs := by
        have : Nat.gcd x.natAbs y.natAbs ≤ y.natAbs := Nat.le_of_dvd (by omega) (Nat.gcd_dvd_right _ _)
        unfold gI
        omega
      have n : d.natAbs ≤ y.natAbs := by omega
      exact ⟨by omega, Nat.lt_of_lt_of_le (PySem.Flt.log2_lt_of (k := wd) (by decide) (Nat.lt_of_le_of_lt n hy)) (by decide)⟩
    rcases k with ⟨y0, k⟩ | ⟨y0, k⟩
    · have g := gI_pos (i := x) y0
      refine q_asg ((a_I (i := y) (j := 0) (val_var rfl) val_c) _ ?_)
      rw [decide_eq_false (by omega : ¬ y < 0)]
      refine iteF ?_
      refine (val_var rfl) _ ?_
      refine r_ret (te := tTup _) ((va_cons (v_fdiv (i := x) (j := gI x y) (val_var rfl) (val_var rfl) (big (.inl rfl) g (by omega))) (va_cons (v_fdiv (i := y) (j := gI x y) (val_var rfl) (val_var rfl) (big (.inl rfl) g (by omega))) va_nil)) _ ⟨by show 2 ≤ sizeLine; decide, fun p hp => k p _ (Same.new' hp) ?_⟩)
      rw [Int.fdiv_eq_ediv_of_nonneg _ (by omega), Int.fdiv_eq_ediv_of_nonneg _ (by omega)]
      exact upd_same
    · have g : 0 < gI x y := by
        have : 0 < Nat.gcd x.natAbs y.natAbs := Nat.gcd_pos_of_pos_right _ (by omega)
        unfold gI
        omega
      have ng : ∀ x d : Int, 0 < d → x.fdiv (-d) = (-x) / d := fun x d h => by
        have e := Int.neg_fdiv_neg (-x) d
        rw [Int.neg_neg] at e
        rw [e, Int.fdiv_eq_ediv_of_nonneg _ (by omega)]
      refine q_asg ((a_I (i := y) (j := 0) (val_var rfl) val_c) _ ?_)
      rw [decide_eq_true (by omega : y < 0)]
      refine iteT ?_
      refine (v_neg (n := gI x y) (val_var rfl)) _ ?_
      refine r_ret (te := tTup _) ((va_cons (v_fdiv (i := x) (j := -gI x y) (val_var rfl) (val_var rfl) (big (.inr rfl) g (by omega))) (va_cons (v_fdiv (i := y) (j := -gI x y) (val_var rfl) (val_var rfl) (big (.inr rfl) g (by omega))) va_nil)) _ ⟨by show 2 ≤ sizeLine; decide, fun p hp => k p _ (Same.new' hp) ?_⟩)
      rw [ng _ _ g, ng _ _ g]
      exact upd_same

def sp_law_plus : Sp := fun vs H Q _ => ∃ (p q : Addr) (i j k l : Int), vs = [.ref p, .ref q] ∧ H p = some (.tup [.int i, .int j]) ∧ H q = some (.tup [.int k, .int l]) ∧ Fit i j ∧ Fit k l ∧ 0 < j ∧ 0 < l ∧ ∀ (p : Addr) (H' : Hp), Same H H' → H' p = some (.tup [.int ((i * l + k * j) / gI (i * l + k * j) (j * l)), .int ((j * l) / gI (i * l + k * j) (j * l))]) → Q (.ref p) H'
theorem ok_law_plus (T : Txt K mg) : FnOk P w K mg base CX0 3 (fA mg "_law_plus") (fDat K (fA mg "_law_plus")) ["_law_one", "_law_two"] sp_law_plus := by
  have G_law_q := ok_law_q (P := P) (w := w) (base := base) T
  refine T._law_plus.F.ok sc_law_plus (fun vs H Q E h => ?_) (fun cdv A outer s H vs Q E hr h => ?_)
  · obtain ⟨p, q, i, j, k, l, rfl, _⟩ := h
    rfl
  · obtain ⟨p, q, i, j, k, l, rfl, hp, hq, ⟨fi, fj⟩, ⟨fk, fl⟩, j0, l0, z⟩ := h
    refine ⟨_, (pss_one (ps_ret (pe_c T._law_q G_law_q (hr.mono (by decide)) (pa_cons (pe_op op_add (pe_op op_mulW (pe_ix ix_tup (pv 0) pe_int (fun _ _ => rfl)) (pe_ix ix_tup (pv 1) pe_int (fun _ _ => rfl))) (pe_op op_mulW (pe_ix ix_tup (pv 1) pe_int (fun _ _ => rfl)) (pe_ix ix_tup (pv 0) pe_int (fun _ _ => rfl)))) (pa_cons (pe_op op_mulW (pe_ix ix_tup (pv 0) pe_int (fun _ _ => rfl)) (pe_ix ix_tup (pv 1) pe_int (fun _ _ => rfl))) pa_nil))))), ?_⟩
    exact r_ret (te := tCall _ _ _ _) (c_call (va_cons (v_add (v_mul (v_ixT (n := 0) (val_var rfl) val_c (SqT.of hp) rfl) (v_ixT (n := 1) (val_var rfl) val_c (SqT.of hq) rfl) (fit_mul fi fl)) (v_mul (v_ixT (n := 0) (val_var rfl) val_c (SqT.of hq) rfl) (v_ixT (n := 1) (val_var rfl) val_c (SqT.of hp) rfl) (fit_mul fk fj))) (va_cons (v_mul (v_ixT (n := 1) (val_var rfl) val_c (SqT.of hp) rfl) (v_ixT (n := 1) (val_var rfl) val_c (SqT.of hq) rfl) (fit_mul fj fl)) va_nil)) ⟨_, _, rfl, fit_add (wide_lt fi fl) (wide_lt fk fj), fit_lt fj fl, .inl ⟨Int.mul_pos j0 l0, z⟩⟩)

def sp_law_times : Sp := fun vs H Q _ => ∃ (p q : Addr) (i j k l : Int), vs = [.ref p, .ref q] ∧ H p = some (.tup [.int i, .int j]) ∧ H q = some (.tup [.int k, .int l]) ∧ Fit i j ∧ Fit k l ∧ 0 < j ∧ 0 < l ∧ ∀ (p : Addr) (H' : Hp), Same H H' → H' p = some (.tup [.int ((i * k) / gI (i * k) (j * l)), .int ((j * l) / gI (i * k) (j * l))]) → Q (.ref p) H'
theorem ok_law_times (T : Txt K mg) : FnOk P w K mg base CX0 3 (fA mg "_law_times") (fDat K (fA mg "_law_times")) ["_law_one", "_law_two"] sp_law_times := by
  have G_law_q := ok_law_q (P := P) (w := w) (base := base) T
  refine T._law_times.F.ok sc_law_times (fun vs H Q E h => ?_) (fun cdv A outer s H vs Q E hr h => ?_)
  · obtain ⟨p, q, i, j, k, l, rfl, _⟩ := h
    rfl
  · obtain ⟨p, q, i, j, k, l, rfl, hp, hq, ⟨fi, fj⟩, ⟨fk, fl⟩, j0, l0, z⟩ := h
    refine ⟨_, (pss_one (ps_ret (pe_c T._law_q G_law_q (hr.mono (by decide)) (pa_cons (pe_op op_mulW (pe_ix ix_tup (pv 0) pe_int (fun _ _ => rfl)) (pe_ix ix_tup (pv 1) pe_int (fun _ _ => rfl))) (pa_cons (pe_op op_mulW (pe_ix ix_tup (pv 0) pe_int (fun _ _ => rfl)) (pe_ix ix_tup (pv 1) pe_int (fun _ _ => rfl))) pa_nil))))), ?_⟩
    exact r_ret (te := tCall _ _ _ _) (c_call (va_cons (v_mul (v_ixT (n := 0) (val_var rfl) val_c (SqT.of hp) rfl) (v_ixT (n := 0) (val_var rfl) val_c (SqT.of hq) rfl) (fit_mul fi fk)) (va_cons (v_mul (v_ixT (n := 1) (val_var rfl) val_c (SqT.of hp) rfl) (v_ixT (n := 1) (val_var rfl) val_c (SqT.of hq) rfl) (fit_mul fj fl)) va_nil)) ⟨_, _, rfl, fit_lt fi fk, fit_lt fj fl, .inl ⟨Int.mul_pos j0 l0, z⟩⟩)

def sp_law_minus : Sp := fun vs H Q _ => ∃ (p q : Addr) (i j k l : Int), vs = [.ref p, .ref q] ∧ H p = some (.tup [.int i, .int j]) ∧ H q = some (.tup [.int k, .int l]) ∧ Fit i j ∧ Fit k l ∧ 0 < j ∧ 0 < l ∧ ∀ (p : Addr) (H' : Hp), Same H H' → H' p = some (.tup [.int ((i * l - k * j) / gI (i * l - k * j) (j * l)), .int ((j * l) / gI (i * l - k * j) (j * l))]) → Q (.ref p) H'
theorem ok_law_minus (T : Txt K mg) : FnOk P w K mg base CX0 3 (fA mg "_law_minus") (fDat K (fA mg "_law_minus")) ["_law_one", "_law_two"] sp_law_minus := by
  have G_law_q := ok_law_q (P := P) (w := w) (base := base) T
  refine T._law_minus.F.ok sc_law_minus (fun vs H Q E h => ?_) (fun cdv A outer s H vs Q E hr h => ?_)
  · obtain ⟨p, q, i, j, k, l, rfl, _⟩ := h
    rfl
  · obtain ⟨p, q, i, j, k, l, rfl, hp, hq, ⟨fi, fj⟩, ⟨fk, fl⟩, j0, l0, z⟩ := h
    refine ⟨_, (pss_one (ps_ret (pe_c T._law_q G_law_q (hr.mono (by decide)) (pa_cons (pe_op op_sub (pe_op op_mulW (pe_ix ix_tup (pv 0) pe_int (fun _ _ => rfl)) (pe_ix ix_tup (pv 1) pe_int (fun _ _ => rfl))) (pe_op op_mulW (pe_ix ix_tup (pv 1) pe_int (fun _ _ => rfl)) (pe_ix ix_tup (pv 0) pe_int (fun _ _ => rfl)))) (pa_cons (pe_op op_mulW (pe_ix ix_tup (pv 0) pe_int (fun _ _ => rfl)) (pe_ix ix_tup (pv 1) pe_int (fun _ _ => rfl))) pa_nil))))), ?_⟩
    exact r_ret (te := tCall _ _ _ _) (c_call (va_cons (v_sub (v_mul (v_ixT (n := 0) (val_var rfl) val_c (SqT.of hp) rfl) (v_ixT (n := 1) (val_var rfl) val_c (SqT.of hq) rfl) (fit_mul fi fl)) (v_mul (v_ixT (n := 0) (val_var rfl) val_c (SqT.of hq) rfl) (v_ixT (n := 1) (val_var rfl) val_c (SqT.of hp) rfl) (fit_mul fk fj))) (va_cons (v_mul (v_ixT (n := 1) (val_var rfl) val_c (SqT.of hp) rfl) (v_ixT (n := 1) (val_var rfl) val_c (SqT.of hq) rfl) (fit_mul fj fl)) va_nil)) ⟨_, _, rfl, fit_sub (wide_lt fi fl) (wide_lt fk fj), fit_lt fj fl, .inl ⟨Int.mul_pos j0 l0, z⟩⟩)

/-! ### lowest terms, the sums behind them -/
theorem gI_mul (x y : Int) {s : Int} (hs : 0 < s) : gI (x * s) (y * s) = gI x y * s := by
  unfold gI
  rw [Int.natAbs_mul, Int.natAbs_mul, Nat.gcd_mul_right, Int.natCast_mul]
  congr 1
  omega
theorem low_mul (x y : Int) {s : Int} (hs : 0 < s) : x * s / gI (x * s) (y * s) = x / gI x y ∧ y * s / gI (x * s) (y * s) = y / gI x y := by
  rw [gI_mul _ _ hs]
  exact ⟨Int.mul_ediv_mul_of_pos_left _ _ hs, Int.mul_ediv_mul_of_pos_left _ _ hs⟩
theorem gI_dvd (x y : Int) : gI x y ∣ x ∧ gI x y ∣ y := ⟨Int.ofNat_dvd_left.mpr (Nat.gcd_dvd_left _ _), Int.ofNat_dvd_left.mpr (Nat.gcd_dvd_right _ _)⟩
theorem low_one (x : Int) {y : Int} (hy : 0 < y) : gI (x / gI x y) (y / gI x y) = 1 := by
  have g : 0 < Nat.gcd x.natAbs y.natAbs := Nat.gcd_pos_of_pos_right _ (by omega)
  have e : (gI x y).natAbs = Nat.gcd x.natAbs y.natAbs := by unfold gI; exact Int.natAbs_natCast _
  have h := Nat.gcd_div (Nat.gcd_dvd_left x.natAbs y.natAbs) (Nat.gcd_dvd_right x.natAbs y.natAbs)
  rw [Nat.div_self g] at h
  have e1 := Int.natAbs_ediv_of_dvd (gI_dvd x y).1
  have e2 := Int.natAbs_ediv_of_dvd (gI_dvd x y).2
  show ((Nat.gcd (x / gI x y).natAbs (y / gI x y).natAbs : Nat) : Int) = 1
  rw [e1, e2, e, h]
  rfl
theorem low_abs (x : Int) {y : Int} : (x / gI x y).natAbs ≤ x.natAbs := by
  rw [Int.natAbs_ediv_of_dvd (gI_dvd x y).1]
  exact Nat.div_le_self _ _
theorem low_pos (x : Int) {y : Int} (hy : 0 < y) : 0 < y / gI x y ∧ y / gI x y ≤ y := by
  have g := gI_pos (i := x) hy
  refine ⟨Int.ediv_pos_of_pos_of_dvd hy (Int.le_of_lt g) (gI_dvd x y).2, Int.ediv_le_self _ (Int.le_of_lt hy)⟩
theorem call_1 {sp : Sp} {L : List V} {E : XK} {te : TE} {tr : TA} {σ : L2.St} {H : Hp} {Q : VK} (h : te σ H fun v H1 => tr σ H1 fun vs H2 => sp ((v :: vs) ++ L) H2 Q E) : tCall sp L E (tCons te tr) σ H Q := h
theorem va_1 {te : TE} {σ : L2.St} {H : Hp} {Q : List V → Hp → Prop} (h : te σ H fun v H1 => Q [v] H1) : tCons te tNil σ H Q := h
/-- a ratio in lowest terms of up to eighteen figures -/
def Low (H : Hp) (t : Addr) (a b : Int) : Prop := H t = some (.tup [.int a, .int b]) ∧ 0 < b ∧ gI a b = 1 ∧ a.natAbs ≤ 10 ^ 18 ∧ b ≤ 10 ^ 18

theorem q_ifAndK {σ : L2.St} {H : Hp} {t u : TT} {t1 tz : TS} {D : Ends} {I : Hp → Prop} (rest : ∀ H1, I H1 → tz D σ H1) (h : (∀ H1, I H1 → tz D σ H1) → t σ H fun c H1 => if c = true then u σ H1 (fun b H2 => if b = true then t1 { D with nx := tz D } σ H2 else tz D σ H2) else
    (if false = true then t1 { D with nx := tz D } σ H1 else tz D σ H1)) : tSeq (tIfS (tAnd t u) t1 tNext) tz D σ H := h rest
theorem l_two {σ : L2.St} {H : Hp} {t1 t2 : TE} {Q : VK} (h : t1 σ H fun v H1 => t2 σ H1 fun w H2 => 2 ≤ sizeLine ∧ ∀ q, H2 q = none → Q (.ref q) (upd H2 q (.lst [v, w]))) : tLst (tCons t1 (tCons t2 tNil)) σ H Q := h
/-- as a caller may pass a ratio a / b -/
def spPassed : Sp := fun vs H Q _ => ∃ (p c t : Addr) (m : Nat) (a b : Int), vs = [.ref p, .ref t] ∧ PenAt H p c m ∧ m + 3 < most ∧ Low H t a b ∧ ∀ (v : V) (H' : Hp) (s : Int), 0 < s → s ≤ 3 → Rt H' v (a * s) (b * s) → (∀ x, v = .ref x → H x = none) → But p H H' → PenAt H' p c (m + 3) → Q v H'
theorem ok_passed (T : Txt K mg) : FnOk P w K mg base CX0 4 (fA mg "_law_passed") (fDat K (fA mg "_law_passed")) ["_law_pen_here", "_law_ratio_here"] spPassed := by
  have G_law_draw := ok_draw (P := P) (w := w) (base := base) T._law_draw.F T
  have G_law_pick := ok_pick (P := P) (w := w) (base := base) T
  refine T._law_passed.F.ok sc_law_passed (fun vs H Q E h => ?_) (fun cdv A outer s H vs Q E hr h => ?_)
  · obtain ⟨p, c, t, m, a, b, rfl, _⟩ := h
    rfl
  · obtain ⟨p, c, t, m, a, b, rfl, hP, hm, ⟨ht, b0, ab, al, bl⟩, k⟩ := h
    refine ⟨_, (pss_cons (ps_if (PW.pt (pw_and (pt_cmpR op_eq (pe_ix ix_tup (pv 1) pe_int (fun _ _ => rfl)) pe_int (nomark _)) (pw_and1 (pt_cmpR op_eq (pe_c T._law_draw G_law_draw (hr.mono (by decide)) (pa_cons (pv 0) (pa_cons pe_int pa_nil))) pe_int (nomark _))))) (pss_one (ps_ret (pe_ix ix_tup (pv 1) pe_int (fun _ _ => rfl)))) pss_nil)
  (pss_cons (ps_set (i := 2) sc_law_passed.nd rfl (Or.inl rfl) (pe_c T._law_pick G_law_pick (hr.mono (by decide)) (pa_cons (pv 0) (pa_cons (pe_lst (pa_cons pe_int (pa_cons pe_int (pa_cons pe_int (pa_cons pe_int pa_nil))))) pa_nil))))
  (pss_one (ps_ret (pe_c T._law_pick G_law_pick (hr.mono (by decide)) (pa_cons (pv 0) (pa_cons (pe_lst (pa_cons (pe_tup (pa_cons (pe_op op_mulW (pe_ix ix_tup (pv 1) pe_int (fun _ _ => rfl)) (pv 2)) (pa_cons (pe_op op_mulW (pe_ix ix_tup (pv 1) pe_int (fun _ _ => rfl)) (pv 2)) pa_nil))) (pa_cons (pe_lst (pa_cons (pe_op op_mulW (pe_ix ix_tup (pv 1) pe_int (fun _ _ => rfl)) (pv 2)) (pa_cons (pe_op op_mulW (pe_ix ix_tup (pv 1) pe_int (fun _ _ => rfl)) (pv 2)) pa_nil))) pa_nil))) pa_nil))))))), ?_⟩
    obtain ⟨kvs, hd⟩ := hP.dk
    have np : t ≠ p := ne_of ht hd (by intro z; cases z)
    have c1 : (2 : Nat) ^ 64 < 2 ^ 1000 := Nat.pow_lt_pow_right (by decide) (by decide)
    have fa : a.natAbs < 2 ^ 1000 := by
      have : (10 : Nat) ^ 18 < 2 ^ 64 := by decide
      omega
    have fb : b.natAbs < 2 ^ 1000 := by
      have : (10 : Nat) ^ 18 < 2 ^ 64 := by decide
      omega
    refine q_ifAndK (I := fun H1 => But p H H1 ∧ PenAt H1 p c (m + 1)) (fun H1 ⟨b1, P1⟩ => ?_) (fun rest => ?_)
    · have ht1 := b1 _ _ ht np
      refine q_asg (call_1 ((val_var rfl) _ (va_1 (l_lst (va_cons val_c (va_cons val_c (va_cons val_c (va_cons val_c va_nil)))) (by decide) fun q hq => ?_))))
      refine ⟨p, c, q, _, m + 1, rfl, P1.same (Same.new hq), by omega, SqL.of upd_same, by decide, by decide, fun v H2 hv b2 P2 => ?_⟩
      obtain ⟨s, rfl, s0, s1⟩ : ∃ s : Int, v = .int s ∧ 0 < s ∧ s ≤ 3 := by
        simp at hv
        rcases hv with e | e | e
        · exact ⟨1, e, by decide, by decide⟩
        · exact ⟨2, e, by decide, by decide⟩
        · exact ⟨3, e, by decide, by decide⟩
      have ht2 := b2 _ _ ((Same.new hq) _ _ ht1) np
      have fs : s.natAbs < 2 ^ 1000 := by omega
      refine r_ret (te := tCall _ _ _ _) (call_1 ((val_var rfl) _ (va_1 ?_)))
      have two : ∀ {σ : L2.St}, σ[1]? = some (some (.ref t)) → σ[2]? = some (some (.int s)) → ∀ {H3 : Hp}, H3 t = some (.tup [.int a, .int b]) → VA (tCons (tOp (rI CMulW fun i j => V.int (i * j)) (tOp (rIxT K) (tVar 1) (tC (V.int 0))) (tVar 2)) (tCons (tOp (rI CMulW fun i j => V.int (i * j)) (tOp (rIxT K) (tVar 1) (tC (V.int 1))) (tVar 2)) tNil)) σ H3 [.int (a * s), .int (b * s)] := fun e1 e2 H3 h =>
        va_cons (v_mul (v_ixT (n := 0) (val_var e1) val_c (SqT.of h) rfl) (val_var e2) (fit_mul fa fs)) (va_cons (v_mul (v_ixT (n := 1) (val_var e1) val_c (SqT.of h) rfl) (val_var e2) (fit_mul fb fs)) va_nil)
      refine l_two (l_tup (two rfl rfl ht2) (by show 2 ≤ 100000; decide) fun x hx => l_lst (two rfl rfl ((Same.new' hx) _ _ ht2)) (by show 2 ≤ 100000; decide) fun y hy => ⟨by show 2 ≤ sizeLine; decide, fun q2 hq2 => ?_⟩)
      have S := ((Same.new' (o := .tup [.int (a * s), .int (b * s)]) hx).trans (Same.new' (o := .lst [.int (a * s), .int (b * s)]) hy)).trans (Same.new' (o := .lst [.ref x, .ref y]) hq2)
      obtain ⟨kv2, hd2⟩ := P2.dk
      have px : x ≠ p := fun z => by rw [z, hd2] at hx; cases hx
      have py : y ≠ p := fun z => by
        have := (Same.new' (o := .tup [.int (a * s), .int (b * s)]) hx) _ _ hd2
        rw [z, this] at hy
        cases hy
      have ex := (Same.new' (o := .lst [.ref x, .ref y]) hq2) _ _ ((Same.new' (o := .lst [.int (a * s), .int (b * s)]) hy) _ _ (upd_same (H := H2) (a := x) (o := .tup [.int (a * s), .int (b * s)])))
      have ey := (Same.new' (o := .lst [.ref x, .ref y]) hq2) _ _ (upd_same (a := y) (o := .lst [.int (a * s), .int (b * s)]))
      refine ⟨p, c, q2, _, m + 2, rfl, P2.same S, by omega, SqL.of upd_same, by show 0 < 2; decide, by show 2 < 1000000000; decide, fun v H3 hv b3 P3 => ?_⟩
      have B := (((b1.trans (But.of (Same.new hq))).trans b2).trans (But.of S)).trans b3
      have bs : 0 < b * s := Int.mul_pos b0 s0
      have fx : ∀ z, z ≠ p → H2 z = none → H z = none := fun z nz hz => by
        cases h : H z with
        | none => rfl
        | some o =>
          rw [((b1.trans (But.of (Same.new hq))).trans b2) _ _ h nz] at hz
          cases hz
      have hy0 : H2 y = none := by
        cases h : H2 y with
        | none => rfl
        | some o =>
          rw [(Same.new' (o := .tup [.int (a * s), .int (b * s)]) hx) _ _ h] at hy
          cases hy
      rcases List.mem_cons.mp hv with e | hv
      · rw [e]
        exact k _ _ s s0 s1 (.pair (.inr (b3 _ _ ex px)) bs) (fun z ez => by cases ez; exact fx x px hx) B P3
      · rcases List.mem_cons.mp hv with e | hv
        · rw [e]
          exact k _ _ s s0 s1 (.pair (.inl (b3 _ _ ey py)) bs) (fun z ez => by cases ez; exact fx y py hy0) B P3
        · cases hv
    · by_cases e1 : b = 1
      · refine (ans_eq (x := .int b) (y := .int 1) (v_ixT (n := 1) (val_var rfl) val_c (SqT.of ht) rfl) val_c rfl (decide_eq_true (by rw [e1]))) _ ?_
        refine iteT ?_
        refine c_call (va_cons (val_var rfl) (va_cons val_c va_nil)) ⟨p, c, 2, m, rfl, hP, by omega, by decide, by decide, fun r H1 r0 r1 b1 P1 => ?_⟩
        refine ⟨rfl, _, rfl, ?_⟩
        refine ite2 (fun _ => ?_) (fun _ => rest _ ⟨b1, P1⟩)
        refine st_ret (v_ixT (n := 0) (val_var rfl) val_c (SqT.of (b1 _ _ ht np)) rfl) (k _ _ 1 (by decide) (by decide) ?_ (fun _ z => nomatch z) b1 (P1.le (by omega)))
        rw [e1, Int.mul_one, Int.mul_one]
        exact .int a
      · refine (ans_eq (x := .int b) (y := .int 1) (v_ixT (n := 1) (val_var rfl) val_c (SqT.of ht) rfl) val_c rfl (decide_eq_false (by simp [e1]))) _ ?_
        refine iteF (iteF (rest _ ⟨But.refl, hP.le (by omega)⟩))
theorem none_of {H0 H : Hp} {a : Addr} (s : Same H0 H) (h : H a = none) : H0 a = none := by
  cases e : H0 a with
  | none => rfl
  | some o => rw [s _ _ e] at h; cases h
theorem em_tupF {σ : L2.St} {H : Hp} {tb : TA} {ws : List V} {P : V → Hp → Prop} (h : VA tb σ H ws) (hl : ws.length ≤ 100000) (q : ∀ a H', H a = none → H' a = some (.tup ws) → P (.ref a) H') : EM (tTup tb) σ H P := fun Q k => l_tup h hl fun a ha => k _ _ (Same.new' ha) (q a _ ha upd_same)
theorem em_lstF {σ : L2.St} {H : Hp} {tb : TA} {ws : List V} {P : V → Hp → Prop} (h : VA tb σ H ws) (hl : ws.length ≤ 100000) (q : ∀ a H', H a = none → H' a = some (.lst ws) → P (.ref a) H') : EM (tLst tb) σ H P := fun Q k => l_lst h hl fun a ha => k _ _ (Same.new' ha) (q a _ ha upd_same)
theorem em_dicF {σ : L2.St} {H : Hp} {te : TE} {v : V} {key : Key} {P : V → Hp → Prop} (h : ∀ H1, Val te σ H1 v) (q : ∀ a H', H a = none → H' a = some (.dK [(key, v)]) → P (.ref a) H') : EM (tDisp [(tC (kV key), te)]) σ H P := fun Q k a ha =>
  h _ _ ⟨upd_same, [(key, v)], rfl, by show 1 ≤ 15; decide, k _ _ (by
    have e : mergeK [] [(key, v)] = [(key, v)] := rfl
    rw [e, upd_upd]
    exact Same.new' ha) (q a _ ha upd_same)⟩
theorem fr_ref {H0 : Hp} {a : Addr} (h : H0 a = none) : ∀ x, V.ref a = .ref x → H0 x = none := fun x e => by cases e; exact h
theorem tup_two {σ : L2.St} {H : Hp} {t1 t2 : TE} {Q : VK} (h : t1 σ H fun v H1 => t2 σ H1 fun w H2 => 2 ≤ sizeLine ∧ ∀ q, H2 q = none → Q (.ref q) (upd H2 q (.tup [v, w]))) : tTup (tCons t1 (tCons t2 tNil)) σ H Q := h
end
end LW

namespace LW
open PySem PySem.Spec PyProof.Rows L2 GL
section
variable {P : Program} {w : World} {K : PySem.W.Frag} {mg : Str → Option Value} {base : Heap}

theorem pi_or {X : Cx} {tg iter : Expr} {w1 w2 : TI} (h1 : PI X tg iter w1) (h2 : PI X tg iter w2) : PI X tg iter (fun σ H R => w1 σ H R ∨ w2 σ H R) := ⟨fun pins s σ H R I h => h.elim (h1.run pins s σ H R I) (h2.run pins s σ H R I)⟩
/-- a list or a tuple -/
def Seq (K : PySem.W.Frag) (H : Hp) (a : Addr) (xs : List V) : Prop := SqL K H a xs ∨ SqT K H a xs
theorem Seq.same {K : PySem.W.Frag} {H H' : Hp} {a : Addr} {xs : List V} (h : Seq K H a xs) (s : Same H H') : Seq K H' a xs := h.elim (fun z => .inl (s.seq z)) fun z => .inr (sqt_same s z)
theorem Sq.seq {K : PySem.W.Frag} {H : Hp} {a : Addr} {xs : List V} (h : Sq H a xs) : Seq K H a xs := h.elim (fun z => .inl (SqL.of z)) fun z => .inr (SqT.of z)
/-- one turn of a comprehension: what is stored in its names, then its item -/
def Turn1 (g : TG) (te : TE) (vs : List Nat) (σ : L2.St) (x : V) (H : Hp) (R : V → Hp → Prop) : Prop := ∀ K' : L2.St → Hp → Prop, (∀ σ2, wipe σ2 vs = wipe σ vs → EM te σ2 H R → K' σ2 H) → g x (wipe σ vs) H K'
theorem turn_name {te : TE} {vs : List Nat} {σ : L2.St} {x : V} {H : Hp} {R : V → Hp → Prop} {j : Nat} (hw : wipe ((wipe σ vs).set j (some x)) vs = wipe σ vs) (h : EM te ((wipe σ vs).set j (some x)) H R) : Turn1 (gName j) te vs σ x H R := fun K' k => k _ hw h
theorem turn_two {K : PySem.W.Frag} {te : TE} {vs : List Nat} {σ : L2.St} {x y : V} {t : Addr} {H : Hp} {R : V → Hp → Prop} {i j : Nat} (ht : SqT K H t [x, y]) (hw : wipe (((wipe σ vs).set i (some x)).set j (some y)) vs = wipe σ vs) (h : EM te (((wipe σ vs).set i (some x)).set j (some y)) H R) :
    Turn1 (gTup K 2 (gCons (gName i) (gCons (gName j) gNil))) te vs σ (.ref t) H R := fun K' k => g_two ht (k _ hw h)
theorem em_val {te : TE} {σ : L2.St} {H : Hp} {v : V} {R : V → Hp → Prop} (h : Val te σ H v) (r : R v H) : EM te σ H R := fun Q q => h _ (q v H (Same.refl H) r)
section
variable {σ : L2.St} {H : Hp} {g : TG} {te ti : TE} {vs : List Nat} {Q : VK} {a : Addr} {xs : List V} {R : Nat → V → Hp → Prop}
/-- what the comprehension's list holds -/
def LcP (R : Nat → V → Hp → Prop) (H : Hp) (D : Addr) (i : Nat) (H' : Hp) : Prop := ∃ ys, Same H H' ∧ H' D = some (.lst ys) ∧ H D = none ∧ Rows R 0 i ys H'
/-- a change of a list leaves it -/
def Off (R : Nat → V → Hp → Prop) : Prop := ∀ k v H D ys zs, R k v H → H D = some (.lst ys) → R k v (upd H D (.lst zs))
theorem Run.off (of : Off R) {H : Hp} {D : Addr} {ws zs : List V} (e : H D = some (.lst ws)) : ∀ {k : Nat} {ys : List V}, Run R k ys H → Run R k ys (upd H D (.lst zs))
  | _, [], _ => trivial
  | _, _ :: _, ⟨x, y⟩ => ⟨of _ _ _ _ _ _ x e, Run.off of e y⟩
theorem lc_step (st : ∀ k, Stays (R k)) (of : Off R) {x : V} {i : Nat} {D : Addr} {H1 : Hp} (p : LcP R H D i H1) (hn : i < 10000) (ht : Same H H1 → Turn1 g te vs σ x H1 (R i)) :
    g x (wipe σ vs) H1 fun σ2 H2 => wipe σ2 vs = wipe σ vs ∧ tYes σ2 H2 fun b H3 => if b = true then te σ2 H3 fun y H4 => ∃ acc, H4 D = some (.lst acc) ∧ acc.length < sizeLine ∧ LcP R H D (i + 1) (upd H4 D (.lst (acc ++ [y]))) else LcP R H D (i + 1) H3 := by
  obtain ⟨ys, s, e, nD, r⟩ := p
  refine ht s _ fun σ2 hw em => ⟨hw, ?_⟩
  show (if true = true then te _ _ _ else LcP R H D (i + 1) H1)
  rw [if_pos rfl]
  refine em _ fun v H4 s4 rv => ⟨ys, s4 _ _ e, by rw [r.2]; exact Nat.lt_of_lt_of_le hn (by decide), ys ++ [v], ?_, upd_same, nD, ?_⟩
  · intro b o z
    rw [upd_ne (ne_of_none z nD)]
    exact s4 _ _ (s b o z)
  · have r4 := Rows.stays st ys H1 H4 s4 r
    refine ⟨Run.off of (s4 _ _ e) (Run.app r4.1 ⟨?_, trivial⟩), by rw [List.length_append, r4.2]; rfl⟩
    rw [r4.2, Nat.zero_add]
    exact rv
/-- [e for .. in xs] -/
theorem l_lcS (st : ∀ k, Stays (R k)) (of : Off R) (h : Val ti σ H (.ref a)) (hx : Seq K H a xs) (hn : xs.length ≤ 10000) (hs : ∀ i x H1, xs[i]? = some x → Same H H1 → Turn1 g te vs σ x H1 (R i))
    (q : ∀ p ys H', Same H H' → H' p = some (.lst ys) → Rows R 0 xs.length ys H' → Q (.ref p) H') : tLc (fun σ H R => iList K ti σ H R ∨ iTup K ti σ H R) g tYes te vs σ H Q := by
  have start : ∀ D, H D = none → LcP R H D 0 (upd H D (.lst [])) := fun D hD => ⟨[], Same.new' hD, upd_same, hD, trivial, rfl⟩
  have fin : ∀ D H1, LcP R H D xs.length H1 → Q (.ref D) H1 := fun D H1 ⟨ys, s, e, _, r⟩ => q D ys H1 s e r
  have step : ∀ D i x H1, xs[i]? = some x → LcP R H D i H1 → _ := fun D i x H1 e p => lc_step (g := g) (te := te) (vs := vs) (σ := σ) st of p (by
    have := (List.getElem?_eq_some_iff.mp e).1
    omega) (hs i x H1 e)
  rcases hx with hx | hx
  · exact .inl (h _ ⟨a, rfl, ⟨xs, hx⟩, fun D hD => lc_list (K := K) (a := a) (xs := xs) (LcP R H D) (start D hD) (fun i H1 _ p => p.choose_spec.1.seq hx) (step D) (fun H1 p => fin D H1 p)⟩)
  · exact .inr (h _ ⟨a, rfl, ⟨xs, hx⟩, fun D hD => lc_tup (K := K) (a := a) (xs := xs) (LcP R H D) (start D hD) (fun i H1 _ p => sqt_same p.choose_spec.1 hx) (step D) (fun H1 p => fin D H1 p)⟩)
theorem l_lcL (st : ∀ k, Stays (R k)) (of : Off R) (h : Val ti σ H (.ref a)) (hx : SqL K H a xs) (hn : xs.length ≤ 10000) (hs : ∀ i x H1, xs[i]? = some x → Same H H1 → Turn1 g te vs σ x H1 (R i))
    (q : ∀ p ys H', Same H H' → H' p = some (.lst ys) → Rows R 0 xs.length ys H' → Q (.ref p) H') : tLc (iList K ti) g tYes te vs σ H Q :=
  h _ ⟨a, rfl, ⟨xs, hx⟩, fun D hD => lc_list (K := K) (a := a) (xs := xs) (LcP R H D) ⟨[], Same.new' hD, upd_same, hD, trivial, rfl⟩ (fun i H1 _ p => p.choose_spec.1.seq hx) (fun i x H1 e p => lc_step st of p (by
    have := (List.getElem?_eq_some_iff.mp e).1
    omega) (hs i x H1 e)) (fun H1 ⟨ys, s, e, _, r⟩ => q D ys H1 s e r)⟩
theorem l_lcT (st : ∀ k, Stays (R k)) (of : Off R) (h : Val ti σ H (.ref a)) (hx : SqT K H a xs) (hn : xs.length ≤ 10000) (hs : ∀ i x H1, xs[i]? = some x → Same H H1 → Turn1 g te vs σ x H1 (R i))
    (q : ∀ p ys H', Same H H' → H' p = some (.lst ys) → Rows R 0 xs.length ys H' → Q (.ref p) H') : tLc (iTup K ti) g tYes te vs σ H Q :=
  h _ ⟨a, rfl, ⟨xs, hx⟩, fun D hD => lc_tup (K := K) (a := a) (xs := xs) (LcP R H D) ⟨[], Same.new' hD, upd_same, hD, trivial, rfl⟩ (fun i H1 _ p => sqt_same p.choose_spec.1 hx) (fun i x H1 e p => lc_step st of p (by
    have := (List.getElem?_eq_some_iff.mp e).1
    omega) (hs i x H1 e)) (fun H1 ⟨ys, s, e, _, r⟩ => q D ys H1 s e r)⟩
theorem l_lcR {n : Nat} {ta : TA} (st : ∀ k, Stays (R k)) (of : Off R) (h : VA ta σ H [.int (n : Int)]) (hn : n ≤ 10000) (hs : ∀ i H1, i < n → Same H H1 → Turn1 g te vs σ (.int (i : Int)) H1 (R i))
    (q : ∀ p ys H', Same H H' → H' p = some (.lst ys) → Rows R 0 n ys H' → Q (.ref p) H') : tLc (iRng1 ta) g tYes te vs σ H Q := by
  refine h _ ⟨(n : Int), rfl, by omega, by omega, fun D hD => lc_range (lo := 0) (n := (n : Int).toNat) (LcP R H D) ⟨[], Same.new' hD, upd_same, hD, trivial, rfl⟩ (fun i H1 hi p => ?_) (fun H1 ⟨ys, s, e, _, r⟩ => q D ys H1 s e (by rw [Int.toNat_natCast] at r; exact r))⟩
  rw [Int.zero_add]
  exact lc_step st of p (by omega) (hs i H1 (by omega))
theorem l_lcR2 {lo : Int} {n : Nat} {ta : TA} (st : ∀ k, Stays (R k)) (of : Off R) (h : VA ta σ H [.int lo, .int (lo + (n : Int))]) (h0 : 0 ≤ lo) (h1 : lo ≤ 10000) (hn : n ≤ 10000) (hs : ∀ i H1, i < n → Same H H1 → Turn1 g te vs σ (.int (lo + (i : Int))) H1 (R i))
    (q : ∀ p ys H', Same H H' → H' p = some (.lst ys) → Rows R 0 n ys H' → Q (.ref p) H') : tLc (iRng2 ta) g tYes te vs σ H Q := by
  have e : (lo + (n : Int) - lo).toNat = n := by omega
  refine h _ ⟨lo, lo + n, rfl, ⟨by omega, by omega, by omega, by omega⟩, fun D hD => lc_range (lo := lo) (n := (lo + (n : Int) - lo).toNat) (LcP R H D) ⟨[], Same.new' hD, upd_same, hD, trivial, rfl⟩ (fun i H1 hi p => ?_) (fun H1 ⟨ys, s, e2, _, r⟩ => q D ys H1 s e2 (by rw [e] at r; exact r))⟩
  exact lc_step st of p (by omega) (hs i H1 (by omega))
end

/-! ### ratios as values -/
def Lo (H : Hp) (t : Addr) (q : Rat) : Prop := H t = some (.tup [.int q.num, .int (q.den : Int)])
def Rq (H : Hp) (v : V) (q : Rat) : Prop := ∃ i j, Rt H v i j ∧ Fit i j ∧ q = Rat.divInt i j
theorem Lo.same {H H' : Hp} {t : Addr} {q : Rat} (h : Lo H t q) (s : Same H H') : Lo H' t q := s _ _ h
theorem Rq.same {H H' : Hp} {v : V} {q : Rat} (h : Rq H v q) (s : Same H H') : Rq H' v q := by
  obtain ⟨i, j, r, f, e⟩ := h
  exact ⟨i, j, r.same s, f, e⟩
theorem low_rat (i : Int) {j : Int} (hj : 0 < j) : i / gI i j = (Rat.divInt i j).num ∧ j / gI i j = ((Rat.divInt i j).den : Int) := by
  have g : (Int.gcd j i : Int) = gI i j := by
    unfold gI Int.gcd
    rw [Nat.gcd_comm]
  constructor
  · rw [Rat.num_divInt, Int.sign_eq_one_of_pos hj, Int.one_mul, g]
  · rw [Rat.den_divInt, if_neg (by omega), Int.natCast_ediv, g]
    congr 1
    omega
/-- below 2 ^ n -/
def Sm (n : Nat) (q : Rat) : Prop := q.num.natAbs < 2 ^ n ∧ q.den < 2 ^ n
theorem Sm.mono {n m : Nat} {q : Rat} (h : Sm n q) (l : n ≤ m) : Sm m q := ⟨Nat.lt_of_lt_of_le h.1 (Nat.pow_le_pow_right (by decide) l), Nat.lt_of_lt_of_le h.2 (Nat.pow_le_pow_right (by decide) l)⟩
theorem Sm.fit {n : Nat} {q : Rat} (h : Sm n q) (l : n ≤ 1000) : Fit q.num (q.den : Int) := ⟨(h.mono l).1, by rw [Int.natAbs_natCast]; exact (h.mono l).2⟩
theorem Lo.rt {H : Hp} {t : Addr} {q : Rat} (h : Lo H t q) : Rt H (.ref t) q.num (q.den : Int) := .pair (.inr h) (by have := q.den_pos; omega)
theorem Lo.rq {H : Hp} {t : Addr} {q : Rat} {n : Nat} (h : Lo H t q) (b : Sm n q) (l : n ≤ 1000) : Rq H (.ref t) q := ⟨_, _, h.rt, b.fit l, by rw [Rat.divInt_ofNat, Rat.mkRat_self]⟩
theorem Rq.yes {H : Hp} {v : V} {q : Rat} (h : Rq H v q) : RatQ H v true := by
  obtain ⟨i, j, r, f, e⟩ := h
  exact r.yes
section
variable {σ : L2.St} {H : Hp} {ta : TA} {v u wh : V} {q r : Rat} {Q : VK} {E : XK}
theorem c_told (h : VA ta σ H [v, wh]) (r : Rq H v q) (k : ∀ p H', Same H H' → Lo H' p q → Q (.ref p) H') : tCall (sp_told mg) [] E ta σ H Q := by
  obtain ⟨i, j, rt, f, e⟩ := r
  refine c_call h ⟨v, wh, rfl, .inl ⟨i, j, rt, f, fun p H' s z => k p H' s ?_⟩⟩
  rw [(low_rat i rt.pos).1, (low_rat i rt.pos).2, ← e] at z
  exact z
end

/-! ### rows -/
inductive All2 {α β : Type} (R : α → β → Prop) : List α → List β → Prop
  | nil : All2 R [] []
  | cons {a : α} {b : β} {as : List α} {bs : List β} (h : R a b) (t : All2 R as bs) : All2 R (a :: as) (b :: bs)
theorem All2.imp {α β : Type} {R S : α → β → Prop} (f : ∀ a b, R a b → S a b) {as : List α} {bs : List β} (h : All2 R as bs) : All2 S as bs := by
  induction h with
  | nil => exact .nil
  | cons h _ ih => exact .cons (f _ _ h) ih
theorem All2.len {α β : Type} {R : α → β → Prop} {as : List α} {bs : List β} (h : All2 R as bs) : as.length = bs.length := by
  induction h with
  | nil => rfl
  | cons _ _ ih => rw [List.length_cons, List.length_cons, ih]
theorem All2.get {α β : Type} {R : α → β → Prop} {as : List α} {bs : List β} (h : All2 R as bs) : ∀ {i : Nat} {a : α}, as[i]? = some a → ∃ b, bs[i]? = some b ∧ R a b := by
  induction h with
  | nil => intro i a e; simp at e
  | cons h _ ih =>
    intro i a e
    cases i with
    | zero => simp at e; subst e; exact ⟨_, rfl, h⟩
    | succ i => simp at e; obtain ⟨b, hb, r⟩ := ih e; exact ⟨b, by simpa using hb, r⟩
theorem All2.mk {α β : Type} {R : α → β → Prop} : ∀ {as : List α} {bs : List β}, as.length = bs.length → (∀ (i : Nat) (a : α) (b : β), as[i]? = some a → bs[i]? = some b → R a b) → All2 R as bs
  | [], [], _, _ => .nil
  | a :: as, b :: bs, e, h => .cons (h 0 a b rfl rfl) (All2.mk (as := as) (bs := bs) (by simpa using e) fun (i : Nat) x y h1 h2 => h (i + 1) x y (by simpa using h1) (by simpa using h2))
theorem rows_map {β : Type} {f : β → V} {bs : List β} {n : Nat} {ys : List V} {H : Hp} (r : Rows (fun i v _ => ∃ b, bs[i]? = some b ∧ v = f b) 0 n ys H) (e : bs.length = n) : ys = bs.map f := by
  refine List.ext_getElem? fun i => ?_
  rw [List.getElem?_map]
  cases h : ys[i]? with
  | some v =>
    obtain ⟨b, hb, rfl⟩ := r.1.get h
    rw [Nat.zero_add] at hb
    rw [hb]
    rfl
  | none =>
    have h1 := List.getElem?_eq_none_iff.mp h
    have h2 : bs.length ≤ i := by rw [e, ← r.2]; exact h1
    rw [List.getElem?_eq_none_iff.mpr h2]
    rfl
/-- what is_row answers -/
def spRow (K : PySem.W.Frag) : Sp := fun vs H Q _ => ∃ v, vs = [v] ∧ ((∃ n, Is H v n ∧ n ≠ "list" ∧ n ≠ "tuple" ∧ ∀ H', Same H H' → Q (.bl false) H') ∨ ∃ a xs bs, v = .ref a ∧ Sq H a xs ∧ xs.length ≤ 1000 ∧ All2 (RatQ H) xs bs ∧ ∀ H', Same H H' → Q (.bl (bs.all id)) H')
theorem ok_is_row (T : Txt K mg) : FnOk P w K mg base CX0 5 (fA mg "is_row") (fDat K (fA mg "is_row")) ["value"] (spRow K) := by
  have Gis_ratio := ok_is_ratio (P := P) (w := w) (base := base) T
  refine T.is_row.F.ok scis_row (fun vs H Q E h => ?_) (fun cdv A outer s H vs Q E hr h => ?_)
  · obtain ⟨v, rfl, _⟩ := h
    rfl
  obtain ⟨v, rfl, h⟩ := h
  refine ⟨_, (pss_one (ps_ret (pe_and (pe_callB call_isiT (by rfl) T.isinstance (by decide +kernel) (pa_cons (pv 0) (pa_cons (pe_tup (pa_cons (pe_bltn (v := .ty "tuple") (by rfl) T.tuple (by decide +kernel) rfl) (pa_cons (pe_bltn (v := .ty "list") (by rfl) T.list (by decide +kernel) rfl) pa_nil))) pa_nil))) (pe_one (pe_callB (cr_all rfl) (by rfl) T.all (by decide +kernel) (pa_cons (pe_lc (own := [("number", 1)]) (g := gName 1) (tt := tYes) (by rfl) scis_row.nd (pi_or (pi_list (pv 0)) (pi_tup (pv 0))) (blkOk_by (own := [("number", 1)]) (N := ["value", "number"]) (sc := defScope sis_row) (by decide +kernel)) (fun _ _ _ _ _ => pg_name (i := 1) scis_row.nd rfl (Or.inl rfl)) (fun _ _ _ _ _ => pts_nil) (fun _ _ _ _ _ => (pe_c T.is_ratio Gis_ratio (hr.mono (by decide)) (pa_cons (pv 1) pa_nil)))) pa_nil)))))), ?_⟩
  have both : ∀ {n : String} {Q' : VK}, Is H v n → (∀ H2, Same H H2 → Q' (.bl (decide (n = "tuple") || decide (n = "list"))) H2) →
      tCB (rIsiT K) (tCons (tVar 0) (tCons (tTup (tCons (tC (.ty "tuple")) (tCons (tC (.ty "list")) tNil))) tNil)) [some v, none] H Q' := fun {n Q'} i q =>
    ⟨v, rfl, ⟨by show 2 ≤ sizeLine; decide, fun p hp => ⟨v, p, [.ty "tuple", .ty "list"], _, [.type "tuple", .type "list"], _, rfl, upd_same, .cons (.ty _) (.cons (.ty _) .nil), (i.same (Same.new' hp)).ty.1, kit_seq (i.ty (K := K)).2, q _ (Same.new' hp)⟩⟩⟩
  refine r_ret ?_
  rcases h with ⟨n, i, n1, n2, k⟩ | ⟨a, xs, bs, rfl, hS, hl, hR, k⟩
  · refine both i fun H2 s2 => ⟨_, rfl, ?_⟩
    rw [decide_eq_false n2, decide_eq_false n1]
    exact iteF (k H2 s2)
  · obtain ⟨n, i, o⟩ := hS.is
    refine both i fun H2 s2 => ⟨_, rfl, ?_⟩
    have e : (decide (n = "tuple") || decide (n = "list")) = true := by rcases o with rfl | rfl <;> decide
    rw [e]
    refine iteT (cb_one ?_)
    refine l_lcS (R := fun i v _ => ∃ b, bs[i]? = some b ∧ v = V.bl b) (fun _ _ _ _ _ h => h) (fun _ _ _ _ _ _ h _ => h) (val_var rfl) (hS.same s2).seq (by omega) (fun i x H3 e s3 => turn_name rfl fun Q q => ?_) (fun p ys H4 s4 e4 r4 => ⟨p, bs, rfl, ?_, k H4 (s2.trans s4)⟩)
    · obtain ⟨b, hb, rb⟩ := hR.get e
      exact c_call (va_cons (val_var rfl) va_nil) ⟨x, b, rfl, rb.same (s2.trans s3), fun H' s' => q _ H' s' ⟨b, hb, rfl⟩⟩
    · rw [← rows_map r4 hR.len.symm]
      exact SqL.of e4

/-! ### whole rows -/
def rLcm : List V → Hp → VK → Prop := fun vs H Q => ∃ a b : Int, vs = [.int a, .int b] ∧ a.natAbs < 2 ^ 6000 ∧ b.natAbs < 2 ^ 6000 ∧ Q (.int ((Nat.lcm a.natAbs b.natAbs : Nat) : Int)) H
theorem log_6000 {n : Nat} (h : n < 2 ^ 6000) : n.log2 < 6000 := by
  rcases Nat.eq_zero_or_pos n with z | z
  · rw [z]; decide
  · exact (Nat.log2_lt (by omega)).mpr h
theorem cr_lcm {X : Cx} : CallR X (.builtin "math.lcm") rLcm := by
  intro pins s σ H vs us Q I r h
  obtain ⟨a, b, rfl, ha, hb, q⟩ := h
  obtain ⟨t, u, rfl⟩ := Vals.int2 r
  have one : Nat.lcm 1 a.natAbs = a.natAbs := by simp [Nat.lcm]
  have h1 := log_6000 (n := max 1 a.natAbs) (by have : (1 : Nat) < 2 ^ 6000 := Nat.one_lt_two_pow (by decide); omega)
  have h2 := log_6000 (n := max a.natAbs b.natAbs) (by omega)
  have h3 : ((((Nat.lcm 1 a.natAbs).lcm b.natAbs : Nat) : Int)).natAbs.log2 < bitsLine := by
    rw [one, Int.natAbs_natCast]
    have l : a.natAbs.lcm b.natAbs ≤ a.natAbs * b.natAbs := Nat.div_le_self _ _
    have m : a.natAbs * b.natAbs < 2 ^ 12000 := by
      rw [show 12000 = 6000 + 6000 from rfl, Nat.pow_add]
      exact Nat.mul_lt_mul'' ha hb
    refine Nat.lt_of_lt_of_le (m := 12000) ?_ (by decide)
    rcases Nat.eq_zero_or_pos (a.natAbs.lcm b.natAbs) with z | z
    · rw [z]; decide
    · exact (Nat.log2_lt (by omega)).mpr (Nat.lt_of_le_of_lt l m)
  refine PySem.call_function_meets PySem.W.MGF.kind_lcm PySem.W.MGF.plain_lcm PySem.W.MGF.entry_lcm (PySem.W.MGF.args_lcm _ _) (PySem.W.mg_run_lcm a t b u (by omega) (by omega) h3).meets ?_
  rw [one]
  exact ⟨.int _, H, I.tok _, ⟨_, rfl⟩, q⟩
theorem q_forT {g : TG} {te : TE} {tb tz : TS} {D : Ends} {σ : L2.St} {H : Hp} {a : Addr} {xs : List V} (h : Val te σ H (.ref a)) (hx : SqT K H a xs) (Pv : Nat → L2.St → Hp → Prop) (h0 : Pv 0 σ H) (hl : ∀ i σ H, Pv i σ H → SqT K H a xs)
    (hs : ∀ i x σ H, xs[i]? = some x → Pv i σ H → g x σ H fun σ2 H2 => tb { D with nx := Pv (i + 1), ct := Pv (i + 1), bk := tz D } σ2 H2) (hd : ∀ σ H, Pv xs.length σ H → tz D σ H) : tSeq (tFor (iTup K te) g tb) tz D σ H :=
  h _ ⟨a, rfl, ⟨_, hx⟩, for_tup (K := K) (a := a) (xs := xs) (D := { D with nx := tz D }) Pv h0 (fun i σ H _ p => hl i σ H p) hs hd⟩
/-- a list of told ratios -/
def Los (H : Hp) (t : Addr) (xs : List Rat) : Prop := ∃ vs, H t = some (.lst vs) ∧ All2 (fun v q => ∃ p, v = .ref p ∧ Lo H p q) vs xs
theorem Los.same {H H' : Hp} {t : Addr} {xs : List Rat} (h : Los H t xs) (s : Same H H') : Los H' t xs := by
  obtain ⟨vs, e, a⟩ := h
  exact ⟨vs, s _ _ e, a.imp fun v q ⟨p, e, l⟩ => ⟨p, e, l.same s⟩⟩
def Sms (n : Nat) (xs : List Rat) : Prop := ∀ q ∈ xs, Sm n q
theorem get_mem {α : Type} {xs : List α} {i : Nat} {a : α} (h : xs[i]? = some a) : a ∈ xs := List.mem_of_getElem? h
def spBot : Sp := fun vs H Q _ => ∃ (t : Addr) (xs : List Rat) (n : Nat), vs = [.ref t] ∧ Los H t xs ∧ Sms n xs ∧ n * xs.length + n ≤ 900 ∧ xs.length ≤ 1000 ∧ ∀ (D : Nat) (H' : Hp), Same H H' → 0 < D → D ≤ 2 ^ (n * xs.length) → (∀ q ∈ xs, q.den ∣ D) → Q (.int (D : Int)) H'
theorem ok_bottom_of (T : Txt K mg) : FnOk P w K mg base CX0 1 (fA mg "bottom_of") (fDat K (fA mg "bottom_of")) ["pairs"] spBot := by
  refine T.bottom_of.F.ok scbottom_of (fun vs H Q E h => ?_) (fun cdv A outer s H vs Q E hr h => ?_)
  · obtain ⟨t, xs, n, rfl, _⟩ := h
    rfl
  obtain ⟨t, xs, n, rfl, ⟨vs, e, al⟩, sm, hn, hl, k⟩ := h
  refine ⟨_, (pss_cons (ps_set (i := 1) scbottom_of.nd rfl (Or.inl rfl) pe_int)
  (pss_cons (ps_for PassesOwn.never rfl (pi_list (pv 0)) (pg_tup rfl (pgs_cons (pg_name (i := 2) scbottom_of.nd rfl (Or.inl rfl)) (pgs_cons (pg_name (i := 3) scbottom_of.nd rfl (Or.inl rfl)) pgs_nil)))
  (pss_one (ps_set (i := 1) scbottom_of.nd rfl (Or.inl rfl) (pe_callBfun cr_lcm (by rfl) T.lcm (pa_cons (pv 1) (pa_cons (pv 3) pa_nil))))))
  (pss_one (ps_ret (pv 1))))), ?_⟩
  refine q_set val_c ?_
  refine q_forL (val_var rfl) (SqL.of e) (fun i σ H1 => Same H H1 ∧ ∃ (D : Nat) (z1 z2 : Option V), σ = [some (.ref t), some (.int (D : Int)), z1, z2] ∧ 0 < D ∧ D ≤ 2 ^ (n * i) ∧ ∀ j q, j < i → xs[j]? = some q → q.den ∣ D) ⟨Same.refl H, 1, none, none, rfl, by decide, by rw [Nat.mul_zero]; decide, fun j q h => absurd h (by omega)⟩ (fun i σ H1 _ z => SqL.of (z.1 _ _ e)) (fun i v σ H1 hv z => ?_) (fun σ H1 z => ?_)
  · obtain ⟨s1, D, z1, z2, rfl, d0, dl, dd⟩ := z
    obtain ⟨q, hq, p, rfl, lo⟩ := al.get hv
    have sq := sm q (get_mem hq)
    have il : i < xs.length := (List.getElem?_eq_some_iff.mp hq).1
    refine g_two (SqT.of (lo.same s1)) ?_
    have nle : n * i + n ≤ n * xs.length := by
      rw [← Nat.mul_succ]
      exact Nat.mul_le_mul_left _ il
    have big : ∀ m : Nat, m ≤ 900 → (2 : Nat) ^ m < 2 ^ 6000 := fun m h => Nat.pow_lt_pow_right (by decide) (by omega)
    refine (v_cb (z := .int ((Nat.lcm D q.den : Nat) : Int)) (va_cons (val_var rfl) (va_cons (val_var rfl) va_nil)) fun Q' q' => ⟨(D : Int), (q.den : Int), rfl, by rw [Int.natAbs_natCast]; exact Nat.lt_of_le_of_lt dl (big _ (by omega)), by rw [Int.natAbs_natCast]; exact Nat.lt_trans sq.2 (big n (by omega)), by rw [Int.natAbs_natCast, Int.natAbs_natCast]; exact q'⟩ : Val _ _ _ _) _ ?_
    refine ⟨s1, Nat.lcm D q.den, _, _, rfl, Nat.lcm_pos d0 q.den_pos, ?_, fun j q2 hj h2 => ?_⟩
    · rw [Nat.mul_succ, Nat.pow_add]
      exact Nat.le_trans (Nat.div_le_self _ _) (Nat.mul_le_mul dl (Nat.le_of_lt sq.2))
    · rcases Nat.lt_or_ge j i with lt | ge
      · exact Nat.dvd_trans (dd j q2 lt h2) (Nat.dvd_lcm_left _ _)
      · have ej : j = i := by omega
        subst ej
        rw [hq] at h2
        cases h2
        exact Nat.dvd_lcm_right _ _
  · obtain ⟨s1, D, z1, z2, rfl, d0, dl, dd⟩ := z
    rw [al.len] at dl dd
    refine st_ret (val_var rfl) (k D H1 s1 d0 dl fun q hq => ?_)
    obtain ⟨j, hj, e2⟩ := List.getElem_of_mem hq
    exact dd j q hj (by rw [List.getElem?_eq_getElem hj, e2])
/-- whole numbers over one bottom -/
def tops (D : Nat) (xs : List Rat) : List Int := xs.map fun q => q.num * ((D / q.den : Nat) : Int)
def spWhole : Sp := fun vs H Q _ => ∃ (t : Addr) (xs : List Rat) (n : Nat), vs = [.ref t] ∧ Los H t xs ∧ Sms n xs ∧ n * xs.length + n ≤ 900 ∧ xs.length ≤ 1000 ∧ ∀ (p l : Addr) (D : Nat) (H' : Hp), Same H H' → 0 < D → D ≤ 2 ^ (n * xs.length) → (∀ q ∈ xs, q.den ∣ D) → H' p = some (.tup [.ref l, .int (D : Int)]) → H' l = some (.lst ((tops D xs).map V.int)) → Q (.ref p) H'
theorem ok_whole_row (T : Txt K mg) : FnOk P w K mg base CX0 3 (fA mg "whole_row") (fDat K (fA mg "whole_row")) ["pairs"] spWhole := by
  have Gbottom_of := ok_bottom_of (P := P) (w := w) (base := base) T
  refine T.whole_row.F.ok scwhole_row (fun vs H Q E h => ?_) (fun cdv A outer s H vs Q E hr h => ?_)
  · obtain ⟨t, xs, n, rfl, _⟩ := h
    rfl
  obtain ⟨t, xs, n, rfl, ⟨vs, e, al⟩, sm, hn, hl, k⟩ := h
  refine ⟨_, (pss_cons (ps_set (i := 1) scwhole_row.nd rfl (Or.inr rfl) (pe_c T.bottom_of Gbottom_of (hr.mono (by decide)) (pa_cons (pv 0) pa_nil)))
  (pss_one (ps_ret (pe_tup (pa_cons (pe_lc (own := [("top", 2), ("bottom", 3)]) (g := gTup K 2 (gCons (gName 2) (gCons (gName 3) gNil))) (tt := tYes) (by rfl) scwhole_row.nd (pi_list (pv 0)) (blkOk_by (own := [("top", 2), ("bottom", 3)]) (N := ["pairs", "below", "top", "bottom"]) (sc := defScope swhole_row) (by decide +kernel)) (fun _ _ _ _ _ => pg_tup rfl (pgs_cons (pg_name (i := 2) scwhole_row.nd rfl (Or.inl rfl)) (pgs_cons (pg_name (i := 3) scwhole_row.nd rfl (Or.inl rfl)) pgs_nil))) (fun _ _ _ _ _ => pts_nil) (fun _ _ _ _ _ => (pe_op op_mulW (pv 2) (pe_op op_fdivW (pv 1) (pv 3))))) (pa_cons (pv 1) pa_nil)))))), ?_⟩
  refine q_asg (c_call (va_cons (val_var rfl) va_nil) ⟨t, xs, n, rfl, ⟨vs, e, al⟩, sm, hn, hl, fun D H1 s1 d0 dl dd => ?_⟩)
  refine r_ret (tup_two ?_)
  have al1 := al.imp fun v q (h : ∃ p, v = V.ref p ∧ Lo H p q) => (⟨h.choose, h.choose_spec.1, h.choose_spec.2.same s1⟩ : ∃ p, v = V.ref p ∧ Lo H1 p q)
  refine l_lcL (R := fun i v _ => ∃ b, (tops D xs)[i]? = some b ∧ v = V.int b) (fun _ _ _ _ _ h => h) (fun _ _ _ _ _ _ h _ => h) (val_var rfl) (SqL.of (s1 _ _ e)) (by rw [al.len]; omega) (fun i v H2 hv s2 => ?_) (fun p ys H2 s2 e2 r2 => ?_)
  · obtain ⟨q, hq, p, rfl, lo⟩ := al1.get hv
    have sq := sm q (get_mem hq)
    have b9 : (2 : Nat) ^ (n * xs.length) < 2 ^ 1000 := Nat.pow_lt_pow_right (by decide) (by omega)
    have fn := (sq.fit (by omega)).1
    have fd := (sq.fit (by omega)).2
    have dpos := q.den_pos
    have fD : ((D / q.den : Nat) : Int).natAbs < 2 ^ 1000 := by rw [Int.natAbs_natCast]; exact Nat.lt_of_le_of_lt (Nat.le_trans (Nat.div_le_self _ _) dl) b9
    refine turn_two (SqT.of (lo.same s2)) rfl (em_val (v := .int (q.num * ((D / q.den : Nat) : Int))) (v_mul (val_var rfl) (Val.is (GL.v_div (i := (D : Int)) (j := (q.den : Int)) (val_var rfl) (val_var rfl) (wide_div (b := 1000) (by omega) fd (by decide) (by decide))) (by rw [Int.natCast_ediv])) (fit_mul fn fD)) ⟨_, ?_, rfl⟩)
    unfold tops
    rw [List.getElem?_map, hq]
    rfl
  · refine val_var rfl _ ⟨by show 2 ≤ sizeLine; decide, fun p2 hp2 => ?_⟩
    have s3 := Same.new' (o := .tup [.ref p, .int (D : Int)]) hp2
    refine k p2 p D _ ((s1.trans s2).trans s3) d0 dl dd upd_same ?_
    rw [al.len] at r2
    rw [← rows_map r2 (by unfold tops; rw [List.length_map])]
    exact s3 _ _ e2

/-! ### two for in one comprehension -/
theorem tvar_set {σ : L2.St} {j : Nat} {v : V} {H : Hp} (h : j < σ.length) : Val (tVar j) (σ.set j (some v)) H v := val_var (by rw [List.getElem?_set_self h])
theorem t_yes {σ : L2.St} {H : Hp} {Q : Bool → Hp → Prop} (h : Q true H) : tYes σ H Q := h
/-- the items of the first i rows -/
def off (xss : List (List V)) (i : Nat) : Nat := ((xss.take i).map List.length).sum
theorem off_succ {xss : List (List V)} {i : Nat} {xs : List V} (h : xss[i]? = some xs) : off xss (i + 1) = off xss i + xs.length := by
  obtain ⟨hi, e⟩ := List.getElem?_eq_some_iff.mp h
  unfold off
  rw [List.take_succ, List.map_append, List.sum_append, h]
  simp
theorem off_le {xss : List (List V)} (i : Nat) : off xss i ≤ off xss xss.length := by
  unfold off
  rw [List.take_length]
  have e := List.take_append_drop i xss
  calc ((xss.take i).map List.length).sum ≤ ((xss.take i).map List.length).sum + ((xss.drop i).map List.length).sum := Nat.le_add_right _ _
    _ = (xss.map List.length).sum := by rw [← List.sum_append, ← List.map_append, e]
section
variable {σ : L2.St} {H : Hp} {te ti : TE} {vs vs1 : List Nat} {Q : VK} {a : Addr} {rows : List V} {xss : List (List V)} {j j1 : Nat} {R : Nat → V → Hp → Prop}
theorem l_lc2 (st : ∀ k, Stays (R k)) (of : Off R) (h : Val ti σ H (.ref a)) (hx : SqL K H a rows) (hl : rows.length = xss.length) (hr : ∀ (i : Nat) (v : V) (xs : List V), rows[i]? = some v → xss[i]? = some xs → ∃ r, v = V.ref r ∧ Seq K H r xs) (hn : off xss xss.length ≤ 10000)
    (w1 : ∀ v : V, wipe ((wipe σ vs).set j (some v)) vs = wipe σ vs) (w2 : ∀ v x : V, wipe ((wipe ((wipe σ vs).set j (some v)) vs1).set j1 (some x)) vs1 = wipe ((wipe σ vs).set j (some v)) vs1) (hj : j < (wipe σ vs).length)
    (hs : ∀ (i : Nat) (v : V) (xs : List V) (k : Nat) (x : V) (H1 : Hp), rows[i]? = some v → xss[i]? = some xs → xs[k]? = some x → L2.Same H H1 → EM te ((wipe ((wipe σ vs).set j (some v)) vs1).set j1 (some x)) H1 (R (off xss i + k)))
    (q : ∀ p ys H', L2.Same H H' → H' p = some (.lst ys) → Rows R 0 (off xss xss.length) ys H' → Q (.ref p) H') : tLc2 (iList K ti) (gName j) tYes (fun σ H R => iList K (tVar j) σ H R ∨ iTup K (tVar j) σ H R) (gName j1) tYes te vs vs1 σ H Q := by
  refine h _ ⟨a, rfl, ⟨rows, hx⟩, fun D hD => ?_⟩
  refine ⟨fun i m H' => m = rows.length - i ∧ i ≤ rows.length ∧ LcP R H D (off xss i) H', ⟨rows.length, rfl, Nat.zero_le _, [], Same.new' hD, upd_same, hD, trivial, rfl⟩, ?_⟩
  rintro i m H1 ⟨rfl, hi, p⟩
  have sm : L2.Same H H1 := p.choose_spec.1
  by_cases hlt : i < rows.length
  · have e1 : rows[i]? = some rows[i] := List.getElem?_eq_getElem hlt
    have e2 : xss[i]? = some (xss[i]'(by omega)) := List.getElem?_eq_getElem (by omega)
    generalize xss[i]'(by omega) = xs at e2
    generalize rows[i] = v at e1
    obtain ⟨r, rfl, sr⟩ := hr i v xs e1 e2
    refine .inr ⟨⟨rows, _, sm.seq hx, e1⟩, fun H2 => LcP R H D (off xss (i + 1)) H2, fun H' p' => ⟨rows.length - (i + 1), by omega, rfl, hlt, p'⟩, fun x H' y => ?_⟩
    obtain ⟨e, y⟩ := y
    subst e
    have := y rows (sm.seq hx)
    rw [e1] at this
    cases this
    refine ⟨w1 _, ?_⟩
    refine t_yes ?_
    refine iteT ?_
    have le1 : off xss (i + 1) ≤ 10000 := Nat.le_trans (off_le _) hn
    rw [off_succ e2] at le1 ⊢
    have inner : ∀ {J : It} (hgo : ∀ k H2, Same H H2 → k < xs.length → J.go k H2) (hst : ∀ k H2, Same H H2 → k = xs.length → J.stop k H2) (hy : ∀ k H2 x H3, Same H H2 → J.yld k H2 x H3 → H3 = H2 ∧ xs[k]? = some x),
        ∃ W1 : Nat → Nat → Hp → Prop, (∃ m, W1 0 m H') ∧ ∀ k m H2, W1 k m H2 → (J.stop k H2 ∧ LcP R H D (off xss i + xs.length) H2) ∨ (J.go k H2 ∧ ∃ Nx1 : Hp → Prop, (∀ H', Nx1 H' → ∃ k', k' < m ∧ W1 (k + 1) k' H') ∧ ∀ x H', J.yld k H2 x H' →
          gName j1 x (wipe ((wipe σ vs).set j (some (.ref r))) vs1) H' fun σ3 H5 => wipe σ3 vs1 = wipe ((wipe σ vs).set j (some (.ref r))) vs1 ∧ tYes σ3 H5 fun b H6 => if b = true then te σ3 H6 fun y H7 => ∃ acc, H7 D = some (.lst acc) ∧ acc.length < sizeLine ∧ Nx1 (upd H7 D (.lst (acc ++ [y]))) else Nx1 H6) := fun hgo hst hy => by
      refine ⟨fun k m H2 => m = xs.length - k ∧ k ≤ xs.length ∧ LcP R H D (off xss i + k) H2, ⟨xs.length, rfl, Nat.zero_le _, p⟩, ?_⟩
      rintro k m H2 ⟨rfl, hk, p2⟩
      have sm2 : L2.Same H H2 := p2.choose_spec.1
      by_cases hk2 : k < xs.length
      · refine .inr ⟨hgo k H2 sm2 hk2, fun H3 => LcP R H D (off xss i + (k + 1)) H3, fun H' p' => ⟨xs.length - (k + 1), by omega, rfl, hk2, p'⟩, fun x H' y => ?_⟩
        obtain ⟨rfl, ex⟩ := hy k H2 x H' sm2 y
        have step := lc_step (g := gName j1) (te := te) (vs := vs1) (σ := (wipe σ vs).set j (some (.ref r))) (x := x) st of p2 (by omega) fun s3 => turn_name (w2 _ _) (hs i _ xs k x _ e1 e2 ex s3)
        exact step
      · have ek : k = xs.length := by omega
        subst ek
        exact .inl ⟨hst _ H2 sm2 rfl, p2⟩
    rcases sr with sr | sr
    · refine .inl (tvar_set hj _ ⟨r, rfl, ⟨xs, sm.seq sr⟩, inner (J := Itl K r) (fun k H2 s hk => ⟨xs, xs[k], s.seq sr, List.getElem?_eq_getElem hk⟩) (fun k H2 s e => ⟨xs, s.seq sr, by omega⟩) fun k H2 x H3 s y => ⟨y.1, y.2 xs (s.seq sr)⟩⟩)
    · refine .inr (tvar_set hj _ ⟨r, rfl, ⟨xs, sqt_same sm sr⟩, inner (J := Itt K r) (fun k H2 s hk => ⟨xs, xs[k], sqt_same s sr, List.getElem?_eq_getElem hk⟩) (fun k H2 s e => ⟨xs, sqt_same s sr, by omega⟩) fun k H2 x H3 s y => ⟨y.1, y.2 xs (sqt_same s sr)⟩⟩)
  · have e : i = rows.length := by omega
    subst e
    obtain ⟨ys, s, e, _, r⟩ := p
    rw [hl] at r
    exact .inl ⟨⟨rows, s.seq hx, Nat.le_refl _⟩, q D ys H1 s e r⟩
end
end
end LW

namespace LW
open PySem PySem.Spec PyProof.Rows L2 GL
section
variable {P : Program} {w : World} {K : PySem.W.Frag} {mg : Str → Option Value} {base : Heap}
theorem scI_BadRow : FnScope ["self", "row"] ["self", "row"] (defScope (inClass (top 4) 0)) := ⟨rfl, rfl, rfl, by decide +kernel, rfl, by decide +kernel, by decide +kernel⟩
theorem init_BadRow (T : Txt K mg) : FnOk P w K mg base CX0 1 (iA K (fA mg "BadRow")) (fDat K (iA K (fA mg "BadRow"))) ["self", "row"] (spI1 (fA mg "BadRow") "row") := by
  refine T.BadRow.F.ok scI_BadRow (fun vs H Q E h => ?_) (fun cdv A outer s H vs Q E hr h => ?_)
  · obtain ⟨a, v, rfl, _⟩ := h
    rfl
  · obtain ⟨a, v, rfl, ha, k⟩ := h
    exact ⟨_, pss_one (ps_ost (pv 0) (pv 1)), s_ost1 T.BadRow.o (T.BadRow.n _ (by simp)) ha rfl rfl k⟩
theorem x_made1 {σ : L2.St} {H : Hp} {ta : TA} {C : Addr} {f : Str} {v : V} {Q : XK} (h : VA ta σ H [v]) (k : ∀ d H', Same H H' → H d = none → H' d = some (.xd [(f, v)]) → Q (.ref C) (some d) H') : tMkO C (spI1 C f) [] ta σ H Q :=
  h _ ⟨by show 1 ≤ 1000; decide, fun a ha => ⟨a, v, rfl, upd_same, fun dx hd ne => by
    rw [upd_ne ne] at hd
    refine ⟨rfl, dx, _, upd_same, by rw [upd_ne ne, upd_same], hd, k dx _ (fun b o e => ?_) hd upd_same⟩
    have hb : b ≠ a := ne_of_none e ha
    have hb2 : b ≠ dx := ne_of_none e hd
    rw [upd_ne hb2, del_ne hb, upd_ne hb, upd_ne hb2, upd_ne hb]
    exact e⟩⟩

/-! ### places -/
inductive PlQ (H : Hp) : V → Bool → Prop
  | odd {v : V} {n : String} (h : Is H v n) (n1 : n ≠ "list") (n2 : n ≠ "tuple") : PlQ H v false
  | seq {a : Addr} {xs : List V} {bs : List Bool} (h : Sq H a xs) (l : xs.length ≤ 1000) (r : All2 (RatQ H) xs bs) : PlQ H (.ref a) (bs.all id && decide (xs.length = 2))
theorem PlQ.same {H H' : Hp} {v : V} {b : Bool} (h : PlQ H v b) (s : L2.Same H H') : PlQ H' v b := by
  cases h with
  | odd h n1 n2 => exact .odd (h.same s) n1 n2
  | seq h l r => exact .seq (h.same s) l (r.imp fun _ _ q => q.same s)
def spRow2 : Sp := fun vs H Q _ => ∃ (v : V) (b : Bool), vs = [v, .int 2] ∧ PlQ H v b ∧ ∀ H', L2.Same H H' → Q (.bl b) H'
theorem ok_is_row_of (T : Txt K mg) : FnOk P w K mg base CX0 6 (fA mg "is_row_of") (fDat K (fA mg "is_row_of")) ["value", "many"] spRow2 := by
  have Gis_row := ok_is_row (P := P) (w := w) (base := base) T
  refine T.is_row_of.F.ok scis_row_of (fun vs H Q E h => ?_) (fun cdv A outer s H vs Q E hr h => ?_)
  · obtain ⟨v, b, rfl, _⟩ := h
    rfl
  obtain ⟨v, b, rfl, hR, k⟩ := h
  refine ⟨_, (pss_one (ps_ret (pe_and (pe_c T.is_row Gis_row (hr.mono (by decide)) (pa_cons (pv 0) pa_nil)) (pe_one (pe_cmpR op_eq (pe_callB call_len_seq (by rfl) T.len PySem.boot_len (pa_cons (pv 0) pa_nil)) (pv 1) (nomark _)))))), ?_⟩
  refine r_ret ?_
  cases hR with
  | odd h n1 n2 => exact c_call (va_cons (val_var rfl) va_nil) ⟨_, rfl, .inl ⟨_, h, n1, n2, fun H1 s1 => ⟨_, rfl, iteF (k H1 s1)⟩⟩⟩
  | @seq a xs bs h l r =>
    refine c_call (va_cons (val_var rfl) va_nil) ⟨_, rfl, .inr ⟨_, _, _, rfl, h, l, r, fun H1 s1 => ⟨_, rfl, ?_⟩⟩⟩
    cases hb : bs.all id with
    | false =>
      rw [hb] at k
      exact iteF (k H1 s1)
    | true =>
      rw [hb] at k
      refine iteT ((v_eq (v_len (val_var rfl) (h.same s1).sq) (val_var rfl) rfl) _ ?_)
      have e : decide ((V.int (xs.length : Int)) = V.int 2) = (true && decide (xs.length = 2)) := by
        rw [Bool.true_and]
        refine decide_eq_decide.mpr ⟨fun z => ?_, fun z => by rw [z]; rfl⟩
        have := V.int.inj z
        omega
      rw [e]
      exact k H1 s1
def spPl : Sp := fun vs H Q _ => ∃ (v : V) (b : Bool), vs = [v] ∧ PlQ H v b ∧ ∀ H', L2.Same H H' → Q (.bl b) H'
theorem ok_is_place (T : Txt K mg) : FnOk P w K mg base CX0 7 (fA mg "is_place") (fDat K (fA mg "is_place")) ["value"] spPl := by
  have Gis_row_of := ok_is_row_of (P := P) (w := w) (base := base) T
  refine T.is_place.F.ok scis_place (fun vs H Q E h => ?_) (fun cdv A outer s H vs Q E hr h => ?_)
  · obtain ⟨v, b, rfl, _⟩ := h
    rfl
  obtain ⟨v, b, rfl, hR, k⟩ := h
  refine ⟨_, (pss_one (ps_ret (pe_c T.is_row_of Gis_row_of (hr.mono (by decide)) (pa_cons (pv 0) (pa_cons pe_int pa_nil))))), ?_⟩
  exact r_ret (c_call (va_cons (val_var rfl) (va_cons val_c va_nil)) ⟨_, _, rfl, hR, k⟩)
/-- a place as passed, and as told -/
def PlR (H : Hp) (v : V) (p : Rat × Rat) : Prop := ∃ a x y, v = .ref a ∧ Sq H a [x, y] ∧ Rq H x p.1 ∧ Rq H y p.2
def PlL (H : Hp) (v : V) (p : Rat × Rat) : Prop := ∃ a x y, v = .ref a ∧ H a = some (.tup [.ref x, .ref y]) ∧ Lo H x p.1 ∧ Lo H y p.2
theorem PlR.same {H H' : Hp} {v : V} {p : Rat × Rat} (h : PlR H v p) (s : L2.Same H H') : PlR H' v p := by
  obtain ⟨a, x, y, e, q, r1, r2⟩ := h
  exact ⟨a, x, y, e, q.same s, r1.same s, r2.same s⟩
theorem PlL.same {H H' : Hp} {v : V} {p : Rat × Rat} (h : PlL H v p) (s : L2.Same H H') : PlL H' v p := by
  obtain ⟨a, x, y, e, q, r1, r2⟩ := h
  exact ⟨a, x, y, e, s _ _ q, r1.same s, r2.same s⟩
theorem PlR.yes {H : Hp} {v : V} {p : Rat × Rat} (h : PlR H v p) : PlQ H v true := by
  obtain ⟨a, x, y, rfl, q, r1, r2⟩ := h
  exact .seq q (by show 2 ≤ 1000; decide) (.cons r1.yes (.cons r2.yes .nil))
def spPair : Sp := fun vs H Q _ => ∃ (v : V) (q : Rat), vs = [v] ∧ Rq H v q ∧ ∀ p H', L2.Same H H' → Lo H' p q → Q (.ref p) H'
theorem ok_pair_of (T : Txt K mg) : FnOk P w K mg base (L2.CX P w) 7 (fA mg "pair_of") (fDat K (fA mg "pair_of")) ["value"] spPair := by
  have Gtold := ok_told (P := P) (w := w) (base := base) T
  refine T.pair_of.F.okX scpair_of (fun vs H Q E h => ?_) (fun cdv A outer s H vs Q E hr h => ?_)
  · obtain ⟨v, q, rfl, _⟩ := h
    rfl
  obtain ⟨v, q, rfl, r, k⟩ := h
  refine ⟨_, (pss_one (ps_ret (pe_call Gtold (hr.mono (by decide)) (by rfl) T.told.g T.told.F.kp T.told.b .nil (passes_call (takes_of rfl rfl rfl rfl) (fun _ _ _ _ h => h)) (pa_cons (pv 0) (pa_cons pe_str pa_nil))))), ?_⟩
  exact r_ret (c_told (va_cons (val_var rfl) (va_cons val_c va_nil)) r k)
def spPlace : Sp := fun vs H Q _ => ∃ (v : V) (p : Rat × Rat), vs = [v] ∧ PlR H v p ∧ ∀ v' H', L2.Same H H' → PlL H' v' p → (∀ a, v' = .ref a → H a = none) → Q v' H'
theorem ok_place_of (T : Txt K mg) : FnOk P w K mg base (L2.CX P w) 8 (fA mg "place_of") (fDat K (fA mg "place_of")) ["value"] spPlace := by
  have Gpair_of := ok_pair_of (P := P) (w := w) (base := base) T
  refine T.place_of.F.okX scplace_of (fun vs H Q E h => ?_) (fun cdv A outer s H vs Q E hr h => ?_)
  · obtain ⟨v, p, rfl, _⟩ := h
    rfl
  obtain ⟨v, p, rfl, ⟨a, x, y, rfl, q, r1, r2⟩, k⟩ := h
  refine ⟨_, (pss_one (ps_ret (pe_tup (pa_cons (pe_call Gpair_of (hr.mono (by decide)) (by rfl) T.pair_of.g T.pair_of.F.kp T.pair_of.b .nil (passes_call (takes_of rfl rfl rfl rfl) (fun _ _ _ _ h => h)) (pa_cons (pe_ix ix_seq (pv 0) pe_int (fun _ _ => rfl)) pa_nil)) (pa_cons (pe_call Gpair_of (hr.mono (by decide)) (by rfl) T.pair_of.g T.pair_of.F.kp T.pair_of.b .nil (passes_call (takes_of rfl rfl rfl rfl) (fun _ _ _ _ h => h)) (pa_cons (pe_ix ix_seq (pv 0) pe_int (fun _ _ => rfl)) pa_nil)) pa_nil))))), ?_⟩
  refine r_ret (tup_two (c_call (va_cons (v_ixS (n := 0) (val_var rfl) val_c q rfl) va_nil) ⟨x, p.1, rfl, r1, fun p1 H1 s1 l1 => ?_⟩))
  refine c_call (va_cons (v_ixS (n := 1) (val_var rfl) val_c (q.same s1) rfl) va_nil) ⟨y, p.2, rfl, r2.same s1, fun p2 H2 s2 l2 => ⟨by show 2 ≤ sizeLine; decide, fun t ht => ?_⟩⟩
  have s3 := Same.new' (o := .tup [.ref p1, .ref p2]) ht
  exact k _ _ ((s1.trans s2).trans s3) ⟨t, p1, p2, rfl, upd_same, (l1.same s2).same s3, l2.same s3⟩ fun a e => by
    cases e
    exact none_of (s1.trans s2) ht
/-! ### sides -/
theorem sl_or {X : Cx} : SlR X (fun x lo hi H Q => rSlL X.K x lo hi H Q ∨ rSlT X.K x lo hi H Q) := fun pins s σ H x v vl vu lo hi sl Q I rx hs pl pu h => h.elim (fun z => sl_list pins s σ H x v vl vu lo hi sl Q I rx hs pl pu z) fun z => sl_tup pins s σ H x v vl vu lo hi sl Q I rx hs pl pu z
theorem op_catLT {X : Cx} : OpR X (binaryOp .Add) (fun x y H Q => rCat x y H Q ∨ rCatT X.K x y H Q) := fun pins s σ H x y v u Q I rx ry h => h.elim (fun z => op_cat pins s σ H x y v u Q I rx ry z) fun z => op_catT pins s σ H x y v u Q I rx ry z
def rot {α : Type} (xs : List α) : List α := xs.drop 1 ++ xs.take 1
theorem rot_len {α : Type} (xs : List α) : (rot xs).length = xs.length := by
  unfold rot
  rw [List.length_append, List.length_drop, List.length_take]
  omega
theorem cut_hi (xs : List V) : cutV xs none (some 1) = xs.take 1 := by
  unfold cutV
  show (xs.drop 0).take (HT.sIx xs.length xs.length (some ((1 : Nat) : Int)) - 0) = _
  rw [HT.sIx_nat, List.drop_zero, Nat.sub_zero]
  cases xs with
  | nil => rfl
  | cons x xs => simp
theorem cut_lo (xs : List V) : cutV xs (some 1) none = xs.drop 1 := by
  unfold cutV
  show (xs.drop (HT.sIx xs.length 0 (some ((1 : Nat) : Int)))).take (xs.length - HT.sIx xs.length 0 (some ((1 : Nat) : Int))) = _
  rw [HT.sIx_nat]
  cases xs with
  | nil => rfl
  | cons x xs =>
    have : min 1 (x :: xs).length = 1 := by simp
    rw [this]
    refine List.take_of_length_le ?_
    rw [List.length_drop]
    exact Nat.le_refl _
/-- pairs of neighbors, as values -/
def Sds (H : Hp) (xs zs : List V) : Prop := zs.length = xs.length ∧ ∀ (i : Nat) (x y : V), xs[i]? = some x → (rot xs)[i]? = some y → ∃ T, zs[i]? = some (.ref T) ∧ H T = some (.tup [x, y])
theorem lz_in {t1 t2 : TE} {σ : L2.St} {H : Hp} {Q : VK} (h : t1 σ H fun v H1 => t2 σ H1 fun w H2 => ∃ (a b : Addr) (xs ys : List V), [v, w] = [.ref a, .ref b] ∧ ((SqL K H2 a xs ∧ SqL K H2 b ys) ∨ (SqT K H2 a xs ∧ SqT K H2 b ys)) ∧ xs.length = ys.length ∧ xs.length ≤ 100000 ∧
    ∀ (d : Addr) (zs : List V) (H3 : Hp), L2.Same H2 H3 → H2 d = none → H3 d = some (.lst zs) → ZL.Zs H2 H3 xs ys zs → Q (.ref d) H3) : ZL.tLz K (tCons t1 (tCons t2 tNil)) σ H Q := h
theorem op_in {r : R2} {ta tb : TE} {σ : L2.St} {H : Hp} {Q : VK} (h : ta σ H fun x H1 => tb σ H1 fun y H2 => r x y H2 Q) : tOp r ta tb σ H Q := h
theorem slo {te : TE} {σ : L2.St} {H : Hp} {Q : VK} {v : V} {n : Int} {r : V → Option Int → Option Int → Hp → VK → Prop} (h : Val te σ H v) (q : r v (some n) none H Q) : tSl r te (tPart (tC (.int n))) tNoPart σ H Q := h _ ⟨n, rfl, q⟩
theorem shi {te : TE} {σ : L2.St} {H : Hp} {Q : VK} {v : V} {n : Int} {r : V → Option Int → Option Int → Hp → VK → Prop} (h : Val te σ H v) (q : r v none (some n) H Q) : tSl r te tNoPart (tPart (tC (.int n))) σ H Q := h _ ⟨n, rfl, q⟩
def spSides (K : PySem.W.Frag) : Sp := fun vs H Q _ => ∃ (a : Addr) (xs : List V), vs = [.ref a] ∧ Sq H a xs ∧ 2 ≤ xs.length ∧ xs.length ≤ 1000 ∧ ∀ l zs H', L2.Same H H' → H' l = some (.lst zs) → Sds H' xs zs → Q (.ref l) H'
theorem ok_sides_of (T : Txt K mg) : FnOk P w K mg base CX0 1 (fA mg "sides_of") (fDat K (fA mg "sides_of")) ["places"] (spSides K) := by
  refine T.sides_of.F.ok scsides_of (fun vs H Q E h => ?_) (fun cdv A outer s H vs Q E hr h => ?_)
  · obtain ⟨a, xs, rfl, _⟩ := h
    rfl
  obtain ⟨a, xs, rfl, hS, h2, hl, k⟩ := h
  refine ⟨_, (pss_one (ps_ret (ZL.pe_listZip (by rfl) (by rfl) T.zip (by rfl) T.list (pa_cons (pv 0) (pa_cons (pe_op op_catLT (pe_slice sl_or (pv 0) (po_some pe_int) po_none) (pe_slice sl_or (pv 0) po_none (po_some pe_int))) pa_nil))))), ?_⟩
  have n1 : xs.drop 1 ≠ [] := fun z => by
    have e : xs.length - 1 = 0 := by rw [← List.length_drop, z]; rfl
    omega
  have n2 : xs.take 1 ≠ [] := fun z => by
    have e : min 1 xs.length = 0 := by rw [← List.length_take, z]; rfl
    omega
  refine r_ret (lz_in ((val_var rfl) _ (op_in ?_)))
  rcases hS with e | e
  · refine slo (val_var rfl) (Or.inl ⟨a, xs, rfl, SqL.of e, fun p hp => ?_⟩)
    rw [cut_lo]
    have s1 := Same.new' (o := .lst (xs.drop 1)) hp
    refine shi (val_var rfl) (Or.inl ⟨a, xs, rfl, SqL.of (s1 _ _ e), fun p2 hp2 => ?_⟩)
    rw [cut_hi]
    have s2 := Same.new' (o := .lst (xs.take 1)) hp2
    refine Or.inl ⟨p, p2, _, _, rfl, rfl, s2 _ _ upd_same, upd_same, by rw [List.length_drop, List.length_take]; exact Nat.le_trans (by omega) (show 1000 ≤ sizeLine by decide), fun p3 hp3 => ?_⟩
    have s3 := Same.new' (o := .lst (xs.drop 1 ++ xs.take 1)) hp3
    exact ⟨a, p3, xs, _, rfl, .inl ⟨SqL.of (s3 _ _ (s2 _ _ (s1 _ _ e))), SqL.of upd_same⟩, (rot_len xs).symm, by omega, fun d zs H2 s4 hd hz Z => k d zs H2 (((s1.trans s2).trans s3).trans s4) hz ⟨Z.1, fun i x y hx hy => let ⟨T, h1, _, h3⟩ := Z.2 i x y hx hy; ⟨T, h1, h3⟩⟩⟩
  · refine slo (val_var rfl) (Or.inr ⟨a, xs, rfl, SqT.of e, fun z => ?_, fun p hp => ?_⟩)
    · have : HT.sIx xs.length 0 (some ((1 : Nat) : Int)) = 0 := z.1
      rw [HT.sIx_nat] at this
      omega
    rw [cut_lo]
    have s1 := Same.new' (o := .tup (xs.drop 1)) hp
    refine shi (val_var rfl) (Or.inr ⟨a, xs, rfl, SqT.of (s1 _ _ e), fun z => ?_, fun p2 hp2 => ?_⟩)
    · have : HT.sIx xs.length xs.length (some ((1 : Nat) : Int)) = xs.length := z.2
      rw [HT.sIx_nat] at this
      omega
    rw [cut_hi]
    have s2 := Same.new' (o := .tup (xs.take 1)) hp2
    refine Or.inr ⟨p, p2, _, _, rfl, rfl, SqT.of (s2 _ _ upd_same), SqT.of upd_same, n1, by rw [List.length_drop, List.length_take]; exact Nat.le_trans (by omega) (show 1000 ≤ sizeLine by decide), fun z => (n2 z).elim, fun _ p3 hp3 => ?_⟩
    have s3 := Same.new' (o := .tup (xs.drop 1 ++ xs.take 1)) hp3
    exact ⟨a, p3, xs, _, rfl, .inr ⟨SqT.of (s3 _ _ (s2 _ _ (s1 _ _ e))), SqT.of upd_same⟩, (rot_len xs).symm, by omega, fun d zs H2 s4 hd hz Z => k d zs H2 (((s1.trans s2).trans s3).trans s4) hz ⟨Z.1, fun i x y hx hy => let ⟨T, h1, _, h3⟩ := Z.2 i x y hx hy; ⟨T, h1, h3⟩⟩⟩
end
end LW

namespace LW
open PySem PySem.Spec PyProof.Rows L2 GL
section
variable {P : Program} {w : World} {K : PySem.W.Frag} {mg : Str → Option Value} {base : Heap}

def pr (x y : Int) : PyData := .tuple [.int x, .int y]
def plD (p : Rat × Rat) : PyData := .tuple [pr p.1.num (p.1.den : Int), pr p.2.num (p.2.den : Int)]
theorem lo_dp {H : Hp} {p : Addr} {q : Rat} (h : Lo H p q) : Dp K H (.ref p) (pr q.num (q.den : Int)) := .tup (SqT.of h) (.cons (.int _) (.cons (.int _) .nil))
theorem pl_dp {H : Hp} {v : V} {p : Rat × Rat} (h : PlL H v p) : Dp K H v (plD p) := by
  obtain ⟨a, x, y, rfl, e, l1, l2⟩ := h
  exact .tup (SqT.of e) (.cons (lo_dp l1) (.cons (lo_dp l2) .nil))
theorem pr_eqv (x y : Rat) : PyData.eqv (pr x.num (x.den : Int)) (pr y.num (y.den : Int)) = decide (x = y) := by
  simp only [pr, PyData.eqv, PyData.eqvAll, Bool.and_true]
  by_cases h : x = y
  · subst h; simp
  · have : ¬ (x.num = y.num ∧ x.den = y.den) := fun z => h (Rat.ext z.1 z.2)
    simp [h]
    intro h1 h2
    exact this ⟨h1, by omega⟩
theorem pl_eqv (p q : Rat × Rat) : PyData.eqv (plD p) (plD q) = decide (p = q) := by
  show (PyData.eqv (pr p.1.num (p.1.den : Int)) (pr q.1.num (q.1.den : Int)) && (PyData.eqv (pr p.2.num (p.2.den : Int)) (pr q.2.num (q.2.den : Int)) && true)) = _
  rw [pr_eqv, pr_eqv, Bool.and_true]
  by_cases h1 : p.1 = q.1 <;> by_cases h2 : p.2 = q.2 <;> simp [h1, h2, Prod.ext_iff]
theorem pl_shaped (p : Rat × Rat) : SeqAt.shaped (plD p) = true := by
  refine Bool.and_eq_true_iff.mpr ⟨by simp [plD, pr, PyData.canLay0, PyData.canLayAll0], decide_eq_true ?_⟩
  simp [plD, pr, PyData.depth, PyData.depthAll]
/-- no closed row of places -/
def NoCl (H : Hp) (v : V) : Prop := (∃ n, Is H v n ∧ n ≠ "list" ∧ n ≠ "tuple") ∨ ∃ (a : Addr) (xs : List V) (bs : List Bool), v = .ref a ∧ Sq H a xs ∧ xs.length ≤ 1000 ∧ All2 (PlQ H) xs bs ∧ (xs.length < 2 ∨ bs.all id = false)
/-- pairs of neighbors -/
def sidesR {α : Type} (ps : List α) : List (α × α) := List.zip ps (rot ps)
def spClosed : Sp := fun vs H Q _ => ∃ v, vs = [v] ∧ ((NoCl H v ∧ ∀ H', L2.Same H H' → Q .non H') ∨ ∃ (a : Addr) (xs : List V) (ps : List (Rat × Rat)), v = .ref a ∧ Sq H a xs ∧ All2 (PlR H) xs ps ∧ 2 ≤ xs.length ∧ xs.length ≤ 100 ∧
  ((∀ s ∈ sidesR ps, s.1 ≠ s.2) → ∀ t vs H', L2.Same H H' → H' t = some (.tup vs) → All2 (PlL H') vs ps → Q (.ref t) H') ∧ ((∃ s ∈ sidesR ps, s.1 = s.2) → ∀ H', L2.Same H H' → Q .non H'))
theorem q_ifOr3 {σ : L2.St} {H : Hp} {t u x : TT} {t1 tz : TS} {D : Ends} (h : t σ H fun c H1 => if (!c) = true then (if true = true then t1 { D with nx := tz D } σ H1 else tz D σ H1) else
    u σ H1 fun b H2 => if b = true then (if true = true then t1 { D with nx := tz D } σ H2 else tz D σ H2) else x σ H2 fun d H3 => if (!d) = true then t1 { D with nx := tz D } σ H3 else tz D σ H3) :
    tSeq (tIfS (tOr (tNot t) (tOr u (tNot x))) t1 tNext) tz D σ H := h
theorem all2_split {H : Hp} {vs : List V} {ps : List (Rat × Rat)} (h : All2 (PlL H) vs ps) {i : Nat} {v : V} (e : vs[i]? = some v) : ∃ p, ps[i]? = some p ∧ PlL H v p := h.get e
theorem rot_get {α β : Type} {R : α → β → Prop} {as : List α} {bs : List β} (h : All2 R as bs) : All2 R (rot as) (rot bs) := by
  have dr : ∀ {as : List α} {bs : List β}, All2 R as bs → All2 R (as.drop 1) (bs.drop 1) := fun h => by
    cases h with
    | nil => exact .nil
    | cons _ t => exact t
  have tk : ∀ {as : List α} {bs : List β}, All2 R as bs → All2 R (as.take 1) (bs.take 1) := fun h => by
    cases h with
    | nil => exact .nil
    | cons r t => exact .cons r .nil
  have ap : ∀ {as as' : List α} {bs bs' : List β}, All2 R as bs → All2 R as' bs' → All2 R (as ++ as') (bs ++ bs') := fun h1 h2 => by
    induction h1 with
    | nil => exact h2
    | cons r _ ih => exact .cons r ih
  exact ap (dr h) (tk h)
theorem zip_get {α β : Type} {xs : List α} {ys : List β} {i : Nat} {x : α} {y : β} (h1 : xs[i]? = some x) (h2 : ys[i]? = some y) : (List.zip xs ys)[i]? = some (x, y) := by
  rw [List.getElem?_zip_eq_some]
  exact ⟨h1, h2⟩
theorem l_lcCall2 {sp : Sp} {E : XK} {ta : TA} {ws : List V} {σ : L2.St} {H : Hp} {g : TG} {te : TE} {vs : List Nat} {Q : VK} (h : VA ta σ H ws) (q : ∀ Q' : VK, (∀ a H1, tLc (iList K (tC (.ref a))) g tYes te vs σ H1 Q → Q' (.ref a) H1) → sp ws H Q' E) : tLc (iList K (tCall sp [] E ta)) g tYes te vs σ H Q :=
  c_call h (q _ fun a H1 z => z)
theorem ok_closed_row_of (T : Txt K mg) : FnOk P w K mg base CX0 9 (fA mg "closed_row_of") (fDat K (fA mg "closed_row_of")) ["value"] spClosed := by
  have Gis_place := ok_is_place (P := P) (w := w) (base := base) T
  have Gplace_of := ok_place_of (P := P) (w := w) (base := base) T
  have Gsides_of := ok_sides_of (P := P) (w := w) (base := base) T
  refine T.closed_row_of.F.ok scclosed_row_of (fun vs H Q E h => ?_) (fun cdv A outer s H vs Q E hr h => ?_)
  · obtain ⟨v, rfl, _⟩ := h
    rfl
  obtain ⟨v, rfl, h⟩ := h
  refine ⟨_, (pss_cons (ps_if (PW.pt (pw_or (pt_not (pt_val (pe_callB call_isiT (by rfl) T.isinstance (by decide +kernel) (pa_cons (pv 0) (pa_cons (pe_tup (pa_cons (pe_bltn (v := .ty "tuple") (by rfl) T.tuple (by decide +kernel) rfl) (pa_cons (pe_bltn (v := .ty "list") (by rfl) T.list (by decide +kernel) rfl) pa_nil))) pa_nil))))) (pw_or (pt_cmpR op_lt (pe_callB call_len_seq (by rfl) T.len PySem.boot_len (pa_cons (pv 0) pa_nil)) pe_int (nomark _)) (pw_or1 (pt_not (pt_val (pe_callB (cr_all rfl) (by rfl) T.all (by decide +kernel) (pa_cons (pe_lc (own := [("place", 1)]) (g := gName 1) (tt := tYes) (by rfl) scclosed_row_of.nd (pi_or (pi_list (pv 0)) (pi_tup (pv 0))) (blkOk_by (own := [("place", 1)]) (N := ["value", "place", "places", "start", "end"]) (sc := defScope sclosed_row_of) (by decide +kernel)) (fun _ _ _ _ _ => pg_name (i := 1) scclosed_row_of.nd rfl (Or.inl rfl)) (fun _ _ _ _ _ => pts_nil) (fun _ _ _ _ _ => (pe_c T.is_place Gis_place (hr.mono (by decide)) (pa_cons (pv 1) pa_nil)))) pa_nil)))))))) (pss_one (ps_ret pe_non)) pss_nil)
  (pss_cons (ps_set (i := 2) scclosed_row_of.nd rfl (Or.inl rfl) (pe_callTy call_tuple_of (by rfl) T.tuple (by decide +kernel) (pa_cons (pe_lc (own := [("place", 1)]) (g := gName 1) (tt := tYes) (by rfl) scclosed_row_of.nd (pi_or (pi_list (pv 0)) (pi_tup (pv 0))) (blkOk_by (own := [("place", 1)]) (N := ["value", "place", "places", "start", "end"]) (sc := defScope sclosed_row_of) (by decide +kernel)) (fun _ _ _ _ _ => pg_name (i := 1) scclosed_row_of.nd rfl (Or.inl rfl)) (fun _ _ _ _ _ => pts_nil) (fun _ _ _ _ _ => (pe_call Gplace_of (hr.mono (by decide)) (by rfl) T.place_of.g T.place_of.F.kp T.place_of.b .nil passL (pa_cons (pv 1) pa_nil)))) pa_nil)))
  (pss_one (ps_ret (pe_ifExp (pt_val (pe_callB (cr_all rfl) (by rfl) T.all (by decide +kernel) (pa_cons (pe_lc (own := [("start", 3), ("end", 4)]) (g := gTup K 2 (gCons (gName 3) (gCons (gName 4) gNil))) (tt := tYes) (by rfl) scclosed_row_of.nd (pi_list (pe_c T.sides_of Gsides_of (hr.mono (by decide)) (pa_cons (pv 2) pa_nil))) (blkOk_by (own := [("start", 3), ("end", 4)]) (N := ["value", "place", "places", "start", "end"]) (sc := defScope sclosed_row_of) (by decide +kernel)) (fun _ _ _ _ _ => pg_tup rfl (pgs_cons (pg_name (i := 3) scclosed_row_of.nd rfl (Or.inl rfl)) (pgs_cons (pg_name (i := 4) scclosed_row_of.nd rfl (Or.inl rfl)) pgs_nil))) (fun _ _ _ _ _ => pts_nil) (fun _ _ _ _ _ => (pe_cmpR (show OpR _ _ (rNeD K) from op_neD (hu64 hr)) (pv 3) (pv 4) (nomark _)))) pa_nil))) (pv 2) pe_non))))), ?_⟩
  have both : ∀ {n : String} {Q' : Bool → Hp → Prop}, Is H v n → (∀ H2, L2.Same H H2 → Q' (decide (n = "tuple") || decide (n = "list")) H2) →
      tB (tCB (rIsiT K) (tCons (tVar 0) (tCons (tTup (tCons (tC (.ty "tuple")) (tCons (tC (.ty "list")) tNil))) tNil))) [some v, none, none, none, none] H Q' := fun {n Q'} i q =>
    ⟨v, rfl, ⟨by show 2 ≤ sizeLine; decide, fun p hp => ⟨v, p, [.ty "tuple", .ty "list"], _, [.type "tuple", .type "list"], _, rfl, upd_same, .cons (.ty _) (.cons (.ty _) .nil), (i.same (Same.new' hp)).ty.1, kit_seq (i.ty (K := K)).2, _, rfl, q _ (Same.new' hp)⟩⟩⟩
  -- all(is_place ..)
  have test : ∀ {a : Addr} {xs : List V} {bs : List Bool} {H1 : Hp} {Q' : Bool → Hp → Prop}, v = .ref a → Sq H1 a xs → xs.length ≤ 1000 → All2 (PlQ H1) xs bs → (∀ H2, L2.Same H1 H2 → Q' (bs.all id) H2) →
      tB (tCB (rAll K) (tCons (tLc (fun σ H R => iList K (tVar 0) σ H R ∨ iTup K (tVar 0) σ H R) (gName 1) tYes (tCall spPl [] E0 (tCons (tVar 1) tNil)) [1]) tNil)) [some v, none, none, none, none] H1 Q' := fun {a xs bs H1 Q'} ev hS hl hR q => by
    subst ev
    refine cb_one (Q := fun x H2 => ∃ c, x = .bl c ∧ Q' c H2) (l_lcS (R := fun i v _ => ∃ b, bs[i]? = some b ∧ v = V.bl b) (fun _ _ _ _ _ h => h) (fun _ _ _ _ _ _ h _ => h) (val_var rfl) hS.seq (by omega) (fun i x H3 e s3 => turn_name rfl fun Q q => ?_) (fun p ys H4 s4 e4 r4 => ⟨p, bs, rfl, ?_, _, rfl, q H4 s4⟩))
    · obtain ⟨b, hb, rb⟩ := hR.get e
      exact c_call (va_cons (val_var rfl) va_nil) ⟨x, b, rfl, rb.same s3, fun H' s' => q _ H' s' ⟨b, hb, rfl⟩⟩
    · rw [← rows_map r4 hR.len.symm]
      exact SqL.of e4
  rcases h with ⟨no, k⟩ | ⟨a, xs, ps, rfl, hS, hR, l2, lm, k1, k2⟩
  · refine q_ifOr3 ?_
    rcases no with ⟨n, i, n1, n2⟩ | ⟨a, xs, bs, rfl, hS, hl, hR, bad⟩
    · refine both i fun H2 s2 => ?_
      rw [decide_eq_false n2, decide_eq_false n1]
      exact iteT (iteT (st_ret val_c (k H2 s2)))
    · obtain ⟨n, i, o⟩ := hS.is
      refine both i fun H2 s2 => ?_
      have e : (decide (n = "tuple") || decide (n = "list")) = true := by rcases o with rfl | rfl <;> decide
      rw [e]
      refine iteF ?_
      have S2 := hS.same s2
      by_cases h2 : xs.length < 2
      · refine (a_I (i := (xs.length : Int)) (j := 2) (v_len (K := K) (val_var rfl) S2.sq) val_c) _ ?_
        rw [decide_eq_true (by omega)]
        exact iteT (iteT (st_ret val_c (k H2 s2)))
      · refine (a_I (i := (xs.length : Int)) (j := 2) (v_len (K := K) (val_var rfl) S2.sq) val_c) _ ?_
        rw [decide_eq_false (by omega)]
        refine iteF (test rfl S2 hl (hR.imp fun _ _ q => q.same s2) fun H3 s3 => ?_)
        rw [bad.resolve_left h2]
        exact iteT (st_ret val_c (k H3 (s2.trans s3)))
  · refine q_ifOr3 ?_
    obtain ⟨n, i, o⟩ := hS.is
    refine both i fun H2 s2 => ?_
    have e : (decide (n = "tuple") || decide (n = "list")) = true := by rcases o with rfl | rfl <;> decide
    rw [e]
    refine iteF ?_
    have S2 := hS.same s2
    refine (a_I (i := (xs.length : Int)) (j := 2) (v_len (K := K) (val_var rfl) S2.sq) val_c) _ ?_
    rw [decide_eq_false (by omega)]
    have hB : All2 (PlQ H2) xs (xs.map fun _ => true) := All2.mk (by rw [List.length_map]) fun i v b hv hb => by
      obtain ⟨p, _, r⟩ := hR.get hv
      rw [List.getElem?_map, hv] at hb
      cases hb
      exact r.yes.same s2
    refine iteF (test rfl S2 (by omega) hB fun H3 s3 => ?_)
    rw [show ((xs.map fun _ => true).all id) = true by clear hB hR S2 hS; induction xs <;> simp_all]
    refine iteF ?_
    have S3 := S2.same s3
    have s23 := s2.trans s3
    refine q_asg (cb_one (l_lcS (R := fun i v H => ∃ p, ps[i]? = some p ∧ PlL H v p) (fun i v H1 H2 s ⟨p, h1, h2⟩ => ⟨p, h1, h2.same s⟩) (fun k v H D ys zs ⟨p, h1, a, x, y, h2, h3, h4, h5⟩ e => ⟨p, h1, a, x, y, h2, ?_, ?_, ?_⟩) (val_var rfl) S3.seq (by omega) (fun i x H4 e s4 => turn_name rfl fun Q q => ?_) (fun p ys H4 s4 e4 r4 => ⟨p, ys, rfl, .inl ⟨SqL.of e4, fun t ht => ?_⟩⟩)))
    · rw [upd_ne (fun z => by rw [z, e] at h3; cases h3)]; exact h3
    · show upd H D _ _ = _
      rw [upd_ne (fun z => by rw [z] at h4; unfold Lo at h4; rw [e] at h4; cases h4)]; exact h4
    · show upd H D _ _ = _
      rw [upd_ne (fun z => by rw [z] at h5; unfold Lo at h5; rw [e] at h5; cases h5)]; exact h5
    · obtain ⟨p, hp, r⟩ := hR.get e
      exact c_call (va_cons (val_var rfl) va_nil) ⟨x, p, rfl, (r.same s23).same s4, fun v' H' s' pl _ => q _ H' s' ⟨p, hp, pl⟩⟩
    · have s5 := Same.new' (o := .tup ys) ht
      have al : All2 (PlL (upd H4 t (.tup ys))) ys ps := All2.mk (by rw [r4.2, hR.len]) fun i v q hv hq => by
        obtain ⟨p, hp, pl⟩ := r4.1.get hv
        rw [Nat.zero_add] at hp
        rw [hp] at hq
        cases hq
        exact pl.same s5
      generalize hHH : upd H4 t (.tup ys) = HH at s5 al
      have et : HH t = some (.tup ys) := by rw [← hHH]; exact upd_same
      have sA : L2.Same H HH := (s23.trans s4).trans s5
      have ly : ys.length = xs.length := r4.2
      refine r_ret (show tIf _ _ _ _ _ _ from ?_)
      refine cb_one (Q := fun x H2 => ∃ c, x = .bl c ∧ _) (l_lcCall2 (va_cons (val_var rfl) va_nil) fun Q' q' => ⟨t, ys, rfl, .inr et, by omega, by omega, fun l zs H5 s5' e5 sd => q' _ _ ?_⟩)
      have al5 : All2 (PlL H5) ys ps := al.imp fun _ _ q => q.same s5'
      refine l_lcL (R := fun i v _ => ∃ b, ((sidesR ps).map fun s => !decide (s.1 = s.2))[i]? = some b ∧ v = V.bl b) (fun _ _ _ _ _ h => h) (fun _ _ _ _ _ _ h _ => h) val_c (SqL.of e5) (by rw [sd.1]; omega) (fun i z H6 hz s6 => ?_) (fun p2 bs H6 s6 e6 r6 => ⟨p2, ((sidesR ps).map fun s => !decide (s.1 = s.2)), rfl, ?_, _, rfl, ?_⟩)
      · have hi : i < ys.length := by rw [← sd.1]; exact (List.getElem?_eq_some_iff.mp hz).1
        have hx : ys[i]? = some ys[i] := List.getElem?_eq_getElem hi
        have hy : (rot ys)[i]? = some ((rot ys)[i]'(by rw [rot_len]; exact hi)) := List.getElem?_eq_getElem _
        obtain ⟨U, eU, hU⟩ := sd.2 i _ _ hx hy
        rw [hz] at eU
        cases eU
        obtain ⟨p, hp, plp⟩ := al5.get hx
        obtain ⟨p', hp', plp'⟩ := (rot_get al5).get hy
        refine turn_two (SqT.of (s6 _ _ hU)) rfl fun Q q => ?_
        refine op_in ((val_var rfl) _ ((val_var rfl) _ ⟨_, _, pl_dp (plp.same s6), pl_dp (plp'.same s6), pl_shaped _, pl_shaped _, ?_⟩))
        rw [pl_eqv]
        refine q _ H6 (L2.Same.refl _) ⟨_, ?_, rfl⟩
        rw [List.getElem?_map, show (sidesR ps)[i]? = some (p, p') from zip_get hp hp']
        rfl
      · have len : ((sidesR ps).map fun s => !decide (s.1 = s.2)).length = zs.length := by
          unfold sidesR
          rw [List.length_map, List.length_zip, rot_len, Nat.min_self, sd.1, ly, hR.len]
        rw [← rows_map r6 len]
        exact SqL.of e6
      · have sB := (sA.trans s5').trans s6
        by_cases hc : ∀ s ∈ sidesR ps, s.1 ≠ s.2
        · rw [show ((sidesR ps).map fun s => !decide (s.1 = s.2)).all id = true from by
            rw [List.all_map, List.all_eq_true]
            intro s hs
            simp [hc s hs]]
          exact iteT ((val_var rfl) _ (k1 hc t ys H6 sB (s6 _ _ (s5' _ _ et)) (al5.imp fun _ _ q => q.same s6)))
        · have ⟨s, hs, he⟩ : ∃ s ∈ sidesR ps, s.1 = s.2 := by
            apply Classical.byContradiction
            intro z
            exact hc fun s hs e => z ⟨s, hs, e⟩
          rw [show ((sidesR ps).map fun s => !decide (s.1 = s.2)).all id = false from by
            rw [List.all_map, List.all_eq_false]
            exact ⟨s, hs, by simp [he]⟩]
          exact iteF (k2 ⟨s, hs, he⟩ H6 sB)
end
end LW

namespace LW
open PySem PySem.Spec PyProof.Rows L2 GL
section
variable {P : Program} {w : World} {K : PySem.W.Frag} {mg : Str → Option Value} {base : Heap}

/-! ### the grid -/
theorem q_two {te : TE} {i j : Nat} {tz : TS} {D : Ends} {σ : L2.St} {H : Hp} (h : te σ H fun v H1 => gTup K 2 (gCons (gName i) (gCons (gName j) gNil)) v σ H1 fun σ2 H2 => tz D σ2 H2) : tSeq (tAsg te (gTup K 2 (gCons (gName i) (gCons (gName j) gNil)))) tz D σ H := h
theorem q_par {ta : TA} {tz : TS} {D : Ends} {σ : L2.St} {H : Hp} {i j : Nat} (h : ta σ H fun vs H1 => ∃ v w, vs = [v, w] ∧ tz D ((σ.set i (some v)).set j (some w)) H1) : tSeq (tPar i j ta) tz D σ H := h
def sc (D : Nat) (q : Rat) : Int := q.num * ((D / q.den : Nat) : Int)
def Grid (H : Hp) (Dx Dy : Nat) (v : V) (p : Rat × Rat) : Prop := ∃ T, v = .ref T ∧ H T = some (.tup [.int (sc Dx p.1), .int (sc Dy p.2)])
theorem Grid.same {H H' : Hp} {Dx Dy : Nat} {v : V} {p : Rat × Rat} (h : Grid H Dx Dy v p) (s : L2.Same H H') : Grid H' Dx Dy v p := by
  obtain ⟨T, e, t⟩ := h
  exact ⟨T, e, s _ _ t⟩
theorem Grid.upd {H : Hp} {Dx Dy : Nat} {v : V} {p : Rat × Rat} {F : Addr} {xs : List V} {o : HO} (h : Grid H Dx Dy v p) (e : H F = some (.lst xs)) : Grid (upd H F o) Dx Dy v p := by
  obtain ⟨T, e1, t⟩ := h
  refine ⟨T, e1, ?_⟩
  rw [upd_ne (fun z => by rw [z, e] at t; cases t)]
  exact t
def GridRow (H : Hp) (Dx Dy : Nat) (v : V) (ps : List (Rat × Rat)) : Prop := ∃ f ts, v = .ref f ∧ H f = some (.lst ts) ∧ All2 (Grid H Dx Dy) ts ps
/-- rows of places as told -/
def RowsL (K : PySem.W.Frag) (H : Hp) (rows : List V) (pss : List (List (Rat × Rat))) : Prop := All2 (fun v ps => ∃ r ls, v = .ref r ∧ Seq K H r ls ∧ All2 (PlL H) ls ps) rows pss
def spGrid (K : PySem.W.Frag) : Sp := fun vs H Q _ => ∃ (R : Addr) (rows : List V) (pss : List (List (Rat × Rat))) (n : Nat), vs = [.ref R] ∧ H R = some (.lst rows) ∧ RowsL K H rows pss ∧ rows.length ≤ 100 ∧ pss.flatten.length ≤ 100 ∧ n * pss.flatten.length + n ≤ 900 ∧
  (∀ p ∈ pss.flatten, Sm n p.1 ∧ Sm n p.2) ∧ ∀ (Dx Dy : Nat) (F : Addr) (fs : List V) (H' : Hp), 0 < Dx → 0 < Dy → Dx ≤ 2 ^ (n * pss.flatten.length) → Dy ≤ 2 ^ (n * pss.flatten.length) → (∀ p ∈ pss.flatten, p.1.den ∣ Dx) → (∀ p ∈ pss.flatten, p.2.den ∣ Dy) → L2.Same H H' → H' F = some (.lst fs) → All2 (GridRow H' Dx Dy) fs pss → Q (.ref F) H'
theorem flat_at {α : Type} : ∀ {xss : List (List α)} {i k : Nat} {xs : List α} {x : α}, xss[i]? = some xs → xs[k]? = some x → xss.flatten[((xss.take i).map List.length).sum + k]? = some x
  | [], i, k, xs, x, h, _ => by simp at h
  | ys :: xss, 0, k, xs, x, h, hk => by
    simp at h
    subst h
    simp
    rw [List.getElem?_append_left (List.getElem?_eq_some_iff.mp hk).1]
    exact hk
  | ys :: xss, i + 1, k, xs, x, h, hk => by
    have ih := flat_at (xss := xss) (i := i) (by simpa using h) hk
    simp only [List.take_succ_cons, List.map_cons, List.sum_cons, List.flatten_cons]
    rw [Nat.add_assoc, List.getElem?_append_right (Nat.le_add_right _ _), Nat.add_sub_cancel_left]
    exact ih
theorem flat_len {α : Type} : ∀ xss : List (List α), xss.flatten.length = (xss.map List.length).sum
  | [] => rfl
  | xs :: xss => by rw [List.flatten_cons, List.length_append, flat_len xss, List.map_cons, List.sum_cons]
def offs {α : Type} (xss : List (List α)) (i : Nat) : Nat := ((xss.take i).map List.length).sum
theorem offs_all {α : Type} (xss : List (List α)) : offs xss xss.length = xss.flatten.length := by
  unfold offs
  rw [List.take_length, flat_len]
theorem offs_succ {α : Type} {xss : List (List α)} {i : Nat} {xs : List α} (h : xss[i]? = some xs) : offs xss (i + 1) = offs xss i + xs.length := by
  unfold offs
  rw [List.take_succ, List.map_append, List.sum_append, h]
  simp
theorem offs_le {α : Type} {xss : List (List α)} (i : Nat) : offs xss i ≤ xss.flatten.length := by
  rw [flat_len]
  unfold offs
  have e := List.take_append_drop i xss
  calc ((xss.take i).map List.length).sum ≤ ((xss.take i).map List.length).sum + ((xss.drop i).map List.length).sum := Nat.le_add_right _ _
    _ = (xss.map List.length).sum := by rw [← List.sum_append, ← List.map_append, e]
/-- the values of the rows, by their lengths -/
theorem vals_of {K : PySem.W.Frag} {H : Hp} {rows : List V} {pss : List (List (Rat × Rat))} (h : RowsL K H rows pss) : ∃ xss : List (List V), All2 (fun xs ps => All2 (PlL H) xs ps) xss pss ∧ rows.length = xss.length ∧ ∀ (i : Nat) (v : V) (xs : List V), rows[i]? = some v → xss[i]? = some xs → ∃ r, v = V.ref r ∧ Seq K H r xs := by
  unfold RowsL at h
  induction h with
  | nil => exact ⟨[], .nil, rfl, fun i v xs e => by simp at e⟩
  | cons h t ih =>
    obtain ⟨r, ls, rfl, q, al⟩ := h
    obtain ⟨xss, a, l, g⟩ := ih
    refine ⟨ls :: xss, .cons al a, by rw [List.length_cons, List.length_cons, l], fun i v xs e1 e2 => ?_⟩
    cases i with
    | zero => simp at e1 e2; subst e1 e2; exact ⟨r, rfl, q⟩
    | succ i => exact g i v xs (by simpa using e1) (by simpa using e2)
theorem off_eq {K : PySem.W.Frag} {H : Hp} {xss : List (List V)} {pss : List (List (Rat × Rat))} (h : All2 (fun xs ps => All2 (PlL H) xs ps) xss pss) (i : Nat) : off xss i = offs pss i := by
  unfold off offs
  induction h generalizing i with
  | nil => simp
  | cons r t ih =>
    cases i with
    | zero => rfl
    | succ i => simp only [List.take_succ_cons, List.map_cons, List.sum_cons, ih i, r.len]
theorem off_full {K : PySem.W.Frag} {H : Hp} {xss : List (List V)} {pss : List (List (Rat × Rat))} (h : All2 (fun xs ps => All2 (PlL H) xs ps) xss pss) : off xss xss.length = pss.flatten.length := by
  rw [off_eq (K := K) h, h.len, offs_all]
theorem ok_grid_of (T : Txt K mg) : FnOk P w K mg base CX0 4 (fA mg "grid_of") (fDat K (fA mg "grid_of")) ["rows"] (spGrid K) := by
  have Gwhole_row := ok_whole_row (P := P) (w := w) (base := base) T
  refine T.grid_of.F.ok scgrid_of (fun vs H Q E h => ?_) (fun cdv A outer s H vs Q E hr h => ?_)
  · obtain ⟨R, rows, pss, n, rfl, _⟩ := h
    rfl
  obtain ⟨R, rows, pss, n, rfl, hR, hL, hl, hN, hn, sm, k⟩ := h
  refine ⟨_, (pss_cons (ps_asg (pe_c T.whole_row Gwhole_row (hr.mono (by decide)) (pa_cons (pe_lc2 (own := [("row", 3), ("place", 4)]) (vs1 := [4]) (g := gName 3) (g1 := gName 4) (tt := tYes) (tt1 := tYes) (by rfl) scgrid_of.nd (pi_list (pv 0)) (blkOk_by (own := [("row", 3), ("place", 4)]) (N := ["rows", "wide", "_", "row", "place", "high", "points", "found", "start"]) (sc := defScope sgrid_of) (by decide +kernel)) (by decide) (fun _ _ _ _ _ => pg_name (i := 3) scgrid_of.nd rfl (Or.inl rfl)) (fun _ _ _ _ _ => pts_nil) (fun _ _ _ _ _ => (show PI _ _ _ (fun σ H R => iList K (tVar 3) σ H R ∨ iTup K (tVar 3) σ H R) from (pi_or (pi_list (pv 3)) (pi_tup (pv 3))))) (fun _ _ _ _ _ => pg_name (i := 4) scgrid_of.nd rfl (Or.inl rfl)) (fun _ _ _ _ _ => pts_nil) (fun _ _ _ _ _ => (pe_ix (show IxR _ (rIxT K) from ix_tup) (pv 4) pe_int (fun _ _ => rfl)))) pa_nil)) (pg_tup rfl (pgs_cons (pg_name (i := 1) scgrid_of.nd rfl (Or.inl rfl)) (pgs_cons (pg_name (i := 2) scgrid_of.nd rfl (Or.inl rfl)) pgs_nil))))
  (pss_cons (ps_asg (pe_c T.whole_row Gwhole_row (hr.mono (by decide)) (pa_cons (pe_lc2 (own := [("row", 3), ("place", 4)]) (vs1 := [4]) (g := gName 3) (g1 := gName 4) (tt := tYes) (tt1 := tYes) (by rfl) scgrid_of.nd (pi_list (pv 0)) (blkOk_by (own := [("row", 3), ("place", 4)]) (N := ["rows", "wide", "_", "row", "place", "high", "points", "found", "start"]) (sc := defScope sgrid_of) (by decide +kernel)) (by decide) (fun _ _ _ _ _ => pg_name (i := 3) scgrid_of.nd rfl (Or.inl rfl)) (fun _ _ _ _ _ => pts_nil) (fun _ _ _ _ _ => (show PI _ _ _ (fun σ H R => iList K (tVar 3) σ H R ∨ iTup K (tVar 3) σ H R) from (pi_or (pi_list (pv 3)) (pi_tup (pv 3))))) (fun _ _ _ _ _ => pg_name (i := 4) scgrid_of.nd rfl (Or.inl rfl)) (fun _ _ _ _ _ => pts_nil) (fun _ _ _ _ _ => (pe_ix (show IxR _ (rIxT K) from ix_tup) (pv 4) pe_int (fun _ _ => rfl)))) pa_nil)) (pg_tup rfl (pgs_cons (pg_name (i := 5) scgrid_of.nd rfl (Or.inl rfl)) (pgs_cons (pg_name (i := 2) scgrid_of.nd rfl (Or.inl rfl)) pgs_nil))))
  (pss_cons (ps_set (i := 6) scgrid_of.nd rfl (Or.inl rfl) (ZL.pe_listZip (by rfl) (by rfl) T.zip (by rfl) T.list (pa_cons (pv 1) (pa_cons (pv 5) pa_nil))))
  (pss_cons (ps_par (i := 7) (j := 8) (by rfl) scgrid_of.nd rfl rfl (by decide) rfl rfl (pa_cons (pe_lst pa_nil) (pa_cons pe_int pa_nil)) (by rfl))
  (pss_cons (ps_for PassesOwn.never rfl (pi_list (pv 0)) (pg_name (i := 3) scgrid_of.nd rfl (Or.inl rfl))
  (pss_cons (ps_expr (pe_bm PySem.F.plainAttrs_list PySem.F.slot_list_append PySem.F.type_list_append mt_append (pv 7) (pa_cons (pe_slice sl_list (pv 6) (po_some (pv 8)) (po_some (pe_op op_add (pv 8) (pe_callB call_len_seq (by rfl) T.len PySem.boot_len (pa_cons (pv 3) pa_nil))))) pa_nil)))
  (pss_one (ps_set (i := 8) scgrid_of.nd rfl (Or.inl rfl) (pe_op op_add (pv 8) (pe_callB call_len_seq (by rfl) T.len PySem.boot_len (pa_cons (pv 3) pa_nil)))))))
  (pss_one (ps_ret (pv 7)))))))), ?_⟩
  obtain ⟨xss, al, lx, rw_⟩ := vals_of hL
  have full := off_full (K := K) al
  have lp : rows.length = pss.length := by rw [lx, al.len]
  -- one of both rows of ratios
  have wide : ∀ {f : Rat × Rat → Rat} {j : Nat} {σ : L2.St} {H1 : Hp} {Q' : VK} (hj : j = 0 ∧ f = Prod.fst ∨ j = 1 ∧ f = Prod.snd), σ.length = 9 → σ[0]? = some (some (.ref R)) → L2.Same H H1 →
      (∀ (p l : Addr) (D : Nat) (H' : Hp), L2.Same H1 H' → 0 < D → D ≤ 2 ^ (n * pss.flatten.length) → (∀ p ∈ pss.flatten, (f p).den ∣ D) → H' p = some (.tup [.ref l, .int (D : Int)]) → H' l = some (.lst ((tops D (pss.flatten.map f)).map V.int)) → Q' (.ref p) H') →
      tCall spWhole [] E0 (tCons (tLc2 (iList K (tVar 0)) (gName 3) tYes (fun σ H R => iList K (tVar 3) σ H R ∨ iTup K (tVar 3) σ H R) (gName 4) tYes (tOp (rIxT K) (tVar 4) (tC (.int (j : Int)))) [3, 4] [4]) tNil) σ H1 Q' := by
    intro f j σ H1 Q' hj hσ h0 s1 q
    obtain ⟨x0, x1, x2, x3, x4, x5, x6, x7, x8, rfl⟩ : ∃ x0 x1 x2 x3 x4 x5 x6 x7 x8, σ = [x0, x1, x2, x3, x4, x5, x6, x7, x8] := by
      match σ, hσ with
      | [x0, x1, x2, x3, x4, x5, x6, x7, x8], _ => exact ⟨_, _, _, _, _, _, _, _, _, rfl⟩
    cases h0
    refine call_1 (l_lc2 (R := fun i v H2 => ∃ p, pss.flatten[i]? = some p ∧ ∃ a, v = .ref a ∧ Lo H2 a (f p)) (fun i v H2 H3 s ⟨p, h1, a, h2, h3⟩ => ⟨p, h1, a, h2, h3.same s⟩) (fun i v H2 D ys zs ⟨p, h1, a, h2, h3⟩ e => ⟨p, h1, a, h2, ?_⟩) (val_var rfl) (SqL.of (s1 _ _ hR)) lx (fun i v xs e1 e2 => ?_) (by rw [full]; omega) (fun _ => rfl) (fun _ _ => rfl) (by show 3 < 9; decide) (fun i v xs m x H2 e1 e2 e3 s2 => ?_) (fun p ys H2 s2 e2 r2 => ?_))
    · unfold Lo at h3 ⊢
      rw [upd_ne (fun z => by rw [z, e] at h3; cases h3)]
      exact h3
    · obtain ⟨r, e, sq⟩ := rw_ i v xs e1 e2
      exact ⟨r, e, sq.same s1⟩
    · obtain ⟨ps, hp, a⟩ := al.get e2
      obtain ⟨p, hpk, b, x', y', rfl, eb, l1, l2⟩ := a.get e3
      have fl := flat_at hp hpk
      rw [off_eq (K := K) al]
      have s12 := s1.trans s2
      rcases hj with ⟨rfl, rfl⟩ | ⟨rfl, rfl⟩
      · exact em_val (v_ixT (n := 0) (val_var rfl) val_c (SqT.of (s12 _ _ eb)) rfl) ⟨p, fl, x', rfl, l1.same s12⟩
      · exact em_val (v_ixT (n := 1) (val_var rfl) val_c (SqT.of (s12 _ _ eb)) rfl) ⟨p, fl, y', rfl, l2.same s12⟩
    · rw [full] at r2
      refine (show spWhole ([.ref p] ++ []) H2 Q' E0 from ?_)
      refine ⟨p, pss.flatten.map f, n, rfl, ⟨ys, e2, All2.mk (by rw [r2.2, List.length_map]) fun i v q2 hv hq => ?_⟩, fun q2 hq => ?_, by rw [List.length_map]; exact hn, by rw [List.length_map]; omega, fun p2 l D H3 s3 d0 dl dd e3 e4 => q p2 l D H3 (s2.trans s3) d0 (by rw [List.length_map] at dl; exact dl) (fun p hp => dd _ (List.mem_map_of_mem hp)) e3 e4⟩
      · obtain ⟨p3, hp3, a, e5, lo⟩ := r2.1.get hv
        rw [Nat.zero_add] at hp3
        rw [List.getElem?_map, hp3] at hq
        cases hq
        exact ⟨a, e5, lo⟩
      · obtain ⟨p3, hp3, rfl⟩ := List.mem_map.mp hq
        rcases hj with ⟨_, rfl⟩ | ⟨_, rfl⟩
        · exact (sm p3 hp3).1
        · exact (sm p3 hp3).2
  refine q_two (wide (f := Prod.fst) (j := 0) (.inl ⟨rfl, rfl⟩) rfl rfl (L2.Same.refl H) fun px lX Dx H1 s1 dx0 dxl dxd epx elx => g_two (SqT.of epx) ?_)
  refine q_two (wide (f := Prod.snd) (j := 1) (.inr ⟨rfl, rfl⟩) rfl rfl s1 fun py lY Dy H2 s2 dy0 dyl dyd epy ely => g_two (SqT.of epy) ?_)
  have elx2 := s2 _ _ elx
  have lenx : ((tops Dx (pss.flatten.map Prod.fst)).map V.int).length = pss.flatten.length := by unfold tops; rw [List.length_map, List.length_map, List.length_map]
  have leny : ((tops Dy (pss.flatten.map Prod.snd)).map V.int).length = pss.flatten.length := by unfold tops; rw [List.length_map, List.length_map, List.length_map]
  refine q_asg (lz_in ((val_var rfl) _ ((val_var rfl) _ ⟨lX, lY, _, _, rfl, .inl ⟨SqL.of elx2, SqL.of ely⟩, by rw [lenx, leny], by rw [lenx]; omega, fun Z zs H3 s3 nZ eZ hz => ?_⟩)))
  have zl : zs.length = pss.flatten.length := by rw [hz.1, lenx]
  have pts : All2 (Grid H3 Dx Dy) zs pss.flatten := All2.mk zl fun i v p hv hp => by
    obtain ⟨U, e1, _, e3⟩ := hz.2 i (.int (sc Dx p.1)) (.int (sc Dy p.2)) (by unfold tops; rw [List.getElem?_map, List.getElem?_map, List.getElem?_map, hp]; rfl) (by unfold tops; rw [List.getElem?_map, List.getElem?_map, List.getElem?_map, hp]; rfl)
    rw [hv] at e1
    cases e1
    exact ⟨U, rfl, e3⟩
  have s123 := (s1.trans s2).trans s3
  refine q_par (ta_two (l_lst va_nil (by decide) fun F hF => (val_c _ ⟨_, _, rfl, ?_⟩)))
  have s4 := Same.new' (o := .lst []) hF
  refine q_forL (K := K) (val_var rfl) (SqL.of (s4 _ _ (s123 _ _ hR))) (fun i σ H5 => ∃ (fs : List V) (z : Option V), σ = [some (.ref R), some (.ref lX), some (.int (Dy : Int)), z, none, some (.ref lY), some (.ref Z), some (.ref F), some (.int (offs pss i : Int))] ∧
    (∀ b o, H3 b = some o → H5 b = some o) ∧ H5 F = some (.lst fs) ∧ fs.length = i ∧ ∀ (j : Nat) (v : V) (ps : List (Rat × Rat)), fs[j]? = some v → pss[j]? = some ps → GridRow H5 Dx Dy v ps ∧ v ≠ .ref F) ⟨[], none, rfl, fun b o e => s4 _ _ e, upd_same, rfl, fun j v ps e => by simp at e⟩ (fun i σ H5 _ ⟨fs, z, _, s5, _⟩ => SqL.of (s5 _ _ (s123 _ _ hR))) ?_ ?_
  · rintro i v σ H5 hv ⟨fs, z, rfl, s5, eF, fl, gr⟩
    have hi : i < rows.length := (List.getElem?_eq_some_iff.mp hv).1
    have hp : pss[i]? = some (pss[i]'(by omega)) := List.getElem?_eq_getElem _
    generalize pss[i]'(by omega) = ps at hp
    obtain ⟨ps', hp', r, ls, rfl, sq, al2⟩ := All2.get hL hv
    rw [hp] at hp'
    cases hp'
    have lls := al2.len
    have s15 : L2.Same H H5 := fun b o e => s5 _ _ (s123 _ _ e)
    refine g_name ?_
    have osucc := offs_succ hp
    have ole : offs pss i + ps.length ≤ pss.flatten.length := by rw [← osucc]; exact offs_le _
    have nFH : H F = none := none_of s123 hF
    have lenR : ∀ {σ : L2.St} {H6 : Hp}, L2.Same H H6 → σ[3]? = some (some (.ref r)) → Val (tCB (fun xs H Q => ∃ p ys, xs = [.ref p] ∧ (SqL K H p ys ∨ SqT K H p ys) ∧ Q (.int ys.length) H) (tCons (tVar 3) tNil)) σ H6 (.int (ps.length : Int)) := fun s6 e => by
      have := v_len (K := K) (te := tVar 3) (val_var e) (sq.same s6)
      rw [lls] at this
      exact this
    refine q_app0 (val_var rfl) eF ((val_var rfl) _ ((val_var rfl) _ ⟨_, rfl, (v_add (i := (offs pss i : Int)) (j := (ps.length : Int)) (val_var rfl) (lenR s15 rfl)) _ ⟨_, rfl, Z, zs, rfl, SqL.of (s5 _ _ eZ), fun p hp0 => ?_⟩⟩))
    have s6 := Same.new' (o := .lst (cutV zs (some (offs pss i : Int)) (some ((offs pss i : Int) + (ps.length : Int))))) hp0
    have nF : p ≠ F := fun z => by rw [z, eF] at hp0; cases hp0
    refine ⟨F, fs, .ref p, rfl, rfl, s6 _ _ eF, Nat.lt_of_lt_of_le (show fs.length < 1000 by omega) (by decide), ?_⟩
    have cut : cutV zs (some (offs pss i : Int)) (some ((offs pss i : Int) + (ps.length : Int))) = (zs.drop (offs pss i)).take ps.length := by
      unfold cutV
      rw [show ((offs pss i : Int) + (ps.length : Int)) = ((offs pss i + ps.length : Nat) : Int) by omega, HT.sIx_nat, HT.sIx_nat]
      rw [show min (offs pss i) zs.length = offs pss i by omega, show min (offs pss i + ps.length) zs.length - offs pss i = ps.length by omega]
    rw [cut] at s6 ⊢
    have ep : upd (upd H5 p (.lst ((zs.drop (offs pss i)).take ps.length))) F (.lst (fs ++ [.ref p])) p = some (.lst ((zs.drop (offs pss i)).take ps.length)) := by rw [upd_ne nF, upd_same]
    refine (v_add (i := (offs pss i : Int)) (j := (ps.length : Int)) (val_var rfl) (lenR (fun b o e => ?_) rfl)) _ ?_
    · have hb : b ≠ F := fun z => by rw [z, nFH] at e; cases e
      rw [upd_ne hb]
      exact s6 _ _ (s15 _ _ e)
    · refine ⟨fs ++ [.ref p], some (.ref r), by rw [osucc]; rfl, fun b o e => ?_, upd_same, by rw [List.length_append, fl]; rfl, fun j v ps' e1 e2 => ?_⟩
      · have hb : b ≠ F := fun z => by rw [z, hF] at e; cases e
        rw [upd_ne hb]
        exact s6 _ _ (s5 _ _ e)
      · rcases Nat.lt_or_ge j fs.length with lt | ge
        · rw [List.getElem?_append_left lt] at e1
          obtain ⟨⟨f, ts, rfl, ef, gd⟩, nv⟩ := gr j v ps' e1 e2
          have nf : f ≠ F := fun z => nv (by rw [z])
          refine ⟨⟨f, ts, rfl, ?_, gd.imp fun _ _ q => (q.same s6).upd (s6 _ _ eF)⟩, nv⟩
          rw [upd_ne nf]
          exact s6 _ _ ef
        · have ej : j = i := by
            have := (List.getElem?_eq_some_iff.mp e1).1
            rw [List.length_append] at this
            simp at this
            omega
          subst ej
          rw [List.getElem?_append_right ge, show j - fs.length = 0 by omega] at e1
          cases e1
          rw [hp] at e2
          cases e2
          refine ⟨⟨p, _, rfl, ep, All2.mk (by rw [List.length_take, List.length_drop]; omega) fun m x q hx hq => ?_⟩, fun z => nF (by cases z; rfl)⟩
          have hm : m < ps.length := (List.getElem?_eq_some_iff.mp hq).1
          rw [List.getElem?_take_of_lt hm, List.getElem?_drop] at hx
          obtain ⟨q', hq', gd⟩ := pts.get hx
          rw [show pss.flatten[offs pss j + m]? = some q from flat_at hp hq] at hq'
          cases hq'
          exact ((gd.same s5).same s6).upd (s6 _ _ eF)
  · rintro σ H5 ⟨fs, z, rfl, s5, eF, fl, gr⟩
    refine st_ret (val_var rfl) (k Dx Dy F fs H5 dx0 dy0 dxl dyl dxd dyd (fun b o e => s5 _ _ (s123 _ _ e)) eF (All2.mk (by rw [fl, lp]) fun j v ps e1 e2 => (gr j v ps e1 e2).1))
end
end LW

namespace LW
open PySem PySem.Spec PyProof.Rows L2 GL
section
variable {P : Program} {w : World} {K : PySem.W.Frag} {mg : Str → Option Value} {base : Heap}

/-! ### winding -/
def betw (a b n : Int) : Bool := (decide (a ≤ n) && decide (n ≤ b)) || (decide (b ≤ n) && decide (n ≤ a))
def spBetw : Sp := fun vs H Q _ => ∃ a b n : Int, vs = [.int a, .int b, .int n] ∧ Q (.bl (betw a b n)) H
theorem chain_in {r r' : R2} {ta tb tc : TE} {σ : L2.St} {H : Hp} {Q : VK} (h : ta σ H fun x H1 => tb σ H1 fun y H2 => r x y H2 fun z H3 => ∃ k, z = .bl k ∧ (if k = true then tc σ H3 fun w' H4 => r' y w' H4 Q else Q (.bl false) H3)) : tChain r r' ta tb tc σ H Q := h
theorem v_chain {g g' : Int → Int → Bool} {ta tb tc : TE} {σ : L2.St} {H : Hp} {a b c : Int} (ha : Val ta σ H (.int a)) (hb : Val tb σ H (.int b)) (hc : Val tc σ H (.int c)) :
    Val (tChain (rI0 fun i j => .bl (g i j)) (rI0 fun i j => .bl (g' i j)) ta tb tc) σ H (.bl (g a b && g' b c)) := fun Q q => chain_in (ha _ (hb _ ⟨a, b, rfl, rfl, _, rfl, by
  cases e : g a b with
  | true =>
    rw [e, Bool.true_and] at q
    exact iteT (hc _ ⟨b, c, rfl, rfl, q⟩)
  | false =>
    rw [e, Bool.false_and] at q
    exact iteF q⟩))
theorem ok_is_between (T : Txt K mg) : FnOk P w K mg base CX0 1 (fA mg "_is_between") (fDat K (fA mg "_is_between")) ["one", "other", "number"] spBetw := by
  refine T._is_between.F.ok sc_is_between (fun vs H Q E h => ?_) (fun cdv A outer s H vs Q E hr h => ?_)
  · obtain ⟨a, b, n, rfl, _⟩ := h
    rfl
  obtain ⟨a, b, n, rfl, k⟩ := h
  refine ⟨_, (pss_one (ps_ret (pe_or (pe_chain op_le op_le (pv 0) (pv 2) (pv 1)) (pe_one (pe_chain op_le op_le (pv 1) (pv 2) (pv 0)))))), ?_⟩
  refine r_ret (v_chain (g := fun i j => decide (i ≤ j)) (g' := fun i j => decide (i ≤ j)) (val_var rfl) (val_var rfl) (val_var rfl) _ ⟨_, rfl, ?_⟩)
  cases e : (decide (a ≤ n) && decide (n ≤ b)) with
  | true =>
    unfold betw at k
    rw [e, Bool.true_or] at k
    exact iteT k
  | false =>
    unfold betw at k
    rw [e, Bool.false_or] at k
    exact iteF (v_chain (g := fun i j => decide (i ≤ j)) (g' := fun i j => decide (i ≤ j)) (val_var rfl) (val_var rfl) (val_var rfl) _ k)
abbrev P2 := Int × Int
def turnI (pt a b : P2) : Int := (b.1 - a.1) * (pt.2 - a.2) - (b.2 - a.2) * (pt.1 - a.1)
def onI (pt a b : P2) : Bool := decide (turnI pt a b = 0) && (betw a.1 b.1 pt.1 && betw a.2 b.2 pt.2)
def upI (pt a b : P2) : Bool := (decide (a.2 ≤ pt.2) && decide (pt.2 < b.2)) && decide (turnI pt a b > 0)
def dnI (pt a b : P2) : Bool := (decide (b.2 ≤ pt.2) && decide (pt.2 < a.2)) && decide (turnI pt a b < 0)
/-- how often the sides go round the place, None on a side -/
def windS (pt : P2) : List (P2 × P2) → Int → Option Int
  | [], f => some f
  | (a, b) :: r, f => if onI pt a b = true then none else windS pt r ((f + if upI pt a b = true then 1 else 0) - if dnI pt a b = true then 1 else 0)
theorem windS_cons (pt a b : P2) (r : List (P2 × P2)) (f : Int) : windS pt ((a, b) :: r) f = if onI pt a b = true then none else windS pt r ((f + if upI pt a b = true then 1 else 0) - if dnI pt a b = true then 1 else 0) := rfl
def wv : Option Int → V
  | none => .non
  | some z => .int z
def scp (Dx Dy : Nat) (p : Rat × Rat) : P2 := (sc Dx p.1, sc Dy p.2)
/-- BadRow(row) leaves -/
def BadRw (mg : Str → Option Value) (H : Hp) (v : V) (E : XK) : Prop := ∀ (d : Addr) (H' : Hp), L2.Same H H' → H d = none → H' d = some (.xd [("row", v)]) → E (.ref (fA mg "BadRow")) (some d) H'
theorem BadRw.from {H H' : Hp} {v : V} {E : XK} (b : BadRw mg H v E) (s : L2.Same H H') : BadRw mg H' v E := fun d H2 s2 n e => b d H2 (s.trans s2) (s.free n) e
def spWind (mg : Str → Option Value) : Sp := fun vs H Q E => ∃ v u, vs = [v, u] ∧ ((NoCl H v ∧ BadRw mg H v E) ∨ ∃ (a : Addr) (xs : List V) (ps : List (Rat × Rat)), v = .ref a ∧ Sq H a xs ∧ All2 (PlR H) xs ps ∧ 2 ≤ xs.length ∧ xs.length ≤ 60 ∧
  (((∃ s ∈ sidesR ps, s.1 = s.2) ∧ BadRw mg H v E) ∨ ((∀ s ∈ sidesR ps, s.1 ≠ s.2) ∧ PlQ H u false ∧ BadRw mg H u E) ∨
  ((∀ s ∈ sidesR ps, s.1 ≠ s.2) ∧ ∃ (p : Rat × Rat) (n : Nat), PlR H u p ∧ n * (ps.length + 1) + n ≤ 900 ∧ (∀ q ∈ p :: ps, Sm n q.1 ∧ Sm n q.2) ∧
    ∀ (Dx Dy : Nat) (H' : Hp), 0 < Dx → 0 < Dy → (∀ q ∈ p :: ps, q.1.den ∣ Dx ∧ q.2.den ∣ Dy) → L2.Same H H' → Q (wv (windS (scp Dx Dy p) (sidesR (ps.map (scp Dx Dy))) 0)) H')))
theorem g_ll {σ : L2.St} {H : Hp} {F f0 : Addr} {v x : V} {i j : Nat} {K' : L2.St → Hp → Prop} (h : SqL K H F [.ref f0, v]) (h0 : SqL K H f0 [x]) (q : K' ((σ.set i (some x)).set j (some v)) H) :
    gLst K 2 (gCons (gLst K 1 (gCons (gName i) gNil)) (gCons (gName j) gNil)) (.ref F) σ H K' := ⟨F, _, rfl, h, rfl, _, _, rfl, ⟨f0, _, rfl, h0, rfl, _, _, rfl, ⟨rfl, _, _, rfl, ⟨rfl, q⟩⟩⟩⟩
theorem g_22 {σ : L2.St} {H : Hp} {U A B : Addr} {a b c d : V} {i j k l : Nat} {K' : L2.St → Hp → Prop} (h : SqT K H U [.ref A, .ref B]) (h1 : SqT K H A [a, b]) (h2 : SqT K H B [c, d]) (q : K' ((((σ.set i (some a)).set j (some b)).set k (some c)).set l (some d)) H) :
    gTup K 2 (gCons (gTup K 2 (gCons (gName i) (gCons (gName j) gNil))) (gCons (gTup K 2 (gCons (gName k) (gCons (gName l) gNil))) gNil)) (.ref U) σ H K' :=
  ⟨U, _, rfl, h, rfl, _, _, rfl, g_two h1 ⟨_, _, rfl, g_two h2 ⟨rfl, q⟩⟩⟩
theorem tn {σ : L2.St} {H : Hp} {Q : List V → Hp → Prop} (h : Q [] H) : tNil σ H Q := h
theorem q_gen {te : TE} {g : TG} {tz : TS} {D : Ends} {σ : L2.St} {H : Hp} (h : te σ H fun v H1 => g v σ H1 fun σ2 H2 => tz D σ2 H2) : tSeq (tAsg te g) tz D σ H := h
theorem q_forLC {sp : Sp} {E : XK} {ta : TA} {ws : List V} {g : TG} {tb tz : TS} {D : Ends} {σ : L2.St} {H : Hp} (h : VA ta σ H ws) (q : ∀ Q' : VK, (∀ a H1, tSeq (tFor (iList K (tC (.ref a))) g tb) tz D σ H1 → Q' (.ref a) H1) → sp ws H Q' E) :
    tSeq (tFor (iList K (tCall sp [] E ta)) g tb) tz D σ H := c_call h (q _ fun a H1 z => z)
theorem ta_lst2 {t1 t2 : TE} {σ : L2.St} {H : Hp} {Q : VK} (h : t1 σ H fun v H1 => t2 σ H1 fun w H2 => 2 ≤ sizeLine ∧ ∀ q, H2 q = none → Q (.ref q) (upd H2 q (.lst [v, w]))) : tLst (tCons t1 (tCons t2 tNil)) σ H Q := h
theorem ta_lst1 {t1 : TE} {σ : L2.St} {H : Hp} {Q : VK} (h : t1 σ H fun v H1 => 1 ≤ sizeLine ∧ ∀ q, H1 q = none → Q (.ref q) (upd H1 q (.lst [v]))) : tLst (tCons t1 tNil) σ H Q := h
theorem ans_chain {te : TE} {σ : L2.St} {H : Hp} {b : Bool} (h : Val te σ H (.bl b)) : Ans (tTest te) σ H b := fun Q q => h _ ⟨b, rfl, q⟩
/-- if t: x = e (the same either way behind it) -/
theorem q_ite {t : TT} {te : TE} {tz : TS} {D : Ends} {σ : L2.St} {H : Hp} {b : Bool} {f2 : Nat} {v2 : V} (h : Ans t σ H b) (h1 : b = true → Val te σ H v2) (h2 : b = false → σ = σ.set f2 (some v2)) (q : tz D (σ.set f2 (some v2)) H) : tSeq (tIfS t (tAsg te (gName f2)) tNext) tz D σ H :=
  q_when h (fun e => h1 e _ q) fun e => by
    rw [← h2 e] at q
    exact q
theorem q_iteE {t : TT} {te : TE} {D : Ends} {σ : L2.St} {H : Hp} {b : Bool} {f2 : Nat} {v2 : V} (h : Ans t σ H b) (h1 : b = true → Val te σ H v2) (h2 : b = false → σ = σ.set f2 (some v2)) (q : D.nx (σ.set f2 (some v2)) H) : tIfS t (tAsg te (gName f2)) tNext D σ H :=
  st_if h (fun e => h1 e _ q) fun e => by
    rw [← h2 e] at q
    exact q
theorem sc_abs {n N D : Nat} {q : Rat} (sm : Sm n q) (hD : D ≤ 2 ^ N) : (sc D q).natAbs ≤ 2 ^ (n + N) := by
  unfold sc
  rw [Int.natAbs_mul, Int.natAbs_natCast, Nat.pow_add]
  exact Nat.mul_le_mul (Nat.le_of_lt sm.1) (Nat.le_trans (Nat.div_le_self _ _) hD)
theorem sub_fit {a b : Int} (ha : a.natAbs ≤ 2 ^ 900) (hb : b.natAbs ≤ 2 ^ 900) : (a - b).natAbs < 2 ^ 1000 := by
  have h : (a - b).natAbs ≤ 2 ^ 900 + 2 ^ 900 := Nat.le_trans (by omega) (Nat.add_le_add ha hb)
  have e : (2 : Nat) ^ 900 + 2 ^ 900 = 2 ^ 901 := by rw [Nat.pow_succ (n := 2) (m := 900)]; exact (Nat.mul_two _).symm
  rw [e] at h
  exact Nat.lt_of_le_of_lt h (Nat.pow_lt_pow_right (by decide) (by decide))
theorem ok_winding (T : Txt K mg) : FnOk P w K mg base (L2.CX P w) 10 (fA mg "winding") (fDat K (fA mg "winding")) ["corners", "place"] (spWind mg) := by
  have Gclosed_row_of := ok_closed_row_of (P := P) (w := w) (base := base) T
  have Gis_place := ok_is_place (P := P) (w := w) (base := base) T
  have Gplace_of := ok_place_of (P := P) (w := w) (base := base) T
  have Ggrid_of := ok_grid_of (P := P) (w := w) (base := base) T
  have Gsides_of := ok_sides_of (P := P) (w := w) (base := base) T
  have G_is_between := ok_is_between (P := P) (w := w) (base := base) T
  have Gi_BadRow := init_BadRow (P := P) (w := w) (base := base) T
  refine T.winding.F.okX scwinding (fun vs H Q E h => ?_) (fun cdv A outer s H vs Q E hr h => ?_)
  · obtain ⟨v, u, rfl, _⟩ := h
    rfl
  obtain ⟨v, u, rfl, h⟩ := h
  refine ⟨_, (pss_cons (ps_set (i := 2) scwinding.nd rfl (Or.inl rfl) (pe_c T.closed_row_of Gclosed_row_of (hr.mono (by decide)) (pa_cons (pv 0) pa_nil)))
  (pss_cons (ps_if (pt_cmpR op_isN (pv 2) pe_non (nomark _)) (pss_one (ps_raise rfl (takes_of rfl rfl rfl rfl) (pmk_oex T.BadRow.o T.BadRow.i T.BadRow.t Gi_BadRow (hr.mono (by decide)) T.BadRow.b .nil pass0 (by rfl) T.BadRow.g (pa_cons (pv 0) pa_nil)))) pss_nil)
  (pss_cons (ps_if (pt_not (pt_val (pe_c T.is_place Gis_place (hr.mono (by decide)) (pa_cons (pv 1) pa_nil)))) (pss_one (ps_raise rfl (takes_of rfl rfl rfl rfl) (pmk_oex T.BadRow.o T.BadRow.i T.BadRow.t Gi_BadRow (hr.mono (by decide)) T.BadRow.b .nil pass0 (by rfl) T.BadRow.g (pa_cons (pv 1) pa_nil)))) pss_nil)
  (pss_cons (ps_asg (pe_c T.grid_of Ggrid_of (hr.mono (by decide)) (pa_cons (pe_lst (pa_cons (pe_lst (pa_cons (pe_call Gplace_of (hr.mono (by decide)) (by rfl) T.place_of.g T.place_of.F.kp T.place_of.b .nil (passes_call (takes_of rfl rfl rfl rfl) (fun _ _ _ _ h => h)) (pa_cons (pv 1) pa_nil)) pa_nil)) (pa_cons (pv 2) pa_nil))) pa_nil)) (pg_lst rfl (pgs_cons (pg_lst rfl (pgs_cons (pg_name (i := 3) scwinding.nd rfl (Or.inl rfl)) pgs_nil)) (pgs_cons (pg_name (i := 4) scwinding.nd rfl (Or.inl rfl)) pgs_nil))))
  (pss_cons (ps_set (i := 5) scwinding.nd rfl (Or.inl rfl) pe_int)
  (pss_cons (ps_for (passes_of rfl) rfl (pi_list (pe_c T.sides_of Gsides_of (hr.mono (by decide)) (pa_cons (pv 4) pa_nil))) (pg_tup rfl (pgs_cons (pg_tup rfl (pgs_cons (pg_name (i := 6) scwinding.nd rfl (Or.inl rfl)) (pgs_cons (pg_name (i := 7) scwinding.nd rfl (Or.inl rfl)) pgs_nil))) (pgs_cons (pg_tup rfl (pgs_cons (pg_name (i := 8) scwinding.nd rfl (Or.inl rfl)) (pgs_cons (pg_name (i := 9) scwinding.nd rfl (Or.inl rfl)) pgs_nil))) pgs_nil)))
  (pss_cons (ps_set (i := 10) scwinding.nd rfl (Or.inl rfl) (pe_op op_sub (pe_op op_mulW (pe_op op_sub (pv 8) (pv 6)) (pe_op op_sub (pe_ix ix_tup (pv 3) pe_int (fun _ _ => rfl)) (pv 7))) (pe_op op_mulW (pe_op op_sub (pv 9) (pv 7)) (pe_op op_sub (pe_ix ix_tup (pv 3) pe_int (fun _ _ => rfl)) (pv 6)))))
  (pss_cons (ps_if (PW.pt (pw_and (pt_cmpR op_eq (pv 10) pe_int (nomark _)) (pw_and (pt_val (pe_c T._is_between G_is_between (hr.mono (by decide)) (pa_cons (pv 6) (pa_cons (pv 8) (pa_cons (pe_ix ix_tup (pv 3) pe_int (fun _ _ => rfl)) pa_nil))))) (pw_and1 (pt_val (pe_c T._is_between G_is_between (hr.mono (by decide)) (pa_cons (pv 7) (pa_cons (pv 9) (pa_cons (pe_ix ix_tup (pv 3) pe_int (fun _ _ => rfl)) pa_nil))))))))) (pss_one (ps_ret pe_non)) pss_nil)
  (pss_cons (ps_if (PW.pt (pw_and (pt_chain op_le op_lt (pv 7) (pe_ix ix_tup (pv 3) pe_int (fun _ _ => rfl)) (pv 9)) (pw_and1 (pt_cmpR op_gt (pv 10) pe_int (nomark _))))) (pss_one (ps_set (i := 5) scwinding.nd rfl (Or.inl rfl) (pe_op op_add (pv 5) pe_int))) pss_nil)
  (pss_one (ps_if (PW.pt (pw_and (pt_chain op_le op_lt (pv 9) (pe_ix ix_tup (pv 3) pe_int (fun _ _ => rfl)) (pv 7)) (pw_and1 (pt_cmpR op_lt (pv 10) pe_int (nomark _))))) (pss_one (ps_set (i := 5) scwinding.nd rfl (Or.inl rfl) (pe_op op_sub (pv 5) pe_int))) pss_nil))))))
  (pss_one (ps_ret (pv 5))))))))), ?_⟩
  rcases h with ⟨no, bad⟩ | ⟨a, xs, ps, rfl, hS, hR, l2, lm, h⟩
  · refine q_asg (c_call (va_cons (val_var rfl) va_nil) ⟨v, rfl, .inl ⟨no, fun H1 s1 => ?_⟩⟩)
    exact q_when (b := true) (ans_isN (val_var rfl) rfl) (fun _ => x_made1 (va_cons (val_var rfl) va_nil) fun d H' s n e => bad d H' (s1.trans s) (s1.free n) e) (fun z => nomatch z)
  refine q_asg (c_call (va_cons (val_var rfl) va_nil) ⟨.ref a, rfl, .inr ⟨a, xs, ps, rfl, hS, hR, l2, by omega, fun cl t ts H1 s1 et al => ?_, fun ⟨sd, hs, he⟩ H1 s1 => ?_⟩⟩)
  case refine_2 =>
    rcases h with ⟨_, bad⟩ | ⟨cl, _⟩ | ⟨cl, _⟩
    · exact q_when (b := true) (ans_isN (val_var rfl) rfl) (fun _ => x_made1 (va_cons (val_var rfl) va_nil) fun d H' s n e => bad d H' (s1.trans s) (s1.free n) e) (fun z => nomatch z)
    · exact (cl sd hs he).elim
    · exact (cl sd hs he).elim
  refine q_unless (ans_isN (val_var rfl) rfl) ?_
  rcases h with ⟨⟨sd, hs, he⟩, _⟩ | ⟨_, pq, bad⟩ | ⟨_, p, n, pr, hn, sm, k⟩
  · exact (cl sd hs he).elim
  · refine q_ifNot (c_call (va_cons (val_var rfl) va_nil) ⟨u, false, rfl, pq.same s1, fun H2 s2 => ⟨_, rfl, iteT ?_⟩⟩)
    exact x_made1 (va_cons (val_var rfl) va_nil) fun d H' s n e => bad d H' ((s1.trans s2).trans s) (s1.free (s2.free n)) e
  refine q_ifNot (c_call (va_cons (val_var rfl) va_nil) ⟨u, true, rfl, (pr.same s1).yes, fun H2 s2 => ⟨_, rfl, iteF ?_⟩⟩)
  have s12 := s1.trans s2
  refine q_gen (call_1 (ta_lst2 (ta_lst1 (c_call (va_cons (val_var rfl) va_nil) ⟨u, p, rfl, pr.same s12, fun v' H3 s3 pl _ => ⟨by decide, fun f hf => ?_⟩⟩))))
  have s4 := Same.new' (o := .lst [v']) hf
  refine (val_var rfl) _ ⟨by decide, fun F hF => ?_⟩
  have s5 := Same.new' (o := .lst [.ref f, .ref t]) hF
  have s25 := (s3.trans s4).trans s5
  have s15 := s12.trans s25
  have fl : [[p], ps].flatten = p :: ps := by simp
  have al5 := al.imp fun _ _ q => (q.same s2).same s25
  refine tn ?_
  refine (⟨F, [.ref f, .ref t], [[p], ps], n, rfl, upd_same, .cons ⟨f, [v'], rfl, .inl (SqL.of (s5 _ _ upd_same)), .cons ((pl.same s4).same s5) .nil⟩ (.cons ⟨t, ts, rfl, .inr (SqT.of (s25 _ _ (s2 _ _ et))), al5⟩ .nil), by show 2 ≤ 100; decide, ?_, ?_, fun q hq => sm q (by rw [fl] at hq; exact hq), fun Dx Dy G gs H6 dx0 dy0 dxl dyl dxd dyd s6 eG gr => ?_⟩)
  · rw [fl, List.length_cons, ← hR.len]; omega
  · rw [fl, List.length_cons]; exact hn
  rw [fl] at dxl dyl dxd dyd
  cases gr with
  | cons g1 gr =>
  cases gr with
  | cons g2 gr =>
  cases gr with
  | nil =>
  obtain ⟨f0, t0, rfl, e0, gp⟩ := g1
  obtain ⟨f1, pts, rfl, e1, gps⟩ := g2
  cases gp with
  | cons gp gn =>
  cases gn with
  | nil =>
  obtain ⟨T0, rfl, eT0⟩ := gp
  refine g_ll (SqL.of eG) (SqL.of e0) ?_
  have lps : pts.length = ps.length := gps.len
  have lxs : xs.length = ps.length := hR.len
  have kk := fun H' s' => k Dx Dy H' dx0 dy0 (fun q hq => ⟨dxd q hq, dyd q hq⟩) s'
  refine q_set val_c ?_
  refine q_forLC (va_cons (val_var rfl) va_nil) fun Q' q' => ⟨f1, pts, rfl, .inl e1, by omega, by omega, fun l zs H7 s7 e7 sd => q' _ _ ?_⟩
  have gps7 := gps.imp fun _ _ q => q.same s7
  have s17 := (s15.trans s6).trans s7
  have small : ∀ q ∈ p :: ps, (sc Dx q.1).natAbs ≤ 2 ^ 900 ∧ (sc Dy q.2).natAbs ≤ 2 ^ 900 := fun q hq => by
    have h1 := sc_abs (sm q hq).1 dxl
    have h2 := sc_abs (sm q hq).2 dyl
    have h3 : (2 : Nat) ^ (n + n * (p :: ps).length) ≤ 2 ^ 900 := Nat.pow_le_pow_right (by decide) (by rw [List.length_cons]; omega)
    exact ⟨Nat.le_trans h1 h3, Nat.le_trans h2 h3⟩
  have lz : (sidesR (ps.map (scp Dx Dy))).length = zs.length := by
    unfold sidesR
    rw [List.length_zip, rot_len, Nat.min_self, List.length_map, sd.1, lps]
  refine q_forL (K := K) val_c (SqL.of e7) (fun i σ H8 => ∃ (f : Int) (z6 z7 z8 z9 z10 : Option V), σ = [some (.ref a), some u, some (.ref t), some (.ref T0), some (.ref f1), some (.int f), z6, z7, z8, z9, z10] ∧ L2.Same H7 H8 ∧
    windS (scp Dx Dy p) ((sidesR (ps.map (scp Dx Dy))).drop i) f = windS (scp Dx Dy p) (sidesR (ps.map (scp Dx Dy))) 0) ⟨0, none, none, none, none, none, rfl, L2.Same.refl _, rfl⟩ (fun i σ H8 _ ⟨_, _, _, _, _, _, _, s8, _⟩ => SqL.of (s8 _ _ e7)) ?_ ?_
  · rintro i z σ H8 hz ⟨f, z6, z7, z8, z9, z10, rfl, s8, ew⟩
    have hi : i < pts.length := by rw [← sd.1]; exact (List.getElem?_eq_some_iff.mp hz).1
    have hx : pts[i]? = some pts[i] := List.getElem?_eq_getElem hi
    have hy : (rot pts)[i]? = some ((rot pts)[i]'(by rw [rot_len]; exact hi)) := List.getElem?_eq_getElem _
    obtain ⟨U, eU, hU⟩ := sd.2 i _ _ hx hy
    rw [hz] at eU
    cases eU
    obtain ⟨pa, hpa, A1, eA, gA⟩ := gps7.get hx
    obtain ⟨pb, hpb, B1, eB, gB⟩ := (rot_get gps7).get hy
    rw [eA, eB] at hU
    have mA : pa ∈ ps := get_mem hpa
    have mB : pb ∈ ps := by
      have := get_mem hpb
      unfold rot at this
      rcases List.mem_append.mp this with h | h
      · exact List.mem_of_mem_drop h
      · exact List.mem_of_mem_take h
    have es : (sidesR (ps.map (scp Dx Dy)))[i]? = some (scp Dx Dy pa, scp Dx Dy pb) := by
      refine zip_get (by rw [List.getElem?_map, hpa]; rfl) ?_
      have e : rot (ps.map (scp Dx Dy)) = (rot ps).map (scp Dx Dy) := by unfold rot; rw [List.map_append, List.map_drop, List.map_take]
      rw [e, List.getElem?_map, hpb]
      rfl
    have cut : (sidesR (ps.map (scp Dx Dy))).drop i = (scp Dx Dy pa, scp Dx Dy pb) :: (sidesR (ps.map (scp Dx Dy))).drop (i + 1) := by
      have hi2 : i < (sidesR (ps.map (scp Dx Dy))).length := by rw [lz, sd.1]; exact hi
      rw [List.drop_eq_getElem_cons hi2]
      congr 1
      rw [List.getElem?_eq_getElem hi2] at es
      exact Option.some.inj es
    rw [cut] at ew
    have bA := small pa (List.mem_cons_of_mem _ mA)
    have bB := small pb (List.mem_cons_of_mem _ mB)
    have bP := small p (List.mem_cons_self ..)
    refine g_22 (SqT.of (s8 _ _ hU)) (SqT.of (s8 _ _ gA)) (SqT.of (s8 _ _ gB)) ?_
    have px : ∀ {σ : L2.St}, σ[3]? = some (some (.ref T0)) → Val (tOp (rIxT K) (tVar 3) (tC (.int 0))) σ H8 (.int (sc Dx p.1)) := fun e => v_ixT (n := 0) (val_var e) val_c (SqT.of (s8 _ _ (s7 _ _ eT0))) rfl
    have py : ∀ {σ : L2.St}, σ[3]? = some (some (.ref T0)) → Val (tOp (rIxT K) (tVar 3) (tC (.int 1))) σ H8 (.int (sc Dy p.2)) := fun e => v_ixT (n := 1) (val_var e) val_c (SqT.of (s8 _ _ (s7 _ _ eT0))) rfl
    refine q_set (v := .int (turnI (scp Dx Dy p) (scp Dx Dy pa) (scp Dx Dy pb))) (Val.is (v_sub (v_mul (v_sub (i := sc Dx pb.1) (j := sc Dx pa.1) (val_var rfl) (val_var rfl)) (v_sub (j := sc Dy pa.2) (py rfl) (val_var rfl)) (fit_mul (sub_fit bB.1 bA.1) (sub_fit bP.2 bA.2))) (v_mul (v_sub (i := sc Dy pb.2) (j := sc Dy pa.2) (val_var rfl) (val_var rfl)) (v_sub (j := sc Dx pa.1) (px rfl) (val_var rfl)) (fit_mul (sub_fit bB.2 bA.2) (sub_fit bP.1 bA.1)))) rfl) ?_
    have bet : ∀ {σ : L2.St} {t1 t2 t3 : TE} {x y z : Int}, Val t1 σ H8 (.int x) → Val t2 σ H8 (.int y) → Val t3 σ H8 (.int z) → Ans (tB (tCall spBetw [] E0 (tCons t1 (tCons t2 (tCons t3 tNil))))) σ H8 (betw x y z) := fun h1 h2 h3 => ans_val fun Q q => c_call (va_cons h1 (va_cons h2 (va_cons h3 va_nil))) ⟨_, _, _, rfl, q⟩
    rw [windS_cons] at ew
    refine q_when (b := onI (scp Dx Dy p) (scp Dx Dy pa) (scp Dx Dy pb)) (ans_and2 (ans_eq (x := .int (turnI (scp Dx Dy p) (scp Dx Dy pa) (scp Dx Dy pb))) (y := .int 0) (val_var rfl) val_c rfl (decide_eq_decide.mpr ⟨fun h => V.int.inj h, fun h => by rw [h]⟩)) (ans_and2 (bet (x := sc Dx pa.1) (y := sc Dx pb.1) (z := sc Dx p.1) (val_var rfl) (val_var rfl) (px rfl)) (bet (x := sc Dy pa.2) (y := sc Dy pb.2) (z := sc Dy p.2) (val_var rfl) (val_var rfl) (py rfl)))) (fun h => ?_) (fun h => ?_)
    · rw [if_pos h] at ew
      refine st_ret val_c ?_
      have := kk H8 (s17.trans s8)
      rw [← ew] at this
      exact this
    · rw [if_neg (by rw [h]; exact Bool.false_ne_true)] at ew
      refine q_ite (b := upI (scp Dx Dy p) (scp Dx Dy pa) (scp Dx Dy pb)) (ans_and2 (ans_chain (v_chain (g := fun i j => decide (i ≤ j)) (g' := fun i j => decide (i < j)) (a := sc Dy pa.2) (b := sc Dy p.2) (c := sc Dy pb.2) (val_var rfl) (py rfl) (val_var rfl))) (a_I (i := turnI (scp Dx Dy p) (scp Dx Dy pa) (scp Dx Dy pb)) (j := 0) (val_var rfl) val_c)) (f2 := 5) (v2 := .int (f + if upI (scp Dx Dy p) (scp Dx Dy pa) (scp Dx Dy pb) = true then 1 else 0)) (fun h => Val.is (v_add (i := f) (val_var rfl) val_c) (by simp only [h, if_true])) (fun h => by simp only [h, Bool.false_eq_true, if_false, Int.add_zero]; rfl) ?_
      refine q_iteE (b := dnI (scp Dx Dy p) (scp Dx Dy pa) (scp Dx Dy pb)) (ans_and2 (ans_chain (v_chain (g := fun i j => decide (i ≤ j)) (g' := fun i j => decide (i < j)) (a := sc Dy pb.2) (b := sc Dy p.2) (c := sc Dy pa.2) (val_var rfl) (py rfl) (val_var rfl))) (a_I (i := turnI (scp Dx Dy p) (scp Dx Dy pa) (scp Dx Dy pb)) (j := 0) (val_var rfl) val_c)) (f2 := 5) (v2 := .int ((f + if upI (scp Dx Dy p) (scp Dx Dy pa) (scp Dx Dy pb) = true then 1 else 0) - if dnI (scp Dx Dy p) (scp Dx Dy pa) (scp Dx Dy pb) = true then 1 else 0)) (fun h => Val.is (v_sub (val_var rfl) val_c) (by simp only [h, if_true])) (fun h => by simp only [h, Bool.false_eq_true, if_false, Int.sub_zero]; rfl) ?_
      exact ⟨_, _, _, _, _, _, rfl, s8, ew⟩
  · rintro σ H8 ⟨f, z6, z7, z8, z9, z10, rfl, s8, ew⟩
    refine st_ret (val_var rfl) ?_
    rw [← lz, List.drop_length] at ew
    have := kk H8 (s17.trans s8)
    rw [← ew] at this
    exact this
end
end LW

namespace LW
open PySem PySem.Spec PyProof.Rows L2 GL
section
variable {P : Program} {w : World} {K : PySem.W.Frag} {mg : Str → Option Value} {base : Heap}
theorem Sm.div {i j : Int} {n : Nat} (hj : 0 < j) (h1 : i.natAbs < 2 ^ n) (h2 : j.natAbs < 2 ^ n) : Sm n (Rat.divInt i j) := by
  have l := low_rat i hj
  have p := low_pos i hj
  constructor
  · rw [← l.1]
    exact Nat.lt_of_le_of_lt (low_abs i) h1
  · have : ((Rat.divInt i j).den : Int) ≤ j := by rw [← l.2]; exact p.2
    omega
theorem Sm.add {n m : Nat} {q r : Rat} (h : Sm n q) (k : Sm m r) : Sm (n + m + 1) (q + r) := by
  have e : q + r = Rat.divInt (q.num * r.den + r.num * q.den) (q.den * r.den) := by rw [Rat.add_def', ← Rat.divInt_ofNat, Int.natCast_mul]
  rw [e]
  have p : (2 : Nat) ^ (n + m + 1) = 2 ^ n * 2 ^ m + 2 ^ m * 2 ^ n := by rw [Nat.pow_succ, Nat.pow_add, Nat.mul_comm (2 ^ m)]; omega
  have dq := q.den_pos
  have dr := r.den_pos
  refine Sm.div (Int.mul_pos (by omega) (by omega)) ?_ ?_
  · rw [p]
    refine Nat.lt_of_le_of_lt (Int.natAbs_add_le _ _) (Nat.add_lt_add ?_ ?_)
    · rw [Int.natAbs_mul, Int.natAbs_natCast]
      exact Nat.mul_lt_mul'' h.1 k.2
    · rw [Int.natAbs_mul, Int.natAbs_natCast]
      exact Nat.mul_lt_mul'' k.1 h.2
  · rw [Int.natAbs_mul, Int.natAbs_natCast, Int.natAbs_natCast, p]
    have := Nat.mul_lt_mul'' h.2 k.2
    omega
theorem Sm.mul {n m : Nat} {q r : Rat} (h : Sm n q) (k : Sm m r) : Sm (n + m) (q * r) := by
  have e : q * r = Rat.divInt (q.num * r.num) (q.den * r.den) := by rw [Rat.mul_def', ← Rat.divInt_ofNat, Int.natCast_mul]
  rw [e]
  have dq := q.den_pos
  have dr := r.den_pos
  refine Sm.div (Int.mul_pos (by omega) (by omega)) ?_ ?_
  · rw [Int.natAbs_mul, Nat.pow_add]
    exact Nat.mul_lt_mul'' h.1 k.1
  · rw [Int.natAbs_mul, Int.natAbs_natCast, Int.natAbs_natCast, Nat.pow_add]
    exact Nat.mul_lt_mul'' h.2 k.2
theorem Sm.neg {n : Nat} {q : Rat} (h : Sm n q) : Sm n (-q) := ⟨by rw [Rat.neg_num, Int.natAbs_neg]; exact h.1, h.2⟩
theorem Sm.sub {n m : Nat} {q r : Rat} (h : Sm n q) (k : Sm m r) : Sm (n + m + 1) (q - r) := by
  rw [Rat.sub_eq_add_neg]
  exact h.add k.neg

/-! ### the law's own ratios and rows -/
theorem But.lo {H H' : Hp} {p c t : Addr} {m : Nat} {q : Rat} (b : But p H H') (P : PenAt H p c m) (h : Lo H t q) : Lo H' t q := by
  obtain ⟨kvs, hd⟩ := P.dk
  exact b _ _ h (ne_of h hd (by intro z; cases z))
/-- a list of ratios in lowest terms -/
def Lst (H : Hp) (l : Addr) (xs : List Rat) : Prop := ∃ vs, H l = some (.lst vs) ∧ All2 (fun v q => ∃ p, v = .ref p ∧ Lo H p q) vs xs
theorem Lst.same {H H' : Hp} {t : Addr} {xs : List Rat} (h : Lst H t xs) (s : Same H H') : Lst H' t xs := by
  obtain ⟨vs, e, al⟩ := h
  exact ⟨vs, s _ _ e, al.imp fun v q ⟨p, e, lo⟩ => ⟨p, e, lo.same s⟩⟩
theorem Lst.but {H H' : Hp} {p c l : Addr} {m : Nat} {xs : List Rat} (h : Lst H l xs) (b : But p H H') (P : PenAt H p c m) : Lst H' l xs := by
  obtain ⟨vs, e, al⟩ := h
  obtain ⟨kvs, hd⟩ := P.dk
  exact ⟨vs, b _ _ e (ne_of e hd (by intro z; cases z)), al.imp fun v q ⟨p, e, lo⟩ => ⟨p, e, b.lo P lo⟩⟩
theorem c_lq {H : Hp} {ta : TA} {σ : L2.St} {x y : Int} {Q : VK} {E : XK} (h : VA ta σ H [.int x, .int y]) (hx : x.natAbs < 2 ^ wd) (hy : y.natAbs < 2 ^ wd) (y0 : 0 < y) (k : ∀ p H', Same H H' → Lo H' p (Rat.divInt x y) → Q (.ref p) H') : tCall spLQ [] E ta σ H Q :=
  c_call h ⟨x, y, rfl, hx, hy, .inl ⟨y0, fun p H' s z => k p H' s (by
    unfold Lo
    rw [← (low_rat x y0).1, ← (low_rat x y0).2]
    exact z)⟩⟩
theorem c_lplus {H : Hp} {ta : TA} {σ : L2.St} {p q : Addr} {x y : Rat} {n m : Nat} {Q : VK} {E : XK} (h : VA ta σ H [.ref p, .ref q]) (a : Lo H p x) (b : Lo H q y) (hx : Sm n x) (hy : Sm m y) (hn : n ≤ 1000) (hm : m ≤ 1000) (k : ∀ c H', Same H H' → Lo H' c (x + y) → Q (.ref c) H') : tCall sp_law_plus [] E ta σ H Q := by
  have d1 := x.den_pos
  have d2 := y.den_pos
  refine c_call h ⟨p, q, _, _, _, _, rfl, a, b, hx.fit hn, hy.fit hm, by omega, by omega, fun c H' s z => k c H' s ?_⟩
  unfold Lo
  have e : x + y = Rat.divInt (x.num * (y.den : Int) + y.num * (x.den : Int)) ((x.den : Int) * (y.den : Int)) := by rw [Rat.add_def', ← Rat.divInt_ofNat, Int.natCast_mul]
  rw [e, ← (low_rat _ (Int.mul_pos (by omega) (by omega))).1, ← (low_rat _ (Int.mul_pos (by omega) (by omega))).2]
  exact z
theorem c_ltimes {H : Hp} {ta : TA} {σ : L2.St} {p q : Addr} {x y : Rat} {n m : Nat} {Q : VK} {E : XK} (h : VA ta σ H [.ref p, .ref q]) (a : Lo H p x) (b : Lo H q y) (hx : Sm n x) (hy : Sm m y) (hn : n ≤ 1000) (hm : m ≤ 1000) (k : ∀ c H', Same H H' → Lo H' c (x * y) → Q (.ref c) H') : tCall sp_law_times [] E ta σ H Q := by
  have d1 := x.den_pos
  have d2 := y.den_pos
  refine c_call h ⟨p, q, _, _, _, _, rfl, a, b, hx.fit hn, hy.fit hm, by omega, by omega, fun c H' s z => k c H' s ?_⟩
  unfold Lo
  have e : x * y = Rat.divInt (x.num * y.num) ((x.den : Int) * (y.den : Int)) := by rw [Rat.mul_def', ← Rat.divInt_ofNat, Int.natCast_mul]
  rw [e, ← (low_rat _ (Int.mul_pos (by omega) (by omega))).1, ← (low_rat _ (Int.mul_pos (by omega) (by omega))).2]
  exact z

theorem va_s {te : TE} {tr : TA} {σ : L2.St} {H : Hp} {v : V} {Q : List V → Hp → Prop} (h : Val te σ H v) (k : tr σ H fun vs H1 => Q (v :: vs) H1) : tCons te tr σ H Q := h _ k
theorem l_s {ta : TA} {σ : L2.St} {H : Hp} {Q : VK} (h : ta σ H fun vs H1 => vs.length ≤ sizeLine ∧ ∀ q, H1 q = none → Q (.ref q) (upd H1 q (.lst vs))) : tLst ta σ H Q := h
def spLRatio : Sp := fun vs H Q _ => ∃ (p c : Addr) (m : Nat) (k : Nat), vs = [.ref p, .int (k : Int)] ∧ PenAt H p c m ∧ m + 3 < most ∧ 1 ≤ k ∧ k ≤ 9 ∧ ∀ (t : Addr) (H' : Hp) (q : Rat), Lo H' t q → Sm 10 q → But p H H' → PenAt H' p c (m + 3) → Q (.ref t) H'
theorem ok_law_ratio (T : Txt K mg) : FnOk P w K mg base CX0 5 (fA mg "_law_ratio") (fDat K (fA mg "_law_ratio")) ["_law_pen_here", "_law_most"] spLRatio := by
  have G_law_draw := ok_draw (P := P) (w := w) (base := base) T._law_draw.F T
  have G_law_pick := ok_pick (P := P) (w := w) (base := base) T
  have G_law_q := ok_law_q (P := P) (w := w) (base := base) T
  refine T._law_ratio.F.ok sc_law_ratio (fun vs H Q E h => ?_) (fun cdv A outer s H vs Q E hr h => ?_)
  · obtain ⟨p, c, m, k, rfl, _⟩ := h
    rfl
  obtain ⟨p, c, m, k, rfl, hP, hm, k1, k9, z⟩ := h
  refine ⟨_, (pss_cons (ps_set (i := 2) sc_law_ratio.nd rfl (Or.inl rfl) (pe_c T._law_pick G_law_pick (hr.mono (by decide)) (pa_cons (pv 0) (pa_cons (pe_lst (pa_cons pe_int (pa_cons pe_int (pa_cons pe_int (pa_cons pe_int (pa_cons pe_int (pa_cons pe_int (pa_cons (pe_op op_add pe_int (pe_c T._law_draw G_law_draw (hr.mono (by decide)) (pa_cons (pv 0) (pa_cons pe_int pa_nil)))) pa_nil)))))))) pa_nil))))
  (pss_one (ps_ret (pe_c T._law_q G_law_q (hr.mono (by decide)) (pa_cons (pe_op op_sub (pe_c T._law_draw G_law_draw (hr.mono (by decide)) (pa_cons (pv 0) (pa_cons (pe_op op_add (pe_op op_mulW (pe_op op_mulW pe_int (pv 1)) (pv 2)) pe_int) pa_nil))) (pe_op op_mulW (pv 1) (pv 2))) (pa_cons (pv 2) pa_nil)))))), ?_⟩
  refine q_asg (call_1 ((val_var rfl) _ (va_1 ?_)))
  refine l_s (va_s val_c (va_s val_c (va_s val_c (va_s val_c (va_s val_c (va_s val_c (va_1 (op_l val_c ?_))))))))
  refine c_call (va_cons (val_var rfl) (va_cons val_c va_nil)) ⟨p, c, 99, m, rfl, hP, by omega, by decide, by decide, fun r H1 r0 r1 b1 P1 => ?_⟩
  refine ⟨1, r, rfl, rfl, by show 7 ≤ sizeLine; decide, fun l hl => ?_⟩
  refine ⟨p, c, l, _, m + 1, rfl, P1.same (Same.new hl), by omega, SqL.of upd_same, by show 0 < 7; decide, by show 7 < 1000000000; decide, fun v H2 hv b2 P2 => ?_⟩
  obtain ⟨d, rfl, d0, d1⟩ : ∃ d : Int, v = .int d ∧ 0 < d ∧ d ≤ 99 := by
    simp at hv
    rcases hv with e | e | e | e | e | e
    · exact ⟨1, e, by decide, by decide⟩
    · exact ⟨2, e, by decide, by decide⟩
    · exact ⟨3, e, by decide, by decide⟩
    · exact ⟨7, e, by decide, by decide⟩
    · exact ⟨10, e, by decide, by decide⟩
    · exact ⟨1 + r, e, by omega, by omega⟩
  have c1 : (2 : Nat) ^ 10 < 2 ^ 1000 := Nat.pow_lt_pow_right (by decide) (by decide)
  have kd : 0 < (k : Int) * d := Int.mul_pos (by omega) d0
  have kd2 : (k : Int) * d ≤ 9 * 99 := Int.mul_le_mul (by omega) d1 (by omega) (by omega)
  refine r_ret (te := tCall _ _ _ _) (call_1 ?_)
  have hk : (k : Int).natAbs < 2 ^ 1000 := by omega
  have hd : d.natAbs < 2 ^ 1000 := by omega
  have h2k : (2 * (k : Int)).natAbs < 2 ^ 1000 := by omega
  refine c_call (va_cons (val_var rfl) (va_cons (v_add (v_mul (v_mul val_c (val_var rfl) (fit_mul (by omega) hk)) (val_var rfl) (fit_mul h2k hd)) val_c) va_nil)) ⟨p, c, _, m + 2, rfl, P2, by omega, ?_, ?_, fun r2 H3 r20 r21 b3 P3 => ?_⟩
  · rw [Int.mul_assoc]; omega
  · rw [Int.mul_assoc]; omega
  rw [Int.mul_assoc] at r21
  refine (v_mul (i := (k : Int)) (j := d) (val_var rfl) (val_var rfl) (fit_mul hk hd)) _ ⟨_, _, rfl, rfl, ?_⟩
  have hw : ∀ {i : Int}, i.natAbs < 1024 → i.natAbs < 2 ^ wd := fun h => Nat.lt_trans h (by decide +kernel)
  refine (val_var rfl) _ ?_
  refine ⟨r2 - (k : Int) * d, d, rfl, hw (by omega), hw (by omega), .inl ⟨d0, fun t H4 s4 e4 => ?_⟩⟩
  rw [(low_rat _ d0).1, (low_rat _ d0).2] at e4
  exact z t H4 _ e4 (Sm.div (n := 10) d0 (by show _ < 1024; omega) (by show _ < 1024; omega)) (((b1.trans (But.of (Same.new hl))).trans b2).trans (b3.trans (But.of s4))) (P3.same s4)

theorem c_lminus {H : Hp} {ta : TA} {σ : L2.St} {p q : Addr} {x y : Rat} {n m : Nat} {Q : VK} {E : XK} (h : VA ta σ H [.ref p, .ref q]) (a : Lo H p x) (b : Lo H q y) (hx : Sm n x) (hy : Sm m y) (hn : n ≤ 1000) (hm : m ≤ 1000) (k : ∀ c H', L2.Same H H' → Lo H' c (x - y) → Q (.ref c) H') : tCall sp_law_minus [] E ta σ H Q := by
  have d1 := x.den_pos
  have d2 := y.den_pos
  refine c_call h ⟨p, q, _, _, _, _, rfl, a, b, hx.fit hn, hy.fit hm, by omega, by omega, fun c H' s z => k c H' s ?_⟩
  unfold Lo
  have e : x - y = Rat.divInt (x.num * (y.den : Int) - y.num * (x.den : Int)) ((x.den : Int) * (y.den : Int)) := by
    rw [Rat.sub_eq_add_neg, Rat.add_def', ← Rat.divInt_ofNat, Int.natCast_mul, Rat.neg_num, Rat.neg_den]
    congr 1
    rw [Int.neg_mul]
    omega
  rw [e, ← (low_rat _ (Int.mul_pos (by omega) (by omega))).1, ← (low_rat _ (Int.mul_pos (by omega) (by omega))).2]
  exact z
theorem cs_lplus {H : Hp} {p q : Addr} {x y : Rat} {n m : Nat} {Q : VK} {E : XK} (a : Lo H p x) (b : Lo H q y) (hx : Sm n x) (hy : Sm m y) (hn : n ≤ 1000) (hm : m ≤ 1000) (k : ∀ c H', L2.Same H H' → Lo H' c (x + y) → Q (.ref c) H') : sp_law_plus ([.ref p, .ref q] ++ []) H Q E :=
  c_lplus (E := E) (ta := tCons (tC (.ref p)) (tCons (tC (.ref q)) tNil)) (σ := []) (va_cons val_c (va_cons val_c va_nil)) a b hx hy hn hm k
theorem cs_lminus {H : Hp} {p q : Addr} {x y : Rat} {n m : Nat} {Q : VK} {E : XK} (a : Lo H p x) (b : Lo H q y) (hx : Sm n x) (hy : Sm m y) (hn : n ≤ 1000) (hm : m ≤ 1000) (k : ∀ c H', L2.Same H H' → Lo H' c (x - y) → Q (.ref c) H') : sp_law_minus ([.ref p, .ref q] ++ []) H Q E :=
  c_lminus (E := E) (ta := tCons (tC (.ref p)) (tCons (tC (.ref q)) tNil)) (σ := []) (va_cons val_c (va_cons val_c va_nil)) a b hx hy hn hm k
theorem cs_ltimes {H : Hp} {p q : Addr} {x y : Rat} {n m : Nat} {Q : VK} {E : XK} (a : Lo H p x) (b : Lo H q y) (hx : Sm n x) (hy : Sm m y) (hn : n ≤ 1000) (hm : m ≤ 1000) (k : ∀ c H', L2.Same H H' → Lo H' c (x * y) → Q (.ref c) H') : sp_law_times ([.ref p, .ref q] ++ []) H Q E :=
  c_ltimes (E := E) (ta := tCons (tC (.ref p)) (tCons (tC (.ref q)) tNil)) (σ := []) (va_cons val_c (va_cons val_c va_nil)) a b hx hy hn hm k
/-- a told place as values -/
theorem v_pl {σ : L2.St} {H : Hp} {te : TE} {a x y : Addr} (h : Val te σ H (.ref a)) (e : H a = some (.tup [.ref x, .ref y])) : Val (tOp (rIxT K) te (tC (.int 0))) σ H (.ref x) ∧ Val (tOp (rIxT K) te (tC (.int 1))) σ H (.ref y) :=
  ⟨v_ixT (n := 0) h val_c (SqT.of e) rfl, v_ixT (n := 1) h val_c (SqT.of e) rfl⟩
def halfQ : Rat := Rat.divInt 1 2
theorem half_lo {H : Hp} {t : Addr} (e : H t = some (.tup [.int 1, .int 2])) : Lo H t halfQ := by
  have h1 : halfQ.num = 1 := by decide +kernel
  have h2 : halfQ.den = 2 := by decide +kernel
  unfold Lo
  rw [h1, h2]
  exact e
theorem half_sm : Sm 2 halfQ := by
  have h1 : halfQ.num = 1 := by decide +kernel
  have h2 : halfQ.den = 2 := by decide +kernel
  constructor
  · rw [h1]; decide
  · rw [h2]; decide
def spMid : Sp := fun vs H Q _ => ∃ (p q : Addr) (x y : Rat) (n m : Nat), vs = [.ref p, .ref q] ∧ Lo H p x ∧ Lo H q y ∧ Sm n x ∧ Sm m y ∧ n ≤ 400 ∧ m ≤ 400 ∧ ∀ c H', L2.Same H H' → Lo H' c ((x + y) * halfQ) → Q (.ref c) H'
theorem ok_law_middle (T : Txt K mg) : FnOk P w K mg base CX0 4 (fA mg "_law_middle") (fDat K (fA mg "_law_middle")) ["_law_one", "_law_two"] spMid := by
  have G_law_plus := ok_law_plus (P := P) (w := w) (base := base) T
  have G_law_times := ok_law_times (P := P) (w := w) (base := base) T
  refine T._law_middle.F.ok sc_law_middle (fun vs H Q E h => ?_) (fun cdv A outer s H vs Q E hr h => ?_)
  · obtain ⟨p, q, x, y, n, m, rfl, _⟩ := h
    rfl
  obtain ⟨p, q, x, y, n, m, rfl, lp, lq, sx, sy, hn, hm, k⟩ := h
  refine ⟨_, (pss_one (ps_ret (pe_c T._law_times G_law_times (hr.mono (by decide)) (pa_cons (pe_c T._law_plus G_law_plus (hr.mono (by decide)) (pa_cons (pv 0) (pa_cons (pv 1) pa_nil))) (pa_cons (pe_tup (pa_cons pe_int (pa_cons pe_int pa_nil))) pa_nil))))), ?_⟩
  refine r_ret (call_1 (c_lplus (va_cons (val_var rfl) (va_cons (val_var rfl) va_nil)) lp lq sx sy (by omega) (by omega) fun c H1 s1 l1 => va_1 (l_tup (va_cons val_c (va_cons val_c va_nil)) (by show 2 ≤ 100000; decide) fun t ht => ?_)))
  have s2 := Same.new' (o := .tup [.int 1, .int 2]) ht
  exact cs_ltimes (l1.same s2) (half_lo upd_same) (sx.add sy) half_sm (by omega) (by omega) fun d H3 s3 l3 => k d H3 ((s1.trans s2).trans s3) l3
def spStep : Sp := fun vs H Q _ => ∃ (u v : V) (p q : Rat × Rat) (n : Nat), vs = [u, v] ∧ PlL H u p ∧ PlL H v q ∧ (Sm n p.1 ∧ Sm n p.2) ∧ (Sm n q.1 ∧ Sm n q.2) ∧ n ≤ 400 ∧ ∀ c H', L2.Same H H' → PlL H' (.ref c) (q.1 - p.1, q.2 - p.2) → Q (.ref c) H'
theorem ok_law_step (T : Txt K mg) : FnOk P w K mg base CX0 4 (fA mg "_law_step") (fDat K (fA mg "_law_step")) ["_law_one", "_law_two"] spStep := by
  have G_law_minus := ok_law_minus (P := P) (w := w) (base := base) T
  refine T._law_step.F.ok sc_law_step (fun vs H Q E h => ?_) (fun cdv A outer s H vs Q E hr h => ?_)
  · obtain ⟨u, v, p, q, n, rfl, _⟩ := h
    rfl
  obtain ⟨u, v, p, q, n, rfl, ⟨a, x, y, rfl, ea, l1, l2⟩, ⟨b, x', y', rfl, eb, l3, l4⟩, sp, sq, hn, k⟩ := h
  refine ⟨_, (pss_one (ps_ret (pe_tup (pa_cons (pe_c T._law_minus G_law_minus (hr.mono (by decide)) (pa_cons (pe_ix ix_tup (pv 1) pe_int (fun _ _ => rfl)) (pa_cons (pe_ix ix_tup (pv 0) pe_int (fun _ _ => rfl)) pa_nil))) (pa_cons (pe_c T._law_minus G_law_minus (hr.mono (by decide)) (pa_cons (pe_ix ix_tup (pv 1) pe_int (fun _ _ => rfl)) (pa_cons (pe_ix ix_tup (pv 0) pe_int (fun _ _ => rfl)) pa_nil))) pa_nil))))), ?_⟩
  refine r_ret (tup_two (c_lminus (va_cons (v_pl (val_var rfl) eb).1 (va_cons (v_pl (val_var rfl) ea).1 va_nil)) l3 l1 sq.1 sp.1 (by omega) (by omega) fun c H1 s1 m1 => ?_))
  refine c_lminus (va_cons (v_pl (val_var rfl) (s1 _ _ eb)).2 (va_cons (v_pl (val_var rfl) (s1 _ _ ea)).2 va_nil)) (l4.same s1) (l2.same s1) sq.2 sp.2 (by omega) (by omega) fun d H2 s2 m2 => ⟨by show 2 ≤ sizeLine; decide, fun t ht => ?_⟩
  have s3 := Same.new' (o := .tup [.ref c, .ref d]) ht
  exact k t _ ((s1.trans s2).trans s3) ⟨t, c, d, rfl, upd_same, (m1.same s2).same s3, m2.same s3⟩
def crossR (p q : Rat × Rat) : Rat := p.1 * q.2 - p.2 * q.1
def spCross : Sp := fun vs H Q _ => ∃ (u v : V) (p q : Rat × Rat) (n : Nat), vs = [u, v] ∧ PlL H u p ∧ PlL H v q ∧ (Sm n p.1 ∧ Sm n p.2) ∧ (Sm n q.1 ∧ Sm n q.2) ∧ n ≤ 400 ∧ ∀ c H', L2.Same H H' → Lo H' c (crossR p q) → Q (.ref c) H'
theorem ok_law_cross (T : Txt K mg) : FnOk P w K mg base CX0 4 (fA mg "_law_cross") (fDat K (fA mg "_law_cross")) ["_law_one", "_law_two"] spCross := by
  have G_law_minus := ok_law_minus (P := P) (w := w) (base := base) T
  have G_law_times := ok_law_times (P := P) (w := w) (base := base) T
  refine T._law_cross.F.ok sc_law_cross (fun vs H Q E h => ?_) (fun cdv A outer s H vs Q E hr h => ?_)
  · obtain ⟨u, v, p, q, n, rfl, _⟩ := h
    rfl
  obtain ⟨u, v, p, q, n, rfl, ⟨a, x, y, rfl, ea, l1, l2⟩, ⟨b, x', y', rfl, eb, l3, l4⟩, sp, sq, hn, k⟩ := h
  refine ⟨_, (pss_one (ps_ret (pe_c T._law_minus G_law_minus (hr.mono (by decide)) (pa_cons (pe_c T._law_times G_law_times (hr.mono (by decide)) (pa_cons (pe_ix ix_tup (pv 0) pe_int (fun _ _ => rfl)) (pa_cons (pe_ix ix_tup (pv 1) pe_int (fun _ _ => rfl)) pa_nil))) (pa_cons (pe_c T._law_times G_law_times (hr.mono (by decide)) (pa_cons (pe_ix ix_tup (pv 0) pe_int (fun _ _ => rfl)) (pa_cons (pe_ix ix_tup (pv 1) pe_int (fun _ _ => rfl)) pa_nil))) pa_nil))))), ?_⟩
  refine r_ret (call_1 (c_ltimes (va_cons (v_pl (val_var rfl) ea).1 (va_cons (v_pl (val_var rfl) eb).2 va_nil)) l1 l4 sp.1 sq.2 (by omega) (by omega) fun c H1 s1 m1 => va_1 ?_))
  refine c_ltimes (va_cons (v_pl (val_var rfl) (s1 _ _ ea)).2 (va_cons (v_pl (val_var rfl) (s1 _ _ eb)).1 va_nil)) (l2.same s1) (l3.same s1) sp.2 sq.1 (by omega) (by omega) fun d H2 s2 m2 => ?_
  exact cs_lminus (m1.same s2) m2 (sp.1.mul sq.2) (sp.2.mul sq.1) (by omega) (by omega) fun e H3 s3 l => k e H3 ((s1.trans s2).trans s3) l
theorem v_if2' {t : TT} {ta tb : TE} {σ : L2.St} {H : Hp} {b : Bool} {v : V} (h : Ans t σ H b) (h1 : b = true → Val ta σ H v) (h2 : b = false → Val tb σ H v) : Val (tIf t ta tb) σ H v := fun Q q => h _ (by
  cases b with
  | true => exact h1 rfl Q q
  | false => exact h2 rfl Q q)
def spQuar : Sp := fun vs H Q _ => ∃ (u : V) (p : Rat × Rat), vs = [u] ∧ PlL H u p ∧ Q (.int (WM.quarter p.1.num p.2.num)) H
theorem ok_law_quarter (T : Txt K mg) : FnOk P w K mg base CX0 1 (fA mg "_law_quarter") (fDat K (fA mg "_law_quarter")) ["_law_step_here"] spQuar := by
  refine T._law_quarter.F.ok sc_law_quarter (fun vs H Q E h => ?_) (fun cdv A outer s H vs Q E hr h => ?_)
  · obtain ⟨u, p, rfl, _⟩ := h
    rfl
  obtain ⟨u, p, rfl, ⟨a, x, y, rfl, ea, l1, l2⟩, k⟩ := h
  refine ⟨_, (pss_cons (ps_par (i := 1) (j := 2) (by rfl) sc_law_quarter.nd rfl rfl (by decide) rfl rfl (pa_cons (pe_ix ix_tup (pe_ix ix_tup (pv 0) pe_int (fun _ _ => rfl)) pe_int (fun _ _ => rfl)) (pa_cons (pe_ix ix_tup (pe_ix ix_tup (pv 0) pe_int (fun _ _ => rfl)) pe_int (fun _ _ => rfl)) pa_nil)) (by rfl))
  (pss_cons (ps_if (PW.pt (pw_and (pt_cmpR op_gt (pv 1) pe_int (nomark _)) (pw_and1 (pt_cmpR op_ge (pv 2) pe_int (nomark _))))) (pss_one (ps_ret pe_int)) pss_nil)
  (pss_cons (ps_if (PW.pt (pw_and (pt_cmpR op_le (pv 1) pe_int (nomark _)) (pw_and1 (pt_cmpR op_gt (pv 2) pe_int (nomark _))))) (pss_one (ps_ret pe_int)) pss_nil)
  (pss_one (ps_ret (pe_ifExp (pt_cmpR op_lt (pv 1) pe_int (nomark _)) pe_int pe_int)))))), ?_⟩
  refine q_par (va_cons (v_ixT (n := 0) (v_pl (val_var rfl) ea).1 val_c (SqT.of l1) rfl) (va_cons (v_ixT (n := 0) (v_pl (val_var rfl) ea).2 val_c (SqT.of l2) rfl) va_nil) _ ⟨_, _, rfl, ?_⟩)
  generalize p.1.num = i at k
  generalize p.2.num = j at k
  refine q_when (ans_and2 (a_I (i := i) (j := 0) (val_var rfl) val_c) (a_I (i := j) (j := 0) (val_var rfl) val_c)) (fun e => ?_) (fun e => ?_)
  · refine st_ret val_c ?_
    rw [show WM.quarter i j = 0 by unfold WM.quarter; rw [if_pos (by simpa using e)]] at k
    exact k
  refine q_when (ans_and2 (a_I (i := i) (j := 0) (val_var rfl) val_c) (a_I (i := j) (j := 0) (val_var rfl) val_c)) (fun e2 => ?_) (fun e2 => ?_)
  · refine st_ret val_c ?_
    rw [show WM.quarter i j = 1 by unfold WM.quarter; rw [if_neg (by simp at e e2; omega), if_pos (by simpa using e2)]] at k
    exact k
  refine r_ret ?_
  refine (v_tif (b := decide (i < 0)) (z := .int (WM.quarter i j)) (a_I (i := i) (j := 0) (val_var rfl) val_c) ?_ : Val _ _ _ _) _ k
  have e3 : WM.quarter i j = if i < 0 then 2 else 3 := by unfold WM.quarter; rw [if_neg (by simp at e; omega), if_neg (by simp at e2; omega)]
  rw [e3]
  by_cases h : i < 0 <;> simp [h]
def spLSides (K : PySem.W.Frag) : Sp := fun vs H Q _ => ∃ (a : Addr) (xs : List V), vs = [.ref a] ∧ H a = some (.lst xs) ∧ 2 ≤ xs.length ∧ xs.length ≤ 1000 ∧ ∀ l zs H', L2.Same H H' → H' l = some (.lst zs) → Sds H' xs zs → H l = none → Q (.ref l) H'
theorem ok_law_sides (T : Txt K mg) : FnOk P w K mg base CX0 1 (fA mg "_law_sides") (fDat K (fA mg "_law_sides")) ["_law_corners"] (spLSides K) := by
  refine T._law_sides.F.ok sc_law_sides (fun vs H Q E h => ?_) (fun cdv A outer s H vs Q E hr h => ?_)
  · obtain ⟨a, xs, rfl, _⟩ := h
    rfl
  obtain ⟨a, xs, rfl, e, h2, hl, k⟩ := h
  refine ⟨_, (pss_one (ps_ret (ZL.pe_listZip (by rfl) (by rfl) T.zip (by rfl) T.list (pa_cons (pv 0) (pa_cons (pe_op op_cat (pe_slice sl_list (pv 0) (po_some pe_int) po_none) (pe_slice sl_list (pv 0) po_none (po_some pe_int))) pa_nil))))), ?_⟩
  refine r_ret (lz_in ((val_var rfl) _ (op_in ?_)))
  refine slo (val_var rfl) ⟨a, xs, rfl, SqL.of e, fun p hp => ?_⟩
  rw [cut_lo]
  have s1 := Same.new' (o := .lst (xs.drop 1)) hp
  refine shi (val_var rfl) ⟨a, xs, rfl, SqL.of (s1 _ _ e), fun p2 hp2 => ?_⟩
  rw [cut_hi]
  have s2 := Same.new' (o := .lst (xs.take 1)) hp2
  refine ⟨p, p2, _, _, rfl, rfl, s2 _ _ upd_same, upd_same, by rw [List.length_drop, List.length_take]; exact Nat.le_trans (by omega) (show 1000 ≤ sizeLine by decide), fun p3 hp3 => ?_⟩
  have s3 := Same.new' (o := .lst (xs.drop 1 ++ xs.take 1)) hp3
  exact ⟨a, p3, xs, _, rfl, .inl ⟨SqL.of (s3 _ _ (s2 _ _ (s1 _ _ e))), SqL.of upd_same⟩, (rot_len xs).symm, by omega, fun d zs H2 s4 hd hz Z => k d zs H2 (((s1.trans s2).trans s3).trans s4) hz ⟨Z.1, fun i x y hx hy => let ⟨T, h1, _, h3⟩ := Z.2 i x y hx hy; ⟨T, h1, h3⟩⟩ (none_of ((s1.trans s2).trans s3) hd)⟩
/-! ### the law's own windings -/
abbrev R2 := Rat × Rat
def subR (p q : R2) : R2 := (q.1 - p.1, q.2 - p.2)
def dotR (p q : R2) : Rat := p.1 * q.1 + p.2 * q.2
def offR (p a b : R2) : Bool := decide ((crossR (subR p a) (subR p b)).num = 0) && decide ((dotR (subR p a) (subR p b)).num ≤ 0)
def stepR (p a b : R2) : Int := WM.stepQ (WM.quarter (subR p a).1.num (subR p a).2.num) (WM.quarter (subR p b).1.num (subR p b).2.num) (0 < (crossR (subR p a) (subR p b)).num)
def lawS (p : R2) : List (R2 × R2) → Int → Option Int
  | [], q => some q
  | (a, b) :: r, q => if offR p a b = true then none else lawS p r (q + stepR p a b)
theorem lawS_cons (p a b : R2) (r : List (R2 × R2)) (q : Int) : lawS p ((a, b) :: r) q = if offR p a b = true then none else lawS p r (q + stepR p a b) := rfl
def spLWind : Sp := fun vs H Q _ => ∃ (a : Addr) (xs : List V) (ps : List R2) (u : V) (p : R2) (n : Nat), vs = [.ref a, u] ∧ H a = some (.lst xs) ∧ All2 (PlL H) xs ps ∧ 2 ≤ xs.length ∧ xs.length ≤ 100 ∧ PlL H u p ∧ (∀ q ∈ p :: ps, Sm n q.1 ∧ Sm n q.2) ∧ n ≤ 60 ∧
  ∀ H', L2.Same H H' → Q (wv ((lawS p (sidesR ps) 0).map fun z => z / 4)) H'
theorem ok_law_winding_of (T : Txt K mg) : FnOk P w K mg base CX0 6 (fA mg "_law_winding_of") (fDat K (fA mg "_law_winding_of")) ["_law_row", "_law_place_here"] spLWind := by
  have G_law_sides := ok_law_sides (P := P) (w := w) (base := base) T
  have G_law_step := ok_law_step (P := P) (w := w) (base := base) T
  have G_law_cross := ok_law_cross (P := P) (w := w) (base := base) T
  have G_law_plus := ok_law_plus (P := P) (w := w) (base := base) T
  have G_law_times := ok_law_times (P := P) (w := w) (base := base) T
  have G_law_quarter := ok_law_quarter (P := P) (w := w) (base := base) T
  refine T._law_winding_of.F.ok sc_law_winding_of (fun vs H Q E h => ?_) (fun cdv A outer s H vs Q E hr h => ?_)
  · obtain ⟨a, xs, ps, u, p, n, rfl, _⟩ := h
    rfl
  obtain ⟨a, xs, ps, u, p, n, rfl, eA, al, l2, lm, plu, sm, hn, k⟩ := h
  refine ⟨_, (pss_cons (ps_set (i := 2) sc_law_winding_of.nd rfl (Or.inl rfl) pe_int)
  (pss_cons (ps_for PassesOwn.never rfl (pi_list (pe_c T._law_sides G_law_sides (hr.mono (by decide)) (pa_cons (pv 0) pa_nil))) (pg_tup rfl (pgs_cons (pg_name (i := 3) sc_law_winding_of.nd rfl (Or.inl rfl)) (pgs_cons (pg_name (i := 4) sc_law_winding_of.nd rfl (Or.inl rfl)) pgs_nil)))
  (pss_cons (ps_par (i := 5) (j := 6) (by rfl) sc_law_winding_of.nd rfl rfl (by decide) rfl rfl (pa_cons (pe_c T._law_step G_law_step (hr.mono (by decide)) (pa_cons (pv 1) (pa_cons (pv 3) pa_nil))) (pa_cons (pe_c T._law_step G_law_step (hr.mono (by decide)) (pa_cons (pv 1) (pa_cons (pv 4) pa_nil))) pa_nil)) (by rfl))
  (pss_cons (ps_set (i := 7) sc_law_winding_of.nd rfl (Or.inl rfl) (pe_ix ix_tup (pe_c T._law_cross G_law_cross (hr.mono (by decide)) (pa_cons (pv 5) (pa_cons (pv 6) pa_nil))) pe_int (fun _ _ => rfl)))
  (pss_cons (ps_set (i := 8) sc_law_winding_of.nd rfl (Or.inl rfl) (pe_ix ix_tup (pe_c T._law_plus G_law_plus (hr.mono (by decide)) (pa_cons (pe_c T._law_times G_law_times (hr.mono (by decide)) (pa_cons (pe_ix ix_tup (pv 5) pe_int (fun _ _ => rfl)) (pa_cons (pe_ix ix_tup (pv 6) pe_int (fun _ _ => rfl)) pa_nil))) (pa_cons (pe_c T._law_times G_law_times (hr.mono (by decide)) (pa_cons (pe_ix ix_tup (pv 5) pe_int (fun _ _ => rfl)) (pa_cons (pe_ix ix_tup (pv 6) pe_int (fun _ _ => rfl)) pa_nil))) pa_nil))) pe_int (fun _ _ => rfl)))
  (pss_cons (ps_if (PW.pt (pw_and (pt_cmpR op_eq (pv 7) pe_int (nomark _)) (pw_and1 (pt_cmpR op_le (pv 8) pe_int (nomark _))))) (pss_one (ps_ret pe_non)) pss_nil)
  (pss_cons (ps_set (i := 9) sc_law_winding_of.nd rfl (Or.inl rfl) (pe_op op_mod (pe_callTy call_int1 (by rfl) T.int (by decide +kernel) (pa_cons (pe_op op_sub (pe_c T._law_quarter G_law_quarter (hr.mono (by decide)) (pa_cons (pv 6) pa_nil)) (pe_c T._law_quarter G_law_quarter (hr.mono (by decide)) (pa_cons (pv 5) pa_nil))) pa_nil)) pe_int))
  (pss_cons (ps_if (pt_cmpR op_eq (pv 9) pe_int (nomark _)) (pss_one (ps_set (i := 9) sc_law_winding_of.nd rfl (Or.inl rfl) (pe_ifExp (pt_cmpR op_gt (pv 7) pe_int (nomark _)) pe_int (pe_un un_neg pe_int)))) pss_nil)
  (pss_one (ps_set (i := 2) sc_law_winding_of.nd rfl (Or.inl rfl) (pe_op op_add (pv 2) (pe_ifExp (pt_cmpR op_eq (pv 9) pe_int (nomark _)) (pe_un un_neg pe_int) (pv 9))))))))))))
  (pss_one (ps_ret (pe_op op_fdiv (pv 2) pe_int))))), ?_⟩
  refine q_set val_c ?_
  refine q_forLC (va_cons (val_var rfl) va_nil) fun Q' q' => ⟨a, xs, rfl, eA, l2, by omega, fun l zs H1 s1 e1 sd _ => q' _ _ ?_⟩
  have lz : (sidesR ps).length = zs.length := by
    unfold sidesR
    rw [List.length_zip, rot_len, Nat.min_self, sd.1, al.len]
  refine q_forL (K := K) val_c (SqL.of e1) (fun i σ H2 => ∃ (q : Int) (z3 z4 z5 z6 z7 z8 z9 : Option V), σ = [some (.ref a), some u, some (.int q), z3, z4, z5, z6, z7, z8, z9] ∧ L2.Same H1 H2 ∧ lawS p ((sidesR ps).drop i) q = lawS p (sidesR ps) 0) ⟨0, none, none, none, none, none, none, none, rfl, L2.Same.refl _, rfl⟩ (fun i σ H2 _ ⟨_, _, _, _, _, _, _, _, _, s2, _⟩ => SqL.of (s2 _ _ e1)) ?_ ?_
  · rintro i z σ H2 hz ⟨q, z3, z4, z5, z6, z7, z8, z9, rfl, s2, ew⟩
    have hi : i < xs.length := by rw [← sd.1]; exact (List.getElem?_eq_some_iff.mp hz).1
    have hx : xs[i]? = some xs[i] := List.getElem?_eq_getElem hi
    have hy : (rot xs)[i]? = some ((rot xs)[i]'(by rw [rot_len]; exact hi)) := List.getElem?_eq_getElem _
    obtain ⟨U, eU, hU⟩ := sd.2 i _ _ hx hy
    rw [hz] at eU
    cases eU
    have s12 := s1.trans s2
    obtain ⟨pa, hpa, plA⟩ := al.get hx
    obtain ⟨pb, hpb, plB⟩ := (rot_get al).get hy
    have mA : pa ∈ ps := get_mem hpa
    have mB : pb ∈ ps := by
      have := get_mem hpb
      unfold rot at this
      rcases List.mem_append.mp this with h | h
      · exact List.mem_of_mem_drop h
      · exact List.mem_of_mem_take h
    have cut : (sidesR ps).drop i = (pa, pb) :: (sidesR ps).drop (i + 1) := by
      have hi2 : i < (sidesR ps).length := by rw [lz, sd.1]; exact hi
      rw [List.drop_eq_getElem_cons hi2]
      congr 1
      have es : (sidesR ps)[i]? = some (pa, pb) := zip_get hpa hpb
      rw [List.getElem?_eq_getElem hi2] at es
      exact Option.some.inj es
    rw [cut, lawS_cons] at ew
    have smP := sm p (List.mem_cons_self ..)
    have smA := sm pa (List.mem_cons_of_mem _ mA)
    have smB := sm pb (List.mem_cons_of_mem _ mB)
    refine g_two (SqT.of (s2 _ _ hU)) ?_
    refine q_par (ta_two (c_call (va_cons (val_var rfl) (va_cons (val_var rfl) va_nil)) ⟨u, _, p, pa, n, rfl, plu.same s12, plA.same s12, smP, smA, by omega, fun f H3 s3 lf => ?_⟩))
    refine c_call (va_cons (val_var rfl) (va_cons (val_var rfl) va_nil)) ⟨u, _, p, pb, n, rfl, (plu.same s12).same s3, (plB.same s12).same s3, smP, smB, by omega, fun g H4 s4 lg => ⟨_, _, rfl, ?_⟩⟩
    have smF : Sm (n + n + 1) (subR p pa).1 ∧ Sm (n + n + 1) (subR p pa).2 := ⟨smA.1.sub smP.1, smA.2.sub smP.2⟩
    have smG : Sm (n + n + 1) (subR p pb).1 ∧ Sm (n + n + 1) (subR p pb).2 := ⟨smB.1.sub smP.1, smB.2.sub smP.2⟩
    have lf4 : PlL H4 (.ref f) (subR p pa) := lf.same s4
    refine q_asg (op_in (c_call (va_cons (val_var rfl) (va_cons (val_var rfl) va_nil)) ⟨.ref f, .ref g, subR p pa, subR p pb, n + n + 1, rfl, lf4, lg, smF, smG, by omega, fun c H5 s5 lc => ?_⟩))
    refine (show tC _ _ _ _ from ⟨c, _, 0, _, rfl, rfl, SqT.of lc, rfl, ?_⟩)
    have lf5 := lf4.same s5
    have lg5 := lg.same s5
    obtain ⟨f', fx, fy, ef, efx, lfx, lfy⟩ := lf5
    cases ef
    obtain ⟨g', gx, gy, eg, egx, lgx, lgy⟩ := lg5
    cases eg
    refine q_asg (op_in (call_1 (c_ltimes (va_cons (v_pl (val_var rfl) efx).1 (va_cons (v_pl (val_var rfl) egx).1 va_nil)) lfx lgx smF.1 smG.1 (by omega) (by omega) fun d H6 s6 ld => va_1 ?_)))
    refine c_ltimes (va_cons (v_pl (val_var rfl) (s6 _ _ efx)).2 (va_cons (v_pl (val_var rfl) (s6 _ _ egx)).2 va_nil)) (lfy.same s6) (lgy.same s6) smF.2 smG.2 (by omega) (by omega) fun d2 H7 s7 ld2 => ?_
    refine cs_lplus (ld.same s7) ld2 (smF.1.mul smG.1) (smF.2.mul smG.2) (by omega) (by omega) fun e H8 s8 le => ?_
    refine (show tC _ _ _ _ from ⟨e, _, 0, _, rfl, rfl, SqT.of le, rfl, ?_⟩)
    have s58 := (s6.trans s7).trans s8
    refine q_when (b := offR p pa pb) (ans_and2 (ans_eq (x := .int (crossR (subR p pa) (subR p pb)).num) (y := .int 0) (val_var rfl) val_c rfl (decide_eq_decide.mpr ⟨fun h => V.int.inj h, fun h => by rw [h]⟩)) (a_I (i := (dotR (subR p pa) (subR p pb)).num) (j := 0) (val_var rfl) val_c)) (fun h => ?_) (fun h => ?_)
    · rw [if_pos h] at ew
      refine st_ret val_c ?_
      have := k H8 ((((s12.trans s3).trans s4).trans s5).trans s58)
      rw [← ew] at this
      exact this
    rw [if_neg (by rw [h]; exact Bool.false_ne_true)] at ew
    have quar : ∀ {σ : L2.St} {te : TE} {v : V} {r : R2}, Val te σ H8 v → PlL H8 v r → Val (tCall spQuar [] E0 (tCons te tNil)) σ H8 (.int (WM.quarter r.1.num r.2.num)) := fun hv pl Q q => c_call (va_cons hv va_nil) ⟨_, _, rfl, pl, q⟩
    have plF : PlL H8 (.ref f) (subR p pa) := (lf4.same s5).same s58
    have plG : PlL H8 (.ref g) (subR p pb) := (lg.same s5).same s58
    generalize hq1 : WM.quarter (subR p pa).1.num (subR p pa).2.num = q1 at *
    generalize hq2 : WM.quarter (subR p pb).1.num (subR p pb).2.num = q2 at *
    have est : stepR p pa pb = WM.stepQ q1 q2 (0 < (crossR (subR p pa) (subR p pb)).num) := by unfold stepR; rw [hq1, hq2]
    refine q_set (v := .int ((q2 - q1) % 4)) (v_mod (i := q2 - q1) (j := 4) (v_int1 (v_sub (by rw [← hq2]; exact quar (val_var rfl) plG) (by rw [← hq1]; exact quar (val_var rfl) plF))) val_c (by decide)) ?_
    generalize ht : (q2 - q1) % 4 = t at *
    refine q_ite (b := decide (t = 2)) (f2 := 9) (v2 := .int (if t = 2 then (if 0 < (crossR (subR p pa) (subR p pb)).num then 2 else -2) else t)) (ans_eq (x := .int t) (y := .int 2) (val_var rfl) val_c rfl (decide_eq_decide.mpr ⟨fun h => V.int.inj h, fun h => by rw [h]⟩)) (fun h => ?_) (fun h => by rw [if_neg (of_decide_eq_false h)]; rfl) ?_
    · rw [if_pos (of_decide_eq_true h)]
      refine v_if2' (b := decide (0 < (crossR (subR p pa) (subR p pb)).num)) (a_I (i := (crossR (subR p pa) (subR p pb)).num) (j := 0) (val_var rfl) val_c) (fun h => ?_) (fun h => ?_)
      · rw [if_pos (of_decide_eq_true h)]
        exact val_c
      · rw [if_neg (of_decide_eq_false h)]
        exact v_neg val_c
    generalize hs : (if t = 2 then (if 0 < (crossR (subR p pa) (subR p pb)).num then (2 : Int) else -2) else t) = t2
    have e9 : stepR p pa pb = if t2 = 3 then -1 else t2 := by
      rw [est]
      unfold WM.stepQ
      rw [ht]
      by_cases h2 : t = 2
      · rw [if_pos h2] at hs ⊢
        rw [hs]
        by_cases hc : 0 < (crossR (subR p pa) (subR p pb)).num
        · rw [if_pos hc] at hs
          rw [if_neg (by omega)]
        · rw [if_neg hc] at hs
          rw [if_neg (by omega)]
      · rw [if_neg h2] at hs ⊢
        rw [hs]
    refine (v_add (i := q) (j := stepR p pa pb) (val_var rfl) (v_if2' (b := decide (t2 = 3)) (ans_eq (x := .int t2) (y := .int 3) (val_var rfl) val_c rfl (decide_eq_decide.mpr ⟨fun h => V.int.inj h, fun h => by rw [h]⟩)) (fun h => ?_) (fun h => ?_)) : Val _ _ _ _) _ ?_
    · rw [e9, if_pos (of_decide_eq_true h)]
      exact v_neg val_c
    · rw [e9, if_neg (of_decide_eq_false h)]
      exact val_var rfl
    exact ⟨_, _, _, _, _, _, _, _, rfl, ((((s2.trans s3).trans s4).trans s5).trans s58), ew⟩
  · rintro σ H2 ⟨q, z3, z4, z5, z6, z7, z8, z9, rfl, s2, ew⟩
    refine st_ret (v_div (i := q) (j := 4) (val_var rfl) val_c ⟨by decide, by decide⟩) ?_
    rw [← lz, List.drop_length] at ew
    have := k H2 (s1.trans s2)
    rw [← ew] at this
    exact this
end
end LW

namespace LW
/-! ### both windings are one -/
theorem num_den' (q : Rat) : (q.num : Rat) = q * (q.den : Rat) := by
  have h : (q.den : Rat) ≠ 0 := by
    intro z
    have : (0 : Rat) < (q.den : Rat) := Rat.natCast_pos.mpr q.den_pos
    rw [z] at this
    exact Rat.lt_irrefl this
  have e := Rat.num_divInt_den q
  rw [Rat.divInt_eq_div] at e
  have e2 := Rat.div_mul_cancel (a := (q.num : Rat)) h
  rw [show ((q.num : Rat) / (q.den : Rat)) = q from e] at e2
  exact e2.symm
theorem sc_cast {D : Nat} {q : Rat} (h : q.den ∣ D) : ((sc D q : Int) : Rat) = q * (D : Rat) := by
  obtain ⟨c, hc⟩ := h
  unfold sc
  rw [hc, Nat.mul_div_cancel_left _ (Rat.den_pos _), Rat.intCast_mul, num_den', Rat.mul_assoc]
  congr 1
  rw [Rat.natCast_mul]
  rfl
theorem sgn {r : Rat} {x : Int} {c : Nat} (h : (x : Rat) = r * (c : Rat)) : x * (r.den : Int) = r.num * (c : Int) := by
  have e : ((x * (r.den : Int) : Int) : Rat) = ((r.num * (c : Int) : Int) : Rat) := by
    rw [Rat.intCast_mul, Rat.intCast_mul, h, num_den']
    show r * (c : Rat) * (r.den : Rat) = r * (r.den : Rat) * (c : Rat)
    rw [Rat.mul_assoc, Rat.mul_comm (c : Rat), ← Rat.mul_assoc]
  exact Rat.intCast_inj.mp e
theorem sg3 {r : Rat} {x : Int} {c : Nat} (c0 : 0 < c) (h : (x : Rat) = r * (c : Rat)) : (0 < r.num ↔ 0 < x) ∧ (r.num = 0 ↔ x = 0) ∧ (r.num < 0 ↔ x < 0) := by
  have e := sgn h
  have d0 : (0 : Int) < (r.den : Int) := by have := r.den_pos; omega
  have c1 : (0 : Int) < (c : Int) := by omega
  have f : ∀ {a b : Int}, 0 < b → (0 < a → 0 < a * b) ∧ (a = 0 → a * b = 0) ∧ (a < 0 → a * b < 0) := fun hb => ⟨fun h => Int.mul_pos h hb, fun h => by rw [h, Int.zero_mul], fun h => Int.mul_neg_of_neg_of_pos h hb⟩
  have fx := f (a := x) d0
  have fn := f (a := r.num) c1
  rw [e] at fx
  rcases Int.lt_trichotomy x 0 with hx | hx | hx <;> rcases Int.lt_trichotomy r.num 0 with hn | hn | hn <;> simp only [hx, hn, forall_const] at fx fn <;> omega
theorem quarter_congr {a b x y : Int} (h1 : (0 < a ↔ 0 < x) ∧ (a = 0 ↔ x = 0) ∧ (a < 0 ↔ x < 0)) (h2 : (0 < b ↔ 0 < y) ∧ (b = 0 ↔ y = 0) ∧ (b < 0 ↔ y < 0)) : WM.quarter a b = WM.quarter x y := by
  unfold WM.quarter
  have e1 : (0 < a ∧ 0 ≤ b) ↔ (0 < x ∧ 0 ≤ y) := by omega
  have e2 : (a ≤ 0 ∧ 0 < b) ↔ (x ≤ 0 ∧ 0 < y) := by omega
  have e3 : (a < 0) ↔ (x < 0) := by omega
  simp only [e1, e2, e3]
theorem stepQ_congr {q r : Int} {u v : Prop} [Decidable u] [Decidable v] (h : u ↔ v) : WM.stepQ q r u = WM.stepQ q r v := by
  unfold WM.stepQ
  by_cases hu : u
  · have hv := h.mp hu
    simp [hu, hv]
  · have hv : ¬ v := fun z => hu (h.mpr z)
    simp [hu, hv]
theorem mulneg {a b : Int} : a * b ≤ 0 ↔ (a ≤ 0 ∧ 0 ≤ b) ∨ (0 ≤ a ∧ b ≤ 0) := by
  constructor
  · intro h
    rcases Int.lt_trichotomy a 0 with ha | ha | ha <;> rcases Int.lt_trichotomy b 0 with hb | hb | hb
    · have := Int.mul_pos_of_neg_of_neg ha hb; omega
    · omega
    · omega
    · omega
    · omega
    · omega
    · omega
    · omega
    · have := Int.mul_pos ha hb; omega
  · rintro (⟨h1, h2⟩ | ⟨h1, h2⟩)
    · exact Int.mul_nonpos_of_nonpos_of_nonneg h1 h2
    · exact Int.mul_nonpos_of_nonneg_of_nonpos h1 h2
theorem betw_iff {a b n : Int} : betw a b n = true ↔ (a - n) * (b - n) ≤ 0 := by
  unfold betw
  rw [mulneg]
  simp
  omega
theorem dot_iff {x y z w : Int} (hc : x * w - y * z = 0) : x * z + y * w ≤ 0 ↔ x * z ≤ 0 ∧ y * w ≤ 0 := by
  constructor
  · intro h
    have e : (x * z) * (y * w) = (x * w) * (x * w) := by
      have e1 : x * w = y * z := by omega
      calc (x * z) * (y * w) = (x * w) * (y * z) := by grind
        _ = _ := by rw [← e1]
    have sq : 0 ≤ (x * w) * (x * w) := by
      rcases Int.le_total 0 (x * w) with h | h
      · exact Int.mul_nonneg h h
      · exact Int.mul_nonneg_of_nonpos_of_nonpos h h
    rw [← e] at sq
    refine ⟨?_, ?_⟩
    · refine Int.not_lt.mp fun hp => ?_
      have hn : y * w < 0 := by omega
      have := Int.mul_neg_of_pos_of_neg hp hn
      omega
    · refine Int.not_lt.mp fun hp => ?_
      have hn : x * z < 0 := by omega
      have := Int.mul_neg_of_neg_of_pos hn hp
      omega
  · rintro ⟨h1, h2⟩
    omega
section
variable (Dx Dy : Nat) (p : R2)
/-- a point as seen from the place, over one bottom -/
def xI (a : R2) : Int := (sc Dx a.1 - sc Dx p.1) * (Dy : Int)
def yI (a : R2) : Int := (sc Dy a.2 - sc Dy p.2) * (Dx : Int)
end
variable {Dx Dy : Nat} {p : R2}
theorem scale3 {X : Int} {D : Nat} (d0 : 0 < D) : (0 < X * (D : Int) ↔ 0 < X) ∧ (X * (D : Int) = 0 ↔ X = 0) ∧ (X * (D : Int) < 0 ↔ X < 0) := by
  have d1 : (0 : Int) < (D : Int) := by omega
  have f : (0 < X → 0 < X * (D : Int)) ∧ (X = 0 → X * (D : Int) = 0) ∧ (X < 0 → X * (D : Int) < 0) := ⟨fun h => Int.mul_pos h d1, fun h => by rw [h, Int.zero_mul], fun h => Int.mul_neg_of_neg_of_pos h d1⟩
  rcases Int.lt_trichotomy X 0 with hx | hx | hx
  · have g := f.2.2 hx; omega
  · have g := f.2.1 hx; omega
  · have g := f.1 hx; omega
theorem sub_np {a b : Int} : a - b ≤ 0 ↔ a ≤ b := by omega
theorem nonpos {x X : Int} (h : 0 < x ↔ 0 < X) : x ≤ 0 ↔ X ≤ 0 := Int.not_lt.symm.trans ((not_congr h).trans Int.not_lt)
theorem nonneg {x X : Int} (h : x < 0 ↔ X < 0) : 0 ≤ x ↔ 0 ≤ X := Int.not_lt.symm.trans ((not_congr h).trans Int.not_lt)
theorem mul_scale {X Y x y : Int} (hx : (0 < x ↔ 0 < X) ∧ (x = 0 ↔ X = 0) ∧ (x < 0 ↔ X < 0)) (hy : (0 < y ↔ 0 < Y) ∧ (y = 0 ↔ Y = 0) ∧ (y < 0 ↔ Y < 0)) : x * y ≤ 0 ↔ X * Y ≤ 0 := by
  rw [mulneg, mulneg, nonpos hx.1, nonneg hy.2.2, nonneg hx.2.2, nonpos hy.1]
def Ok (Dx Dy : Nat) (a : R2) : Prop := a.1.den ∣ Dx ∧ a.2.den ∣ Dy
theorem x_cast {a : R2} (ha : Ok Dx Dy a) (hp : Ok Dx Dy p) : ((xI Dx Dy p a : Int) : Rat) = (subR p a).1 * ((Dx * Dy : Nat) : Rat) := by
  unfold xI subR
  rw [Rat.intCast_mul, Rat.intCast_sub, sc_cast ha.1, sc_cast hp.1, Rat.natCast_mul]
  show (a.1 * (Dx : Rat) - p.1 * (Dx : Rat)) * (Dy : Rat) = (a.1 - p.1) * ((Dx : Rat) * (Dy : Rat))
  grind
theorem y_cast {a : R2} (ha : Ok Dx Dy a) (hp : Ok Dx Dy p) : ((yI Dx Dy p a : Int) : Rat) = (subR p a).2 * ((Dx * Dy : Nat) : Rat) := by
  unfold yI subR
  rw [Rat.intCast_mul, Rat.intCast_sub, sc_cast ha.2, sc_cast hp.2, Rat.natCast_mul]
  show (a.2 * (Dy : Rat) - p.2 * (Dy : Rat)) * (Dx : Rat) = (a.2 - p.2) * ((Dx : Rat) * (Dy : Rat))
  grind
theorem cross_cast {a b : R2} (ha : Ok Dx Dy a) (hb : Ok Dx Dy b) (hp : Ok Dx Dy p) : ((WM.cross (xI Dx Dy p a) (yI Dx Dy p a) (xI Dx Dy p b) (yI Dx Dy p b) : Int) : Rat) = crossR (subR p a) (subR p b) * (((Dx * Dy) * (Dx * Dy) : Nat) : Rat) := by
  unfold WM.cross crossR
  rw [Rat.intCast_sub, Rat.intCast_mul, Rat.intCast_mul, x_cast ha hp, y_cast ha hp, x_cast hb hp, y_cast hb hp, Rat.natCast_mul (Dx * Dy)]
  generalize ((Dx * Dy : Nat) : Rat) = D
  grind
theorem dot_cast {a b : R2} (ha : Ok Dx Dy a) (hb : Ok Dx Dy b) (hp : Ok Dx Dy p) : ((xI Dx Dy p a * xI Dx Dy p b + yI Dx Dy p a * yI Dx Dy p b : Int) : Rat) = dotR (subR p a) (subR p b) * (((Dx * Dy) * (Dx * Dy) : Nat) : Rat) := by
  unfold dotR
  rw [Rat.intCast_add, Rat.intCast_mul, Rat.intCast_mul, x_cast ha hp, y_cast ha hp, x_cast hb hp, y_cast hb hp, Rat.natCast_mul (Dx * Dy)]
  generalize ((Dx * Dy : Nat) : Rat) = D
  grind
theorem turn_cross (a b : R2) : WM.cross (xI Dx Dy p a) (yI Dx Dy p a) (xI Dx Dy p b) (yI Dx Dy p b) = turnI (scp Dx Dy p) (scp Dx Dy a) (scp Dx Dy b) * ((Dx * Dy : Nat) : Int) := by
  unfold WM.cross xI yI turnI scp
  show (sc Dx a.1 - sc Dx p.1) * (Dy : Int) * ((sc Dy b.2 - sc Dy p.2) * (Dx : Int)) - (sc Dy a.2 - sc Dy p.2) * (Dx : Int) * ((sc Dx b.1 - sc Dx p.1) * (Dy : Int)) = ((sc Dx b.1 - sc Dx a.1) * (sc Dy p.2 - sc Dy a.2) - (sc Dy b.2 - sc Dy a.2) * (sc Dx p.1 - sc Dx a.1)) * ((Dx : Int) * (Dy : Int))
  grind
theorem side_one (dx0 : 0 < Dx) (dy0 : 0 < Dy) (hp : Ok Dx Dy p) {a b : R2} (ha : Ok Dx Dy a) (hb : Ok Dx Dy b) :
    (offR p a b = true ↔ onI (scp Dx Dy p) (scp Dx Dy a) (scp Dx Dy b) = true) ∧
    (offR p a b = false → stepR p a b = WM.level (xI Dx Dy p b) (yI Dx Dy p b) - WM.level (xI Dx Dy p a) (yI Dx Dy p a) +
      4 * ((if upI (scp Dx Dy p) (scp Dx Dy a) (scp Dx Dy b) = true then 1 else 0) - (if dnI (scp Dx Dy p) (scp Dx Dy a) (scp Dx Dy b) = true then 1 else 0))) := by
  have d0 : 0 < Dx * Dy := Nat.mul_pos dx0 dy0
  have dd0 : 0 < (Dx * Dy) * (Dx * Dy) := Nat.mul_pos d0 d0
  have c3 := sg3 dd0 (cross_cast ha hb hp)
  have t3 := sg3 dd0 (dot_cast ha hb hp)
  have xa := sg3 d0 (x_cast ha hp)
  have ya := sg3 d0 (y_cast ha hp)
  have xb := sg3 d0 (x_cast hb hp)
  have yb := sg3 d0 (y_cast hb hp)
  have tc := scale3 (X := turnI (scp Dx Dy p) (scp Dx Dy a) (scp Dx Dy b)) d0
  rw [← turn_cross a b] at tc
  have sxa := scale3 (X := sc Dx a.1 - sc Dx p.1) dy0
  have sya := scale3 (X := sc Dy a.2 - sc Dy p.2) dx0
  have sxb := scale3 (X := sc Dx b.1 - sc Dx p.1) dy0
  have syb := scale3 (X := sc Dy b.2 - sc Dy p.2) dx0
  have qa := quarter_congr xa ya
  have qb := quarter_congr xb yb
  have bx : betw (scp Dx Dy a).1 (scp Dx Dy b).1 (scp Dx Dy p).1 = true ↔ xI Dx Dy p a * xI Dx Dy p b ≤ 0 := betw_iff.trans (mul_scale sxa sxb).symm
  have bY : betw (scp Dx Dy a).2 (scp Dx Dy b).2 (scp Dx Dy p).2 = true ↔ yI Dx Dy p a * yI Dx Dy p b ≤ 0 := betw_iff.trans (mul_scale sya syb).symm
  have off : offR p a b = true ↔ WM.cross (xI Dx Dy p a) (yI Dx Dy p a) (xI Dx Dy p b) (yI Dx Dy p b) = 0 ∧ xI Dx Dy p a * xI Dx Dy p b + yI Dx Dy p a * yI Dx Dy p b ≤ 0 := by
    unfold offR
    rw [Bool.and_eq_true, decide_eq_true_eq, decide_eq_true_eq, c3.2.1, nonpos t3.1]
  refine ⟨?_, fun h => ?_⟩
  · rw [off]
    unfold onI
    rw [Bool.and_eq_true, Bool.and_eq_true, decide_eq_true_eq, bx, bY]
    constructor
    · rintro ⟨h1, h2⟩
      exact ⟨tc.2.1.mp h1, (dot_iff h1).mp h2⟩
    · rintro ⟨h1, h2⟩
      have h3 := tc.2.1.mpr h1
      exact ⟨h3, (dot_iff h3).mpr h2⟩
  · have h' : ¬ (WM.cross (xI Dx Dy p a) (yI Dx Dy p a) (xI Dx Dy p b) (yI Dx Dy p b) = 0 ∧ xI Dx Dy p a * xI Dx Dy p b + yI Dx Dy p a * yI Dx Dy p b ≤ 0) := fun z => by rw [off.mpr z] at h; cases h
    have s := WM.side h'
    have e1 : stepR p a b = WM.stepQ (WM.quarter (xI Dx Dy p a) (yI Dx Dy p a)) (WM.quarter (xI Dx Dy p b) (yI Dx Dy p b)) (0 < WM.cross (xI Dx Dy p a) (yI Dx Dy p a) (xI Dx Dy p b) (yI Dx Dy p b)) := by
      unfold stepR
      rw [qa, qb]
      exact stepQ_congr c3.1
    have up : (yI Dx Dy p a ≤ 0 ∧ 0 < yI Dx Dy p b ∧ 0 < WM.cross (xI Dx Dy p a) (yI Dx Dy p a) (xI Dx Dy p b) (yI Dx Dy p b)) ↔ upI (scp Dx Dy p) (scp Dx Dy a) (scp Dx Dy b) = true := by
      unfold upI
      rw [Bool.and_eq_true, Bool.and_eq_true, decide_eq_true_eq, decide_eq_true_eq, decide_eq_true_eq, show yI Dx Dy p a ≤ 0 ↔ _ from nonpos sya.1, show 0 < yI Dx Dy p b ↔ _ from syb.1, tc.1, sub_np, Int.sub_pos]
      exact and_assoc.symm
    have dn : (yI Dx Dy p b ≤ 0 ∧ 0 < yI Dx Dy p a ∧ WM.cross (xI Dx Dy p a) (yI Dx Dy p a) (xI Dx Dy p b) (yI Dx Dy p b) < 0) ↔ dnI (scp Dx Dy p) (scp Dx Dy a) (scp Dx Dy b) = true := by
      unfold dnI
      rw [Bool.and_eq_true, Bool.and_eq_true, decide_eq_true_eq, decide_eq_true_eq, decide_eq_true_eq, show yI Dx Dy p b ≤ 0 ↔ _ from nonpos syb.1, show 0 < yI Dx Dy p a ↔ _ from sya.1, tc.2.2, sub_np, Int.sub_pos]
      exact and_assoc.symm
    rw [e1, s]
    unfold WM.pass
    simp only [up, dn]
def lvl (Dx Dy : Nat) (p a : R2) : Int := WM.level (xI Dx Dy p a) (yI Dx Dy p a)
def scS (Dx Dy : Nat) (s : R2 × R2) : P2 × P2 := (scp Dx Dy s.1, scp Dx Dy s.2)
theorem chain (dx0 : 0 < Dx) (dy0 : 0 < Dy) (hp : Ok Dx Dy p) : ∀ (ss : List (R2 × R2)), (∀ s ∈ ss, Ok Dx Dy s.1 ∧ Ok Dx Dy s.2) → ∀ q f : Int,
    (lawS p ss q = none ∧ windS (scp Dx Dy p) (ss.map (scS Dx Dy)) f = none) ∨ ∃ g, windS (scp Dx Dy p) (ss.map (scS Dx Dy)) f = some g ∧ lawS p ss q = some (q + (ss.map fun s => lvl Dx Dy p s.2 - lvl Dx Dy p s.1).sum + 4 * (g - f))
  | [], _, q, f => .inr ⟨f, rfl, by
    show some q = some (q + 0 + 4 * (f - f))
    congr 1
    omega⟩
  | (a, b) :: ss, h, q, f => by
    obtain ⟨ha, hb⟩ := h _ (List.mem_cons_self ..)
    obtain ⟨h1, h2⟩ := side_one dx0 dy0 hp ha hb
    rw [List.map_cons, lawS_cons]
    show (_ ∧ windS _ ((scp Dx Dy a, scp Dx Dy b) :: _) f = none) ∨ ∃ g, windS _ ((scp Dx Dy a, scp Dx Dy b) :: _) f = some g ∧ _
    rw [windS_cons]
    cases e : offR p a b with
    | true =>
      rw [if_pos (h1.mp e), if_pos rfl]
      exact .inl ⟨rfl, rfl⟩
    | false =>
      have e2 : ¬ onI (scp Dx Dy p) (scp Dx Dy a) (scp Dx Dy b) = true := fun z => by rw [h1.mpr z] at e; cases e
      rw [if_neg e2, if_neg Bool.false_ne_true]
      have st := h2 e
      rcases chain dx0 dy0 hp ss (fun s hs => h s (List.mem_cons_of_mem _ hs)) (q + stepR p a b) ((f + if upI (scp Dx Dy p) (scp Dx Dy a) (scp Dx Dy b) = true then 1 else 0) - if dnI (scp Dx Dy p) (scp Dx Dy a) (scp Dx Dy b) = true then 1 else 0) with ⟨n1, n2⟩ | ⟨g, g1, g2⟩
      · exact .inl ⟨n1, n2⟩
      · refine .inr ⟨g, g1, ?_⟩
        rw [g2]
        congr 1
        rw [List.map_cons, List.sum_cons, st]
        show _ = q + (lvl Dx Dy p b - lvl Dx Dy p a + _) + _
        unfold lvl
        dsimp only
        omega
theorem zip_sum (g : R2 → Int) : ∀ (as bs : List R2), as.length = bs.length → ((List.zip as bs).map fun s => g s.2 - g s.1).sum = (bs.map g).sum - (as.map g).sum
  | [], [], _ => rfl
  | a :: as, b :: bs, h => by
    have := zip_sum g as bs (by simpa using h)
    simp only [List.zip_cons_cons, List.map_cons, List.sum_cons, this]
    omega
theorem rot_sum (g : R2 → Int) (ps : List R2) : ((rot ps).map g).sum = (ps.map g).sum := by
  unfold rot
  rw [List.map_append, List.sum_append]
  have e := List.take_append_drop 1 ps
  calc ((ps.drop 1).map g).sum + ((ps.take 1).map g).sum = ((ps.take 1).map g).sum + ((ps.drop 1).map g).sum := by omega
    _ = (ps.map g).sum := by rw [← List.sum_append, ← List.map_append, e]
theorem sides_map (ps : List R2) : sidesR (ps.map (scp Dx Dy)) = (sidesR ps).map (scS Dx Dy) := by
  unfold sidesR
  have e : rot (ps.map (scp Dx Dy)) = (rot ps).map (scp Dx Dy) := by unfold rot; rw [List.map_append, List.map_drop, List.map_take]
  rw [e, List.zip_map]
  rfl
theorem sides_mem {ps : List R2} {s : R2 × R2} (h : s ∈ sidesR ps) : s.1 ∈ ps ∧ s.2 ∈ ps := by
  obtain ⟨a, b⟩ := s
  have h1 := List.of_mem_zip h
  refine ⟨h1.1, ?_⟩
  have := h1.2
  unfold rot at this
  rcases List.mem_append.mp this with h | h
  · exact List.mem_of_mem_drop h
  · exact List.mem_of_mem_take h
theorem wind_law (dx0 : 0 < Dx) (dy0 : 0 < Dy) {ps : List R2} (h : ∀ q ∈ p :: ps, Ok Dx Dy q) : windS (scp Dx Dy p) (sidesR (ps.map (scp Dx Dy))) 0 = (lawS p (sidesR ps) 0).map fun z => z / 4 := by
  rw [sides_map]
  have hp := h p (List.mem_cons_self ..)
  rcases chain dx0 dy0 hp (sidesR ps) (fun s hs => ⟨h _ (List.mem_cons_of_mem _ (sides_mem hs).1), h _ (List.mem_cons_of_mem _ (sides_mem hs).2)⟩) 0 0 with ⟨n1, n2⟩ | ⟨g, g1, g2⟩
  · rw [n1, n2]; rfl
  · rw [g1, g2]
    have z : ((sidesR ps).map fun s => lvl Dx Dy p s.2 - lvl Dx Dy p s.1).sum = 0 := by
      unfold sidesR
      rw [zip_sum (lvl Dx Dy p) ps (rot ps) (rot_len ps).symm, rot_sum]
      omega
    rw [z]
    show some g = some ((0 + 0 + 4 * (g - 0)) / 4)
    congr 1
    omega
end LW

namespace LW
open PySem PySem.Spec PyProof.Rows L2 GL
section
variable {P : Program} {w : World} {K : PySem.W.Frag} {mg : Str → Option Value} {base : Heap}

/-! ### the rest of the law's helpers -/
def spLPlace : Sp := fun vs H Q _ => ∃ (p c : Addr) (m : Nat), vs = [.ref p, .int 3] ∧ PenAt H p c m ∧ m + 6 < most ∧ ∀ (v : V) (H' : Hp) (q : R2), PlL H' v q → Sm 10 q.1 ∧ Sm 10 q.2 → But p H H' → PenAt H' p c (m + 6) → Q v H'
theorem ok_law_place (T : Txt K mg) : FnOk P w K mg base CX0 6 (fA mg "_law_place") (fDat K (fA mg "_law_place")) ["_law_pen_here", "_law_most"] spLPlace := by
  have G_law_ratio := ok_law_ratio (P := P) (w := w) (base := base) T
  refine T._law_place.F.ok sc_law_place (fun vs H Q E h => ?_) (fun cdv A outer s H vs Q E hr h => ?_)
  · obtain ⟨p, c, m, rfl, _⟩ := h
    rfl
  obtain ⟨p, c, m, rfl, hP, hm, k⟩ := h
  refine ⟨_, (pss_one (ps_ret (pe_tup (pa_cons (pe_c T._law_ratio G_law_ratio (hr.mono (by decide)) (pa_cons (pv 0) (pa_cons (pv 1) pa_nil))) (pa_cons (pe_c T._law_ratio G_law_ratio (hr.mono (by decide)) (pa_cons (pv 0) (pa_cons (pv 1) pa_nil))) pa_nil))))), ?_⟩
  refine r_ret (tup_two (c_call (va_cons (val_var rfl) (va_cons (val_var rfl) va_nil)) ⟨p, c, m, 3, rfl, hP, by omega, by decide, by decide, fun t H1 q l1 s1 b1 P1 => ?_⟩))
  refine c_call (va_cons (val_var rfl) (va_cons (val_var rfl) va_nil)) ⟨p, c, m + 3, 3, rfl, P1, by omega, by decide, by decide, fun t2 H2 q2 l2 s2 b2 P2 => ⟨by show 2 ≤ sizeLine; decide, fun z hz => ?_⟩⟩
  have s3 := Same.new' (o := .tup [.ref t, .ref t2]) hz
  exact k (.ref z) _ (q, q2) ⟨z, t, t2, rfl, upd_same, (b2.lo P1 l1).same s3, l2.same s3⟩ ⟨s1, s2⟩ ((b1.trans b2).trans (But.of s3)) (P2.same s3)
def spWhole2 : Sp := fun vs H Q _ => ∃ z : Int, vs = [.int z] ∧ Q (.bl true) H
theorem ok_law_is_whole (T : Txt K mg) : FnOk P w K mg base CX0 1 (fA mg "_law_is_whole") (fDat K (fA mg "_law_is_whole")) ["_law_thing"] spWhole2 := by
  refine T._law_is_whole.F.ok sc_law_is_whole (fun vs H Q E h => ?_) (fun cdv A outer s H vs Q E hr h => ?_)
  · obtain ⟨z, rfl, _⟩ := h
    rfl
  obtain ⟨z, rfl, k⟩ := h
  refine ⟨_, (pss_one (ps_ret (pe_and (pe_callB call_isi (by rfl) T.isinstance (by decide +kernel) (pa_cons (pv 0) (pa_cons (pe_bltn (v := .ty "int") (by rfl) T.int (by decide +kernel) rfl) pa_nil))) (pe_one (pe_not (pe_callB call_isi (by rfl) T.isinstance (by decide +kernel) (pa_cons (pv 0) (pa_cons (pe_bltn (v := .ty "bool") (by rfl) T.bool (by decide +kernel) rfl) pa_nil)))))))), ?_⟩
  obtain ⟨ty, hn⟩ := (Is.int (H := H) z).ty (K := K)
  refine r_ret ((v_isi (val_var rfl) ty (kit_int hn)) _ ⟨_, rfl, iteT ?_⟩)
  exact (v_isi (val_var rfl) ty (kit_bool hn)) _ ⟨_, rfl, k⟩
/-! ### the error of a call -/
theorem ExcC.xf {K : PySem.W.Frag} {C : Addr} (e : ExcC K C) : XfC K C := ⟨e.1, e.2, e.3, e.4⟩
theorem s_asg1 {te : TE} {i : Nat} {D : Ends} {σ : L2.St} {H : Hp} (h : te σ H fun v H1 => D.nx (σ.set i (some v)) H1) : tAsg te (gName i) D σ H := h
/-- what _law_fault makes of a call that ends by BadRow -/
def TTfault (K : PySem.W.Frag) (mg : Str → Option Value) : (XK → Hp → VK → Prop) → Hp → VK → Prop := fun tl H Q => ∀ H1, L2.Same H H1 →
  tl (fun cls d H' => cls = .ref (fA mg "BadRow") ∧ ∃ (dd : Addr) (v : V), d = some dd ∧ H' dd = some (.xd [("row", v)]) ∧ ∀ (p : Addr) (H2 : Hp), L2.Same H' H2 → H2 p = some (.tup [.str "row", v]) → Q (.ref p) H2) H1 (fun _ _ => False)
theorem fault_gives {X : Cx} (T : Txt X.K X.mg) (hq : Quiet X.A) {q : Str} {cdg : Value} (hr : ∀ e, Room 1 (X.A.deeper e)) : LamX.GivesTo X ["_law_call", "_law_told", "error"] "_law_fault" (defScope s_law_fault) (fA X.mg "_law_fault") cdg (defBody s_law_fault) "_law_call" q (TTfault X.K X.mg) := by
  intro f c' s H Q tl act hc h
  have xN := ExcC.xf T.BadNumber.e
  have xR := ExcC.xf T.BadRow.e
  have xS := ExcC.xf T.Shared.e
  have xP := ExcC.xf T.NoRest.e
  refine ⟨_, pss_cons (ps_set (i := 1) sc_law_fault.nd rfl (Or.inl rfl) (pe_tup (pa_cons pe_str pa_nil))) (pss_cons (TN.ps_try_names (X := (cxOf C8.CX0 X.prog X.w X.K X.mg X.base ["_law_call", "_law_told", "error"] "_law_fault" (defScope s_law_fault) (fA X.mg "_law_fault") cdg X.A X.stack s H C8.E0).nox) (tb := fun W D σ H => ∃ (Ech : XK) (Nx : Hp → Prop), (∀ cls d σ' H', Ech cls d H' → W cls d σ' H') ∧ (∀ σ' H', Nx H' → D.nx σ' H') ∧ σ[0]? = some (some (.ref f)) ∧ H c' = some (LamX.CodeO c' q) ∧ tl Ech H (fun _ H' => Nx H'))
      rfl rfl sc_law_fault.nd LamX.takes0 (fun W pn xe tk _ => ?_)
      (.cons (i := 2) rfl rfl ⟨by rfl, by decide, .inl T.BadNumber.g⟩ (fun a oe cls d pn hz hf => pss_one (ps_set (i := 1) sc_law_fault.nd rfl (Or.inl rfl) (pe_tup (pa_cons pe_str (pa_cons (pe_xf xN (T.BadNumber.n _ (by simp)) hz hf (pv 2)) (pa_cons (pe_callB (id := "repr") (show CallR _ _ (rShow X.K) from call_show ?_ ?_) (by rfl) T.repr (by decide +kernel) (pa_cons (pe_xf xN (T.BadNumber.n _ (by simp)) hz hf (pv 2)) pa_nil)) pa_nil))))))
      (.cons (i := 2) rfl rfl ⟨by rfl, by decide, .inl T.BadRow.g⟩ (fun a oe cls d pn hz hf => pss_one (ps_set (i := 1) sc_law_fault.nd rfl (Or.inl rfl) (pe_tup (pa_cons pe_str (pa_cons (pe_xf xR (T.BadRow.n _ (by simp)) hz hf (pv 2)) pa_nil)))))
      (.cons (i := 2) rfl rfl ⟨by rfl, by decide, .inl T.Shared.g⟩ (fun a oe cls d pn hz hf => pss_one (ps_set (i := 1) sc_law_fault.nd rfl (Or.inl rfl) (pe_tup (pa_cons pe_str (pa_cons (pe_xf xS (T.Shared.n _ (by simp)) hz hf (pv 2)) pa_nil)))))
      (.cons (i := 2) rfl rfl ⟨by rfl, by decide, .inl T.NoRest.g⟩ (fun a oe cls d pn hz hf => pss_one (ps_set (i := 1) sc_law_fault.nd rfl (Or.inl rfl) (pe_tup (pa_cons pe_str (pa_cons (pe_xf xP (T.NoRest.n _ (by simp)) hz hf (pv 2)) pa_nil)))))
      (.plain ⟨by rfl, by decide, .inl T.NotRound.g⟩ (fun a oe cls d pn hz hf => pss_one (ps_set (i := 1) sc_law_fault.nd rfl (Or.inl rfl) (pe_tup (pa_cons pe_str pa_nil)))) .nil))))))
      (pss_one (ps_ret (pv 1)))), ?_⟩
  case refine_1 =>
    refine ⟨fun pins s' σ H' D I h' => ?_⟩
    obtain ⟨Ech, Nx, hW, hN, h1, h2, h3⟩ := h'
    refine wpAny_mono ((pss_one (ps_expr (act W pn xe Ech _ _ tk hW))).run pins s' σ H' { nx := fun _ H2 => Nx H2, rt := D.rt, bk := D.bk, ct := D.ct } I ⟨h1, h2, h3⟩) (fun fl s2 e => ?_) fun _ _ z => z
    cases fl with
    | next =>
      obtain ⟨σ2, H2, I2, q2⟩ := e
      exact ⟨σ2, H2, I2, hN σ2 H2 q2⟩
    | brk => exact e
    | cont => exact e
    | ret u => exact e
  case refine_4 =>
    refine q_asg (l_tup (va_cons val_c va_nil) (by show 1 ≤ 100000; decide) fun t ht => ?_)
    have s1 := Same.new' (o := .tup [.str "none"]) ht
    refine ⟨_, fun _ => False, fun cls d σ' H' e => ?_, fun _ _ z => z.elim, rfl, s1 _ _ hc, (h _ s1 : tl _ _ _)⟩
    obtain ⟨rfl, dd, v, rfl, hx, k⟩ := e
    intro hl
    refine ⟨false, T.xBadRowBadNumber, And.intro (fun z => (Bool.false_ne_true z).elim) (fun _ => ?_)⟩
    refine ⟨true, T.xBadRowBadRow, And.intro (fun _ a ha => ?_) (fun z => (Bool.false_ne_true z.symm).elim)⟩
    have hl3 : σ'.length = 3 := hl
    have h1 : (σ'.set 2 (some (V.ref a)))[2]? = some (some (V.ref a)) := by
      rw [List.getElem?_set_self (by rw [hl3]; decide)]
    have n1 : Val (tXf a (.ref (fA X.mg "BadRow")) (some dd) (fA X.mg "BadRow") "row" (tVar 2)) (σ'.set 2 (some (V.ref a))) H' v := fun Q q => (val_var h1) _ ⟨rfl, rfl, dd, _, _, rfl, hx, rfl, q⟩
    show tAsg (tTup (tCons (tC (.str "row")) (tCons (tXf a (.ref (fA X.mg "BadRow")) (some dd) (fA X.mg "BadRow") "row" (tVar 2)) tNil))) (gName 1) _ _ _
    refine s_asg1 (l_tup (va_cons val_c (va_cons n1 va_nil)) (by show 2 ≤ 100000; decide) fun p hp => ?_)
    refine st_ret (val_var ?_) (k p _ (Same.new' hp) upd_same)
    rw [List.getElem?_set_ne (by decide), List.getElem?_set_self (by rw [List.length_set, hl3]; decide)]
  all_goals first | exact hq | exact (hu64 (hr (envOfC "_law_fault" (defScope s_law_fault) s.heap.objs.size (fA X.mg "_law_fault") cdg)) :)
end
end LW

namespace LW
open PySem PySem.Spec PyProof.Rows L2 GL
section
variable {P : Program} {w : World} {K : PySem.W.Frag} {mg : Str → Option Value} {base : Heap}
/-! ### comprehensions that draw from the pen -/
section
variable {σ : L2.St} {H : Hp} {te ti : TE} {ta : TA} {vs : List Nat} {Q : VK} {a p c : Addr} {xs : List V} {R : Addr → Nat → V → Hp → Prop} {m k j : Nat}
def EB (p c : Addr) (te : TE) (σ : L2.St) (H : Hp) (m : Nat) (R : V → Hp → Prop) : Prop := ∀ Q : VK, (∀ v H', But p H H' → PenAt H' p c m → R v H' → Q v H') → te σ H Q
def BuS (R : Addr → Nat → V → Hp → Prop) : Prop := ∀ D i v H H' p c m, R D i v H → PenAt H p c m → But p H H' → R D i v H'
def OffD (R : Addr → Nat → V → Hp → Prop) : Prop := ∀ D i v H ys zs, R D i v H → H D = some (.lst ys) → R D i v (upd H D (.lst zs))
def LcB (R : Addr → Nat → V → Hp → Prop) (p c : Addr) (H : Hp) (m k : Nat) (D : Addr) (i : Nat) (H' : Hp) : Prop := ∃ ys, But p H H' ∧ PenAt H' p c (m + k * i) ∧ H' D = some (.lst ys) ∧ H D = none ∧ Run (R D) 0 ys H' ∧ ys.length = i
theorem Run.map {R S : Nat → V → Hp → Prop} {H H' : Hp} (f : ∀ k v, R k v H → S k v H') : ∀ {k : Nat} {xs : List V}, Run R k xs H → Run S k xs H'
  | _, [], _ => trivial
  | _, _ :: _, ⟨x, y⟩ => ⟨f _ _ x, Run.map f y⟩
theorem PenAt.updN {H H0 : Hp} {D : Addr} {ys zs : List V} {m0 : Nat} (P : PenAt H p c m) (P0 : PenAt H0 p c m0) (n0 : H0 D = none) (e : H D = some (.lst ys)) : PenAt (upd H D (.lst zs)) p c m := by
  obtain ⟨kvs, hd⟩ := P.dk
  obtain ⟨_, _, _, _, ns, _, hc, _⟩ := P0
  refine P.off (fun o h => ?_) (fun o h => ?_)
  · rw [upd_ne (ne_of hd e (by intro z; cases z))]
    exact h
  · rw [upd_ne (ne_of_none hc n0)]
    exact h
theorem lcB_0 {D : Addr} (P0 : PenAt H p c m) (hD : H D = none) : LcB R p c H m k D 0 (upd H D (.lst [])) := ⟨[], But.of (Same.new' hD), P0.same (Same.new' hD), upd_same, hD, trivial, rfl⟩
theorem lcB_step (bu : BuS R) (of : OffD R) {x : V} {i : Nat} {D : Addr} {H1 : Hp} (P0 : PenAt H p c m) (b : LcB R p c H m k D i H1) (hn : i < 10000) (hw : wipe ((wipe σ vs).set j (some x)) vs = wipe σ vs)
    (ht : But p H H1 → PenAt H1 p c (m + k * i) → H D = none → (∃ ys, H1 D = some (.lst ys)) → EB p c te ((wipe σ vs).set j (some x)) H1 (m + k * (i + 1)) (R D i)) :
    gName j x (wipe σ vs) H1 fun σ2 H2 => wipe σ2 vs = wipe σ vs ∧ tYes σ2 H2 fun b H3 => if b = true then te σ2 H3 fun y H4 => ∃ acc, H4 D = some (.lst acc) ∧ acc.length < sizeLine ∧ LcB R p c H m k D (i + 1) (upd H4 D (.lst (acc ++ [y]))) else LcB R p c H m k D (i + 1) H3 := by
  obtain ⟨ys, bb, P, eD, nD, r, len⟩ := b
  refine g_name ⟨hw, ?_⟩
  show (if true = true then te _ _ _ else LcB R p c H m k D (i + 1) H1)
  rw [if_pos rfl]
  refine ht bb P nD ⟨ys, eD⟩ _ fun v H4 b4 P4 rv => ?_
  obtain ⟨kvs, hd⟩ := P.dk
  have e4 := b4 _ _ eD (ne_of eD hd (by intro z; cases z))
  refine ⟨ys, e4, by rw [len]; exact Nat.lt_of_lt_of_le hn (by decide), ys ++ [v], fun b o z hb => ?_, P4.updN P0 nD e4, upd_same, nD, ?_, by rw [List.length_append, len]; rfl⟩
  · rw [upd_ne (ne_of_none z nD)]
    exact b4 _ _ (bb _ _ z hb) hb
  · refine Run.map (fun k v h => of D k v _ _ _ h e4) (Run.app (Run.map (fun k v h => bu D k v _ _ _ _ _ h P b4) r) ⟨?_, trivial⟩)
    rw [len, Nat.zero_add]
    exact rv
theorem l_lcBL (bu : BuS R) (of : OffD R) (P0 : PenAt H p c m) (h : Val ti σ H (.ref a)) (hx : SqL K H a xs) (hn : xs.length ≤ 10000) (hw : ∀ x, wipe ((wipe σ vs).set j (some x)) vs = wipe σ vs)
    (hs : ∀ D i x H1, xs[i]? = some x → But p H H1 → PenAt H1 p c (m + k * i) → H D = none → (∃ ys, H1 D = some (.lst ys)) → EB p c te ((wipe σ vs).set j (some x)) H1 (m + k * (i + 1)) (R D i))
    (q : ∀ D ys H', But p H H' → PenAt H' p c (m + k * xs.length) → H D = none → H' D = some (.lst ys) → Run (R D) 0 ys H' → ys.length = xs.length → Q (.ref D) H') : tLc (iList K ti) (gName j) tYes te vs σ H Q := by
  obtain ⟨kvs, hd⟩ := P0.dk
  exact h _ ⟨a, rfl, ⟨xs, hx⟩, fun D hD => lc_list (K := K) (a := a) (xs := xs) (LcB R p c H m k D) (lcB_0 P0 hD) (fun i H1 _ b => b.choose_spec.1.seq hd hx) (fun i x H1 e b => lcB_step bu of P0 b (by
    have := (List.getElem?_eq_some_iff.mp e).1
    omega) (hw x) (hs D i x H1 e)) (fun H1 ⟨ys, b, P, e, nD, r, l⟩ => q D ys H1 b P nD e r l)⟩
theorem rngB (bu : BuS R) (of : OffD R) (P0 : PenAt H p c m) {n : Int} (h0 : 0 ≤ n) (hn : n ≤ 10000) (hw : ∀ x, wipe ((wipe σ vs).set j (some x)) vs = wipe σ vs)
    (hs : ∀ D i x H1, i < n.toNat → But p H H1 → PenAt H1 p c (m + k * i) → H D = none → (∃ ys, H1 D = some (.lst ys)) → EB p c te ((wipe σ vs).set j (some x)) H1 (m + k * (i + 1)) (R D i))
    (q : ∀ D ys H', But p H H' → PenAt H' p c (m + k * n.toNat) → H D = none → H' D = some (.lst ys) → Run (R D) 0 ys H' → ys.length = n.toNat → Q (.ref D) H') : tLc (fun _ H R => R (Itr 0 n.toNat) H) (gName j) tYes te vs σ H Q :=
  fun D hD => lc_range (lo := 0) (n := n.toNat) (LcB R p c H m k D) (lcB_0 P0 hD) (fun i H1 hi b => lcB_step bu of P0 b (by omega) (hw _) (hs D i _ H1 hi)) (fun H1 ⟨ys, b, P, e, nD, r, l⟩ => q D ys H1 b P nD e r l)
theorem l_rngU {g : TG} {tt : TT} (h : ta σ H fun ws H1 => ∃ j : Int, ws = [.int j] ∧ -(2 ^ 62) ≤ j ∧ j < 2 ^ 62 ∧ tLc (fun _ H R => R (Itr 0 j.toNat) H) g tt te vs σ H1 Q) : tLc (iRng1 ta) g tt te vs σ H Q := h
end

theorem Rq.but {H H' : Hp} {p c : Addr} {m : Nat} {v : V} {q : Rat} (h : Rq H v q) (P : PenAt H p c m) (b : But p H H') : Rq H' v q := by
  obtain ⟨kvs, hd⟩ := P.dk
  obtain ⟨i, j, r, f, e⟩ := h
  refine ⟨i, j, ?_, f, e⟩
  cases r with
  | int i => exact .int i
  | pair h hj =>
    refine .pair ?_ hj
    rcases h with h | h
    · exact .inl (b _ _ h (ne_of h hd (by intro z; cases z)))
    · exact .inr (b _ _ h (ne_of h hd (by intro z; cases z)))
def Fin (q : Rat) : Prop := q.num.natAbs ≤ 10 ^ 18 ∧ q.den ≤ 10 ^ 18
theorem Lo.low {H : Hp} {t : Addr} {q : Rat} (h : Lo H t q) (f : Fin q) : Low H t q.num (q.den : Int) := by
  have d := q.den_pos
  refine ⟨h, by omega, ?_, f.1, by have := f.2; omega⟩
  unfold gI
  rw [Int.natAbs_natCast]
  exact congrArg Nat.cast q.reduced
theorem c_passed {H : Hp} {p c t : Addr} {m : Nat} {q : Rat} {ta : TA} {σ : L2.St} {Q : VK} {E : XK} (h : VA ta σ H [.ref p, .ref t]) (P : PenAt H p c m) (hm : m + 3 < most) (lo : Lo H t q) (f : Fin q) (k : ∀ v H', But p H H' → PenAt H' p c (m + 3) → Rq H' v q → (∀ x, v = .ref x → H x = none) → Q v H') : tCall spPassed [] E ta σ H Q :=
  c_call h ⟨p, c, t, m, _, _, rfl, P, hm, lo.low f, fun v H' s s0 s3 r fr b P' => k v H' b P' ⟨_, _, r, by
    have d := q.den_pos
    have h1 := f.1
    have h2 := f.2
    have b1 : (3 * 10 ^ 18 : Nat) < 2 ^ 1000 := Nat.lt_of_lt_of_le (show 3 * 10 ^ 18 < 2 ^ 62 by decide) (Nat.pow_le_pow_right (by decide) (by decide))
    constructor
    · rw [Int.natAbs_mul]
      exact Nat.lt_of_le_of_lt (Nat.mul_le_mul h1 (show s.natAbs ≤ 3 by omega)) (by omega)
    · rw [Int.natAbs_mul, Int.natAbs_natCast]
      exact Nat.lt_of_le_of_lt (Nat.mul_le_mul h2 (show s.natAbs ≤ 3 by omega)) (by omega), by
    rw [Rat.divInt_mul_right (by omega), Rat.divInt_ofNat, Rat.mkRat_self]⟩ fr⟩
/-! ### heaps without their tables -/
def bareH (H : Hp) : Hp := fun b => match H b with
  | some (.tbl _) => none
  | o => o
def NoTab (S : Hp) : Prop := ∀ b ps, S b ≠ some (.tbl ps)
theorem bare_at {H : Hp} {b : Addr} {o : HO} (h : H b = some o) (n : ∀ ps, o ≠ .tbl ps) : bareH H b = some o := by
  unfold bareH
  rw [h]
  cases o with
  | tbl ps => exact (n ps rfl).elim
  | _ => rfl
theorem bare_of {H : Hp} {b : Addr} {o : HO} (h : bareH H b = some o) : H b = some o ∧ ∀ ps, o ≠ .tbl ps := by
  unfold bareH at h
  split at h
  · cases h
  · rename_i o' e
    exact ⟨h, fun ps z => e ps (by rw [h, z])⟩
theorem bare_no (H : Hp) : NoTab (bareH H) := fun b ps z => (bare_of z).2 ps rfl
theorem bare_in (H : Hp) : Same (bareH H) H := fun b o h => (bare_of h).1
theorem ext_same {S H H1 : Hp} (n : NoTab S) (s : Same S H) (x : LamX.ExtN H H1) : Same S H1 := fun b o h => x b o (s b o h) fun ps z => n b ps (by rw [h, z])
theorem same_bare {S H : Hp} (n : NoTab S) (s : Same S H) : Same S (bareH H) := fun b o h => bare_at (s b o h) fun ps z => n b ps (by rw [h, z])
theorem Tabs.but {T : List (Addr × Str)} {H H' : Hp} {p c : Addr} {m : Nat} (t : LamX.Tabs T H) (P : PenAt H p c m) (b : But p H H') : LamX.Tabs T H' := by
  obtain ⟨kvs, hd⟩ := P.dk
  intro q hq
  obtain ⟨ps, h1, h2, h3⟩ := t q hq
  refine ⟨ps, b _ _ h1 (fun z => by rw [z, hd] at h1; cases h1), h2, fun pos cv e => ?_⟩
  obtain ⟨c', e1, e2⟩ := h3 pos cv e
  exact ⟨c', e1, b _ _ e2 (fun z => by rw [z, hd] at e2; unfold LamX.CodeO at e2; cases e2)⟩
theorem Tabs.same {T : List (Addr × Str)} {H H' : Hp} (t : LamX.Tabs T H) (s : Same H H') : LamX.Tabs T H' := t.ext s
theorem PenAt.bare {H : Hp} {p c : Addr} {m : Nat} (h : PenAt H p c m) : PenAt (bareH H) p c m := h.off (fun o e => by
  obtain ⟨kvs, hd⟩ := h.dk
  rw [hd] at e
  cases e
  exact bare_at hd (fun ps z => by cases z)) (fun o e => by
  obtain ⟨a, d, n, f, ns, _, hc, _⟩ := h
  rw [hc] at e
  cases e
  exact bare_at hc (fun ps z => by cases z))
theorem lam_mem {P : Addr} {q r l : Str} (h : q = r) : (P, q ++ l) ∈ [(P, r ++ l)] := by rw [h]; exact List.mem_singleton.mpr rfl
theorem lam_only {P : Addr} {q r l : Str} (h : q = r) : ∀ p ∈ [(P, r ++ l)], p.1 = P → p.2 = q ++ l := fun p hp _ => by rw [List.mem_singleton.mp hp, h]
theorem okGc {k : Nat} {f c : Addr} {fd : FuncData} {ps : List Str} {sp : Sp} {x qual : Str} {st : Stmt} {N : List Str} (F : Fun K x qual st f fd) (hc : fd.code = .ref c) (S : FnScope N ps (defScope st)) (len : ∀ vs H Q E, sp vs H Q E → vs.length = ps.length)
    (body : ∀ (A : Around) (outer : List Env) (s : Shared) (H : Hp) (vs : List V) (Q : VK) (E : XK), Room k (A.deeper (envOfC qual (defScope st) s.heap.objs.size f (.ref c))) → Quiet A → sp vs H Q E →
      ∃ t, PSs (cxOf CX0 P w K mg base N qual (defScope st) f (.ref c) A outer s H E).nox (defBody st) t ∧ t { nx := fun _ H' => Q .non H', rt := Q } (start N vs) H) : OkG P w K mg base CX0 (k + 1) f fd ps sp := by
  obtain ⟨oc, od, kV, doc, pm, an, cdv, ct, osl, rfl, lk, hcd⟩ := F.ex
  have ec : cdv = .ref c := hc
  subst ec
  refine ⟨len, fun A outer s H args us vs Q E hr hq e0 hb r hsp => ?_⟩
  have KS : K.In s.heap := e0.mod.kin.keeps (fun b o e => (e0.bs b o e).1)
  have NL : s.heap.NoLimit := e0.mod.nolimit.keeps (fun b o e => (e0.bs b o e).1)
  have hl := len _ _ _ _ hsp
  refine codeAny_call_function hr.depth (KS _ _ lk) rfl S.co S.gen rfl (PySem.W.codeRec_of KS hcd) (hb _ _ _ _ ?_)
  refine wpAny_newFunctionEnv_cells S.kind ?_ (fun env he s1 x => ?_)
  · rintro ⟨n, v⟩ hy
    rcases S.par n (List.of_mem_zip hy).1 with q | q
    · exact .inl q
    · exact .inr ⟨q, PySem.W.cellsFrom_some _ _ _ (.inl q)⟩
  subst he
  refine ⟨NL.keeps x.toInCall.keep, codeAny_func ?_⟩
  obtain ⟨t, ht, hT⟩ := body A outer s H vs Q E (hr.deeper _) hq hsp
  have I0 := inv_start (CX := CX0) (E := E) S hr.hd e0 hl r x
  refine wpAny_mono (ht.nox.run [] s1 (start N vs) H _ I0 hT) (fun fl s' hs => ?_) (fun e s' hs => hs)
  cases fl with
  | ret u =>
    obtain ⟨v, _, H', J, rv, q⟩ := hs
    exact ⟨v, H', J.os, J.bare, J.base, J.hok, rv, q⟩
  | next =>
    obtain ⟨_, H', J, q⟩ := hs
    exact ⟨V.non, H', J.os, J.bare, J.base, J.hok, rfl, q⟩
  | brk => obtain ⟨_, _, _, q⟩ := hs; exact q.elim
  | cont => obtain ⟨_, _, _, q⟩ := hs; exact q.elim
theorem q_asgG {te : TE} {g : TG} {tz : TS} {D : Ends} {σ : L2.St} {H : Hp} (h : te σ H fun v H' => g v σ H' fun σ2 H2 => tz D σ2 H2) : tSeq (tAsg te g) tz D σ H := h
theorem tb_in {te : TE} {σ : L2.St} {H : Hp} {Q : Bool → Hp → Prop} (h : te σ H fun v H1 => ∃ b, v = .bl b ∧ Q b H1) : tB te σ H Q := h
theorem t_unless {te : TE} {t1 tz : TS} {D : Ends} {σ : L2.St} {H : Hp} (h : te σ H fun v H1 => ∃ b, v = .bl b ∧ if b = true then t1 { D with nx := tz D } σ H1 else tz D σ H1) : tSeq (tIfS (tTest te) t1 tNext) tz D σ H := h
theorem t_unless1 {te : TE} {t1 : TS} {D : Ends} {σ : L2.St} {H : Hp} (h : te σ H fun v H1 => ∃ b, v = .bl b ∧ if b = true then t1 D σ H1 else D.nx σ H1) : tIfS (tTest te) t1 tNext D σ H := h
theorem tt_in {te : TE} {σ : L2.St} {H : Hp} {Q : Bool → Hp → Prop} (h : te σ H fun v H1 => ∃ b, v = .bl b ∧ Q b H1) : tTest te σ H Q := h

/-! ### data that may be shown: sizes, and what their text holds -/
theorem strOk_app {a b : Str} (ha : PyData.strOk a = true) (hb : PyData.strOk b = true) : PyData.strOk (a ++ b) = true := by
  unfold PyData.strOk at *
  rw [PySem.Str.cps_append, Array.all_append, ha, hb]
  rfl
theorem strOk_of (s : String) : PyData.strOk (Str.ofString s) = true := by
  rw [PySem.Str.ofString_eq_toList]
  unfold PyData.strOk
  rw [List.all_toArray, List.all_eq_true]
  intro x hx
  obtain ⟨c, _, rfl⟩ := List.mem_map.mp hx
  have := c.valid
  refine decide_eq_true ?_
  unfold UInt32.isValidChar Nat.isValidChar at this
  show c.val.toNat < 1114112
  omega
theorem strOk_join {sep : Str} (hs : PyData.strOk sep = true) : ∀ ts : List Str, (∀ t ∈ ts, PyData.strOk t = true) → PyData.strOk (Str.join sep ts) = true
  | [], _ => by show PyData.strOk Str.empty = true; decide +kernel
  | [x], h => h x (by simp)
  | x :: y :: r, h => strOk_app (strOk_app (h x (by simp)) hs) (strOk_join hs (y :: r) fun t ht => h t (by simp [ht]))
theorem strOk_from : ∀ (ts : List Str) (k : Nat) (acc : Str), PyData.strOk acc = true → (∀ t ∈ ts, PyData.strOk t = true) → PyData.strOk (textFrom k acc ts) = true
  | [], _, _, h, _ => h
  | t :: ts, k, acc, h, g => strOk_from ts (k + 1) _ (strOk_app (strOk_app h (strOk_of _)) (g t (by simp))) fun x hx => g x (by simp [hx])
theorem strOk_list {ts : List Str} (g : ∀ t ∈ ts, PyData.strOk t = true) : PyData.strOk (listText ts) = true := strOk_app (strOk_from ts 0 _ (strOk_of _) g) (strOk_of _)
theorem strOk_tuple {ts : List Str} (g : ∀ t ∈ ts, PyData.strOk t = true) : PyData.strOk (tupleText ts) = true := strOk_app (strOk_app (strOk_of _) (strOk_join (strOk_of _) ts g)) (strOk_of _)

/-- shown within B, of depth within k -/
def Nc (B k : Nat) (d : PyData) : Prop := d.showable = true ∧ d.shown.length ≤ B ∧ PyData.strOk d.shown = true ∧ d.depth ≤ k
theorem Nc.mono {B C k l : Nat} {d : PyData} (h : Nc B k d) (b : B ≤ C) (c : k ≤ l) : Nc C l d := ⟨h.1, Nat.le_trans h.2.1 b, h.2.2.1, Nat.le_trans h.2.2.2 c⟩
theorem nc_int {n : Int} (h : n.natAbs < 2 ^ 1000) : Nc 310 1 (.int n) := by
  have h10 : n.natAbs < 10 ^ 302 := Nat.lt_trans h (by decide +kernel)
  have e := int_text_length_le10 (a := n) (k := 302) (by decide) h10
  refine ⟨decide_eq_true ?_, ?_, strOk_of _, by simp [PyData.depth]⟩
  · rcases Nat.eq_zero_or_pos n.natAbs with z | z
    · rw [z]; decide
    · have := (Nat.log2_lt (by omega)).mpr h
      omega
  · show (Str.ofString (toString n)).length ≤ 310
    rw [PySem.ofString_length]
    omega
def NcAll (B k : Nat) (ds : List PyData) : Prop := ∀ d ∈ ds, Nc B k d
theorem nc_sum {B k : Nat} : ∀ {ds : List PyData}, NcAll B k ds → ((PyData.shownAll ds).map (·.length)).sum ≤ ds.length * B ∧ (PyData.shownAll ds).length = ds.length ∧ PyData.showableAll ds = true ∧ PyData.depthAll ds ≤ k ∧ ∀ t ∈ PyData.shownAll ds, PyData.strOk t = true
  | [], _ => by simp [PyData.shownAll, PyData.showableAll, PyData.depthAll]
  | d :: ds, h => by
    obtain ⟨h1, h2, h3, h4, h5⟩ := nc_sum (ds := ds) (fun x hx => h x (by simp [hx]))
    obtain ⟨a, b, c, e⟩ := h d (by simp)
    refine ⟨?_, ?_, ?_, ?_, ?_⟩
    · simp only [PyData.shownAll, List.map_cons, List.sum_cons, List.length_cons]
      rw [Nat.succ_mul]
      omega
    · simp only [PyData.shownAll, List.length_cons, h2]
    · simp only [PyData.showableAll, a, h3, Bool.and_self]
    · simp only [PyData.depthAll]
      omega
    · intro t ht
      simp only [PyData.shownAll, List.mem_cons] at ht
      rcases ht with rfl | ht
      · exact c
      · exact h5 t ht
theorem nc_tuple {B k : Nat} {ds : List PyData} (h : NcAll B k ds) : Nc (ds.length * (B + 2) + 3) (k + 1) (.tuple ds) := by
  obtain ⟨h1, h2, h3, h4, h5⟩ := nc_sum h
  refine ⟨by simp only [PyData.showable, h3], ?_, ?_, by simp only [PyData.depth]; omega⟩
  · have := tupleText_len_le (PyData.shownAll ds)
    simp only [PyData.shown]
    rw [h2] at this
    rw [Nat.mul_add]
    omega
  · simp only [PyData.shown]
    exact strOk_tuple h5
theorem nc_list {B k : Nat} {ds : List PyData} (h : NcAll B k ds) : Nc (ds.length * (B + 2) + 3) (k + 1) (.list ds) := by
  obtain ⟨h1, h2, h3, h4, h5⟩ := nc_sum h
  refine ⟨by simp only [PyData.showable, h3], ?_, ?_, by simp only [PyData.depth]; omega⟩
  · have := listText_len_le (PyData.shownAll ds)
    simp only [PyData.shown]
    rw [h2] at this
    rw [Nat.mul_add]
    omega
  · simp only [PyData.shown]
    exact strOk_list h5
section
variable {K : PySem.W.Frag} {mg : Str → Option Value}
theorem nc_two {x y : Int} (hx : x.natAbs < 2 ^ 1000) (hy : y.natAbs < 2 ^ 1000) : NcAll 310 1 [.int x, .int y] := fun d hd => by
  simp only [List.mem_cons, List.not_mem_nil, or_false] at hd
  rcases hd with rfl | rfl
  · exact nc_int hx
  · exact nc_int hy
theorem Rt.nc {H : Hp} {v : V} {i j : Int} (h : Rt H v i j) (f : Fit i j) : ∃ d, Dd K H v d ∧ Nc 630 2 d := by
  cases h with
  | int i => exact ⟨_, .int _, (nc_int f.1).mono (by decide) (by decide)⟩
  | pair h p =>
    rcases h with e | e
    · exact ⟨_, .lst (SqL.of e) (.cons (.int _) (.cons (.int _) .nil)), (nc_list (nc_two f.1 f.2)).mono (by show 2 * (310 + 2) + 3 ≤ 630; decide) (by decide)⟩
    · exact ⟨_, .tup (SqT.of e) (.cons (.int _) (.cons (.int _) .nil)), (nc_tuple (nc_two f.1 f.2)).mono (by show 2 * (310 + 2) + 3 ≤ 630; decide) (by decide)⟩
theorem Rq.nc {H : Hp} {v : V} {q : Rat} (h : Rq H v q) : ∃ d, Dd K H v d ∧ Nc 630 2 d := by
  obtain ⟨i, j, r, f, _⟩ := h
  exact Rt.nc r f
theorem all_nc {B k : Nat} {H : Hp} : ∀ {vs : List V}, (∀ v ∈ vs, ∃ d, Dd K H v d ∧ Nc B k d) → ∃ ds, DdAll K H vs ds ∧ NcAll B k ds ∧ ds.length = vs.length
  | [], _ => ⟨[], .nil, (fun _ h => nomatch h), rfl⟩
  | v :: vs, h => by
    obtain ⟨d, hd, n⟩ := h v (by simp)
    obtain ⟨ds, hds, ns, l⟩ := all_nc (vs := vs) fun x hx => h x (by simp [hx])
    refine ⟨d :: ds, .cons hd hds, fun x hx => ?_, by rw [List.length_cons, l, List.length_cons]⟩
    rcases List.mem_cons.mp hx with rfl | hx
    · exact n
    · exact ns x hx
end
theorem lam_memT {P : Addr} {q r l : Str} {T : List (Addr × Str)} (hm : (P, r ++ l) ∈ T) (h : q = r) : (P, q ++ l) ∈ T := by rw [h]; exact hm
theorem lam_onlyT {P : Addr} {q r l : Str} {T : List (Addr × Str)} (ho : ∀ p ∈ T, p.1 = P → p.2 = r ++ l) (h : q = r) : ∀ p ∈ T, p.1 = P → p.2 = q ++ l := by rw [h]; exact ho

theorem va_x {te : TE} {tr : TA} {σ : L2.St} {H : Hp} {Q : List V → Hp → Prop} (h : te σ H fun v H1 => tr σ H1 fun vs H2 => Q (v :: vs) H2) : tCons te tr σ H Q := h
theorem bu_dd {H H' : Hp} {v : V} {i j : Int} {p c : Addr} {m : Nat} (h : Rt H v i j) (f : Fit i j) (P : PenAt H p c m) : ∃ d, Nc 630 2 d ∧ ∀ H', But p H H' → Dd K H' v d := by
  obtain ⟨kvs, hd⟩ := P.dk
  cases h with
  | int i => exact ⟨_, (nc_int f.1).mono (by decide) (by decide), fun H' b => .int _⟩
  | pair h q =>
    rcases h with e | e
    · exact ⟨.list [.int i, .int j], (nc_list (nc_two f.1 f.2)).mono (by show 2 * (310 + 2) + 3 ≤ 630; decide) (by decide), fun H' b => .lst (SqL.of (b _ _ e (ne_of e hd (by intro z; cases z)))) (.cons (.int _) (.cons (.int _) .nil))⟩
    · exact ⟨.tuple [.int i, .int j], (nc_tuple (nc_two f.1 f.2)).mono (by show 2 * (310 + 2) + 3 ≤ 630; decide) (by decide), fun H' b => .tup (SqT.of (b _ _ e (ne_of e hd (by intro z; cases z)))) (.cons (.int _) (.cons (.int _) .nil))⟩
theorem all_ncB {B k : Nat} {H : Hp} {p : Addr} : ∀ {vs : List V}, (∀ v ∈ vs, ∃ d, Nc B k d ∧ ∀ H', But p H H' → Dd K H' v d) → ∃ ds, NcAll B k ds ∧ ds.length = vs.length ∧ ∀ H', But p H H' → DdAll K H' vs ds
  | [], _ => ⟨[], (fun _ h => nomatch h), rfl, fun _ _ => .nil⟩
  | v :: vs, h => by
    obtain ⟨d, n, hd⟩ := h v (by simp)
    obtain ⟨ds, ns, l, hds⟩ := all_ncB (vs := vs) fun x hx => h x (by simp [hx])
    refine ⟨d :: ds, fun x hx => ?_, by rw [List.length_cons, l, List.length_cons], fun H' b => .cons (hd H' b) (hds H' b)⟩
    rcases List.mem_cons.mp hx with rfl | hx
    · exact n
    · exact ns x hx
theorem ne_same {s : Str} {H : Hp} {Q : VK} (q : Q (.bl false) H) : rNe (.str s) (.str s) H Q := ⟨rfl, by rw [decide_eq_true rfl]; exact q⟩
theorem ne_sameV {v : V} {H : Hp} {Q : VK} (hs : scal v v = true) (q : Q (.bl false) H) : rNe v v H Q := ⟨hs, by rw [decide_eq_true rfl]; exact q⟩
theorem Tabs.updL {T : List (Addr × Str)} {H : Hp} {a : Addr} {ws zs : List V} (t : LamX.Tabs T H) (e : H a = some (.lst ws)) : LamX.Tabs T (upd H a (.lst zs)) := by
  intro q hq
  obtain ⟨ps, h1, h2, h3⟩ := t q hq
  refine ⟨ps, by rw [upd_ne (fun z => by rw [z, e] at h1; cases h1)]; exact h1, h2, fun pos cv e' => ?_⟩
  obtain ⟨c', e1, e2⟩ := h3 pos cv e'
  exact ⟨c', e1, by rw [upd_ne (fun z => by rw [z, e] at e2; unfold LamX.CodeO at e2; cases e2)]; exact e2⟩
theorem or_in' {t u : TT} {σ : L2.St} {H : Hp} {Q : Bool → Hp → Prop} (h : t σ H fun c H1 => if c = true then Q true H1 else u σ H1 Q) : tOr t u σ H Q := h
theorem not_in {t : TT} {σ : L2.St} {H : Hp} {Q : Bool → Hp → Prop} (h : t σ H fun c H1 => Q (!c) H1) : tNot t σ H Q := h
theorem q_ifK {σ : L2.St} {H : Hp} {t : TT} {t1 tz : TS} {D : Ends} {I : Hp → Prop} (rest : ∀ H1, I H1 → tz D σ H1) (h : (∀ H1, I H1 → tz D σ H1) → t σ H fun b H1 => if b = true then t1 { D with nx := tz D } σ H1 else tz D σ H1) : tSeq (tIfS t t1 tNext) tz D σ H := h rest
theorem q_ifOr {σ : L2.St} {H : Hp} {t u : TT} {t1 tz : TS} {D : Ends} (h : t σ H fun c H1 => if c = true then (if true = true then t1 { D with nx := tz D } σ H1 else tz D σ H1) else
    u σ H1 fun b H2 => if b = true then t1 { D with nx := tz D } σ H2 else tz D σ H2) : tSeq (tIfS (tOr t u) t1 tNext) tz D σ H := h
theorem t_op {r : L2.R2} {ta tb : TE} {σ : L2.St} {H : Hp} {K' : Bool → Hp → Prop} (h : ta σ H fun x H1 => tb σ H1 fun y H2 => r x y H2 fun z H3 => ∃ b, z = .bl b ∧ K' b H3) : tTest (tOp r ta tb) σ H K' := h
theorem atI_m1 {xs : List V} {v : V} (h : xs[xs.length - 1]? = some v) : atI xs (-1) = some v := by
  have hl := (List.getElem?_eq_some_iff.mp h).1
  unfold atI ixN
  rw [if_neg (by decide), if_pos (by omega)]
  show xs[(-1 + (xs.length : Int)).toNat]? = some v
  rw [show (-1 + (xs.length : Int)).toNat = xs.length - 1 by omega]
  exact h
theorem Sm.fin {q : Rat} (h : Sm 59 q) : Fin q := by
  have h1 := h.1
  have h2 := h.2
  have : (2 : Nat) ^ 59 < 10 ^ 18 := by decide
  exact ⟨by omega, by omega⟩
/-! ### tuples of a text and one thing -/
def flatV (v : V) : Prop := v = .non ∨ (∃ i, v = .int i) ∨ (∃ x, v = .str x) ∨ ∃ a, v = .ref a
def rNeI : L2.R2 := fun x y H Q => ∃ p q k v, x = .ref p ∧ y = .ref q ∧ H p = some (.tup [.str k, v]) ∧ H q = some (.tup [.str k, v]) ∧ flatV v ∧ Q (.bl false) H
theorem eq_flat {A : Around} {s : Shared} {v : V} {a b : Value} (f : flatV v) (ra : RelV v a) (rb : RelV v b) : SeqAt.EqAt A s a b true := by
  rcases f with rfl | ⟨i, rfl⟩ | ⟨x, rfl⟩ | ⟨c, rfl⟩
  · cases ra; cases rb; exact .same _
  · obtain ⟨t, rfl⟩ := ra
    obtain ⟨u, rfl⟩ := rb
    have := SeqAt.EqAt.int_int (A := A) (s := s) i t i u
    rwa [beq_self_eq_true] at this
  · obtain ⟨t, rfl⟩ := ra
    obtain ⟨u, rfl⟩ := rb
    have := SeqAt.EqAt.str_str (A := A) (s := s) x t x u
    rwa [beq_self_eq_true] at this
  · cases ra; cases rb; exact .same _
theorem op_neI {X : Cx} (hu : X.A.units + 64 < cLine) : OpR X (compareOp .NotEq) rNeI := by
  intro pins s σ H x y v u Q I rx ry h
  obtain ⟨p, q, k, z, rfl, rfl, e1, e2, f, q⟩ := h
  cases rx
  cases ry
  obtain ⟨its, rv, ⟨o1, ho1, hc1, n1, hd1⟩, _⟩ := I.tuple (SqT.of (K := X.K) e1)
  obtain ⟨its2, rv2, ⟨o2, ho2, hc2, n2, hd2⟩, _⟩ := I.tuple (SqT.of (K := X.K) e2)
  cases rv with
  | cons a1 r1 =>
    cases r1 with
    | cons b1 z1 =>
      cases z1
      cases rv2 with
      | cons a2 r2 =>
        cases r2 with
        | cons b2 z2 =>
          cases z2
          refine SeqAt.RcNeAt.tuples (e := fun _ => true) ⟨o1, ho1, hc1, n1, hd1⟩ ⟨o2, ho2, hc2, n2, hd2⟩ (by omega) (fun j h1 h2 => ?_) _ _ _ _ ⟨.bl _, H, I, rfl, q⟩
          match j, h1, h2 with
          | 0, _, _ => exact eq_flat (.inr (.inr (.inl ⟨_, rfl⟩))) a1 a2
          | 1, _, _ => exact eq_flat f b1 b2
end
end LW

namespace LW
open PySem PySem.Spec PyProof.Rows L2 GL
section
variable {P : Program} {w : World} {K : PySem.W.Frag} {mg : Str → Option Value} {base : Heap}

/-! ### closed rows -/
def Cy (ps : List R2) : Prop := ∀ i x y, i < ps.length → ps[i]? = some x → ps[(i + 1) % ps.length]? = some y → x ≠ y
def Lin (ps : List R2) : Prop := ∀ i x y, ps[i]? = some x → ps[i + 1]? = some y → x ≠ y
theorem rot_idx {α : Type} {ps : List α} {i : Nat} (h : i < ps.length) : (rot ps)[i]? = ps[(i + 1) % ps.length]? := by
  unfold rot
  by_cases e : i + 1 < ps.length
  · rw [Nat.mod_eq_of_lt e, List.getElem?_append_left (by rw [List.length_drop]; omega), List.getElem?_drop, Nat.add_comm]
  · have e1 : i + 1 = ps.length := by omega
    rw [e1, Nat.mod_self, List.getElem?_append_right (by rw [List.length_drop]; omega), List.length_drop, show i - (ps.length - 1) = 0 by omega, List.getElem?_take_of_lt (by omega)]
theorem Cy.cl {ps : List R2} (h : Cy ps) : ∀ s ∈ sidesR ps, s.1 ≠ s.2 := fun s hs => by
  obtain ⟨i, hi⟩ := List.getElem?_of_mem hs
  unfold sidesR at hi
  rw [List.getElem?_zip_eq_some] at hi
  have l := (List.getElem?_eq_some_iff.mp hi.1).1
  have h2 := hi.2
  rw [rot_idx l] at h2
  exact h i s.1 s.2 l hi.1 h2
theorem Cy.of {ps : List R2} (l : Lin ps) (h : ∀ x y, ps[0]? = some x → ps[ps.length - 1]? = some y → x ≠ y) : Cy ps := fun i x y hi hx hy => by
  by_cases e : i + 1 < ps.length
  · rw [Nat.mod_eq_of_lt e] at hy
    exact l i x y hx hy
  · have e1 : i + 1 = ps.length := by omega
    rw [e1, Nat.mod_self] at hy
    have : i = ps.length - 1 := by omega
    rw [this] at hx
    exact fun z => h y x hy hx z.symm
theorem Cy.rev {ps : List R2} (h : Cy ps) : Cy ps.reverse := fun i x y hi hx hy => by
  rw [List.length_reverse] at hi hy
  by_cases e : i + 1 < ps.length
  · rw [Nat.mod_eq_of_lt e, List.getElem?_reverse (by omega)] at hy
    rw [List.getElem?_reverse (by omega)] at hx
    have := h (ps.length - 1 - (i + 1)) y x (by omega) hy (by
      rw [show ps.length - 1 - (i + 1) + 1 = ps.length - 1 - i by omega, Nat.mod_eq_of_lt (by omega)]
      exact hx)
    exact fun z => this z.symm
  · have e1 : i + 1 = ps.length := by omega
    rw [e1, Nat.mod_self, List.getElem?_reverse (by omega)] at hy
    rw [List.getElem?_reverse (by omega)] at hx
    have := h (ps.length - 1) y x (by omega) (by simpa using hy) (by
      rw [show ps.length - 1 + 1 = ps.length by omega, Nat.mod_self]
      rw [show ps.length - 1 - i = 0 by omega] at hx
      exact hx)
    exact fun z => this z.symm
theorem dbl_idx {ps : List R2} {k : Nat} (h : k < ps.length + ps.length) : (ps ++ ps)[k]? = ps[k % ps.length]? := by
  by_cases e : k < ps.length
  · rw [List.getElem?_append_left e, Nat.mod_eq_of_lt e]
  · rw [List.getElem?_append_right (by omega), Nat.mod_eq_sub_mod (by omega), Nat.mod_eq_of_lt (by omega)]
theorem Cy.dbl {ps : List R2} (h : Cy ps) : Cy (ps ++ ps) := fun i x y hi hx hy => by
  have n0 : 0 < ps.length := by
    rw [List.length_append] at hi
    omega
  have hm : i % ps.length < ps.length := Nat.mod_lt _ n0
  rw [List.length_append] at hi hy
  rw [dbl_idx hi] at hx
  have h2 : (i + 1) % (ps.length + ps.length) < ps.length + ps.length := Nat.mod_lt _ (by omega)
  rw [dbl_idx h2] at hy
  refine h (i % ps.length) x y hm hx ?_
  have e : (i + 1) % (ps.length + ps.length) % ps.length = (i % ps.length + 1) % ps.length := by
    rw [Nat.mod_mod_of_dvd (i + 1) ⟨2, by omega⟩, Nat.mod_add_mod]
  rw [← e]
  exact hy
theorem Lin.snoc {ps : List R2} {q : R2} (h : Lin ps) (n : ∀ x, ps[ps.length - 1]? = some x → x ≠ q) : Lin (ps ++ [q]) := fun i x y hx hy => by
  have hi : i + 1 < ps.length + 1 := by
    have := (List.getElem?_eq_some_iff.mp hy).1
    rwa [List.length_append] at this
  by_cases e : i + 1 < ps.length
  · rw [List.getElem?_append_left e] at hy
    rw [List.getElem?_append_left (by omega)] at hx
    exact h i x y hx hy
  · rw [List.getElem?_append_left (by omega)] at hx
    rw [List.getElem?_append_right (by omega), show i + 1 - ps.length = 0 by omega] at hy
    cases hy
    exact n x (by rw [show ps.length - 1 = i by omega]; exact hx)
theorem All2.rev {α β : Type} {R : α → β → Prop} {as : List α} {bs : List β} (h : All2 R as bs) : All2 R as.reverse bs.reverse := All2.mk (by rw [List.length_reverse, List.length_reverse, h.len]) fun i a b ha hb => by
  have li := (List.getElem?_eq_some_iff.mp ha).1
  rw [List.length_reverse] at li
  have l := h.len
  rw [List.getElem?_reverse li] at ha
  rw [List.getElem?_reverse (by omega), ← l] at hb
  obtain ⟨b', e, r⟩ := h.get ha
  rw [hb] at e
  cases e
  exact r
theorem All2.app {α β : Type} {R : α → β → Prop} {as as' : List α} {bs bs' : List β} (h : All2 R as bs) (k : All2 R as' bs') : All2 R (as ++ as') (bs ++ bs') := by
  induction h with
  | nil => exact k
  | cons r _ ih => exact .cons r ih
def Sm2 (n : Nat) (q : R2) : Prop := Sm n q.1 ∧ Sm n q.2
def Sms2 (n : Nat) (ps : List R2) : Prop := ∀ q ∈ ps, Sm2 n q
theorem Sm2.mono {n m : Nat} {q : R2} (h : Sm2 n q) (l : n ≤ m) : Sm2 m q := ⟨h.1.mono l, h.2.mono l⟩
/-! ### places as the law keeps them -/
theorem PlL.but {H H' : Hp} {v : V} {q : R2} {p c : Addr} {m : Nat} (h : PlL H v q) (P : PenAt H p c m) (b : But p H H') : PlL H' v q := by
  obtain ⟨kvs, hd⟩ := P.dk
  obtain ⟨a, x, y, rfl, e, l1, l2⟩ := h
  exact ⟨a, x, y, rfl, b _ _ e (ne_of e hd (by intro z; cases z)), b.lo P l1, b.lo P l2⟩
theorem lo_updL {H : Hp} {t p : Addr} {ws zs : List V} {q : Rat} (e : H t = some (.lst ws)) (lo : Lo H p q) : Lo (upd H t (.lst zs)) p q := by
  unfold Lo
  rw [upd_ne (ne_of lo e (by intro z; cases z))]
  exact lo
theorem PlL.updL {H : Hp} {v : V} {q : R2} {t : Addr} {ws zs : List V} (h : PlL H v q) (e : H t = some (.lst ws)) : PlL (upd H t (.lst zs)) v q := by
  obtain ⟨a, x, y, rfl, ea, l1, l2⟩ := h
  exact ⟨a, x, y, rfl, by rw [upd_ne (ne_of ea e (by intro z; cases z))]; exact ea, lo_updL e l1, lo_updL e l2⟩
/-- a list of places -/
structure Pls (n : Nat) (H : Hp) (l : Addr) (ps : List R2) : Prop where
  ex : ∃ vs, H l = some (.lst vs) ∧ All2 (PlL H) vs ps
  sm : Sms2 n ps
theorem Pls.same {n : Nat} {H H' : Hp} {l : Addr} {ps : List R2} (h : Pls n H l ps) (s : L2.Same H H') : Pls n H' l ps := by
  obtain ⟨⟨vs, e, al⟩, sm⟩ := h
  exact ⟨⟨vs, s _ _ e, al.imp fun v q r => r.same s⟩, sm⟩
theorem Pls.but {n m : Nat} {H H' : Hp} {l p c : Addr} {ps : List R2} (h : Pls n H l ps) (P : PenAt H p c m) (b : But p H H') : Pls n H' l ps := by
  obtain ⟨kvs, hd⟩ := P.dk
  obtain ⟨⟨vs, e, al⟩, sm⟩ := h
  exact ⟨⟨vs, b _ _ e (ne_of e hd (by intro z; cases z)), al.imp fun v q r => r.but P b⟩, sm⟩
theorem Pls.off {n : Nat} {H : Hp} {l t : Addr} {ps : List R2} {ws zs : List V} (h : Pls n H l ps) (e : H t = some (.lst ws)) (ne : l ≠ t) : Pls n (upd H t (.lst zs)) l ps := by
  obtain ⟨⟨vs, ea, al⟩, sm⟩ := h
  exact ⟨⟨vs, by rw [upd_ne ne]; exact ea, al.imp fun v q r => r.updL e⟩, sm⟩
theorem Pls.snoc {n : Nat} {H : Hp} {l : Addr} {ps : List R2} {v : V} {q : R2} {vs : List V} (h : Pls n H l ps) (e : H l = some (.lst vs)) (pl : PlL H v q) (s : Sm2 n q) : Pls n (upd H l (.lst (vs ++ [v]))) l (ps ++ [q]) := by
  obtain ⟨⟨vs', ea, al⟩, sm⟩ := h
  rw [e] at ea
  cases ea
  refine ⟨⟨_, upd_same, (al.app (.cons pl .nil)).imp fun v q r => r.updL e⟩, fun q' hq => ?_⟩
  rcases List.mem_append.mp hq with h | h
  · exact sm _ h
  · rw [List.mem_singleton.mp h]; exact s
theorem Pls.sq {n : Nat} {H : Hp} {l : Addr} {ps : List R2} (h : Pls n H l ps) : ∃ vs, H l = some (.lst vs) ∧ All2 (PlL H) vs ps ∧ vs.length = ps.length := by
  obtain ⟨⟨vs, e, al⟩, _⟩ := h
  exact ⟨vs, e, al, al.len⟩
theorem PenAt.updL {H : Hp} {p c l : Addr} {m : Nat} {ws zs : List V} (P : PenAt H p c m) (e : H l = some (.lst ws)) (ne : l ≠ c) : PenAt (upd H l (.lst zs)) p c m := by
  obtain ⟨kvs, hd⟩ := P.dk
  refine P.off (fun o h => ?_) (fun o h => ?_)
  · rw [upd_ne (ne_of hd e (by intro z; cases z))]
    exact h
  · rw [upd_ne (Ne.symm ne)]
    exact h
theorem PenAt.ne_cells {H : Hp} {p c l : Addr} {m : Nat} (P : PenAt H p c m) (n : H l = none) : l ≠ c := by
  obtain ⟨_, _, _, _, ns, _, hc, _⟩ := P
  exact fun z => by rw [z, hc] at n; cases n
theorem all_dp {H : Hp} {vs : List V} {ps : List R2} (h : All2 (PlL H) vs ps) : DpAll K H vs (ps.map plD) := by
  induction h with
  | nil => exact .nil
  | cons r _ ih => exact .cons (pl_dp r) ih
theorem pls_shaped (ps : List R2) : SeqAt.shaped (.list (ps.map plD)) = true := by
  have h : PyData.canLayAll0 (ps.map plD) = true ∧ PyData.depthAll (ps.map plD) ≤ 2 := by
    induction ps with
    | nil => exact ⟨rfl, by simp [PyData.depthAll]⟩
    | cons p r ih =>
      refine ⟨?_, ?_⟩
      · simp [PyData.canLayAll0, ih.1, plD, pr, PyData.canLay0]
      · have := ih.2
        simp [PyData.depthAll, plD, pr, PyData.depth]
        omega
  refine Bool.and_eq_true_iff.mpr ⟨by simp [PyData.canLay0, h.1], decide_eq_true ?_⟩
  have := h.2
  simp [PyData.depth]
  omega
theorem nil_eqv {ps : List R2} : PyData.eqv (.list (ps.map plD)) (.list []) = decide (ps = []) := by
  cases ps <;> simp [PyData.eqv, PyData.eqvAll]
/-- a walk over range(..) whose end is drawn -/
def Raw (g : TG) (tb tz : TS) (D : Ends) (σ : L2.St) (vs : List V) (H1 : Hp) : Prop := ∃ j : Int, vs = [.int j] ∧ -(2 ^ 62) ≤ j ∧ j < 2 ^ 62 ∧ ∃ W : Nat → Nat → L2.St → Hp → Prop, (∃ m, W 0 m σ H1) ∧ ∀ i m σ H, W i m σ H →
  ((Itr 0 j.toNat).stop i H ∧ tz D σ H) ∨ ((Itr 0 j.toNat).go i H ∧ ∃ N : L2.St → Hp → Prop, (∀ σ' H', N σ' H' → ∃ m', m' < m ∧ W (i + 1) m' σ' H') ∧ ∀ x H', (Itr 0 j.toNat).yld i H x H' → g x σ H' fun σ2 H2 => tb { D with nx := N, ct := N, bk := tz D } σ2 H2)
theorem q_forRaw {σ : L2.St} {H : Hp} {g : TG} {ta : TA} {tb tz : TS} {D : Ends} (h : ta σ H (Raw g tb tz D σ)) : tSeq (tFor (iRng1 ta) g tb) tz D σ H := h
theorem raw_of {σ : L2.St} {H : Hp} {g : TG} {tb tz : TS} {D : Ends} {v : Int} (n : Nat) (e : v = (n : Int)) (hn : n ≤ 100000) (Pv : Nat → L2.St → Hp → Prop) (h0 : Pv 0 σ H)
    (hs : ∀ i σ H, i < n → Pv i σ H → g (.int (i : Int)) σ H fun σ2 H2 => tb { D with nx := Pv (i + 1), ct := Pv (i + 1), bk := tz D } σ2 H2) (hd : ∀ σ H, Pv n σ H → tz D σ H) : Raw g tb tz D σ [.int v] H := by
  subst e
  exact ⟨(n : Int), rfl, by omega, by omega, for_range (lo := 0) (n := (n : Int).toNat) (D := { D with nx := tz D }) Pv h0 (fun i σ H hi p => by rw [Int.zero_add]; exact hs i σ H (by omega) p) (fun σ H p => hd σ H (by rw [Int.toNat_natCast] at p; exact p))⟩
theorem lin_nil : Lin [] := fun i x y h => by simp at h
theorem int_lo {H : Hp} {t : Addr} {i : Int} (e : H t = some (.tup [.int i, .int 1])) : Lo H t (i : Rat) := by
  unfold Lo
  rw [Rat.num_intCast, Rat.den_intCast]
  exact e
theorem int_sm {i : Int} {n : Nat} (h : i.natAbs < 2 ^ n) (n1 : 1 ≤ n) : Sm n (i : Rat) := by
  refine ⟨by rw [Rat.num_intCast]; exact h, ?_⟩
  rw [Rat.den_intCast]
  exact Nat.one_lt_two_pow (by omega)
theorem q_lo {H : Hp} {p : Addr} {x y : Int} (y0 : 0 < y) (z : H p = some (.tup [.int (x / gI x y), .int (y / gI x y)])) : Lo H p (Rat.divInt x y) := by
  unfold Lo
  rw [← (low_rat x y0).1, ← (low_rat x y0).2]
  exact z
theorem st_ifOr {σ : L2.St} {H : Hp} {t u : TT} {t1 : TS} {D : Ends} (h : t σ H fun c H1 => if c = true then (if true = true then t1 D σ H1 else D.nx σ H1) else u σ H1 fun b H2 => if b = true then t1 D σ H2 else D.nx σ H2) : tIfS (tOr t u) t1 tNext D σ H := h
theorem q_ifOrK {σ : L2.St} {H : Hp} {t u : TT} {t1 tz : TS} {D : Ends} {I : L2.St → Hp → Prop} (rest : ∀ σ' H', I σ' H' → tz D σ' H') (h : (∀ σ' H', I σ' H' → tz D σ' H') → t σ H fun c H1 => if c = true then (if true = true then t1 { D with nx := tz D } σ H1 else tz D σ H1) else
    u σ H1 fun b H2 => if b = true then t1 { D with nx := tz D } σ H2 else tz D σ H2) : tSeq (tIfS (tOr t u) t1 tNext) tz D σ H := h rest
theorem l_pl {t1 t2 : TE} {i j : Int} {σ : L2.St} {H : Hp} {Q : VK} (h1 : ∀ H, Val t1 σ H (.int i)) (h2 : ∀ H, Val t2 σ H (.int j)) (k : ∀ z H', L2.Same H H' → PlL H' (.ref z) ((i : Rat), (j : Rat)) → Q (.ref z) H') :
    tTup (tCons (tTup (tCons t1 (tCons (tC (.int 1)) tNil))) (tCons (tTup (tCons t2 (tCons (tC (.int 1)) tNil))) tNil)) σ H Q :=
  tup_two (l_tup (va_cons (h1 _) (va_cons val_c va_nil)) (by show 2 ≤ 100000; decide) fun p hp => l_tup (va_cons (h2 _) (va_cons val_c va_nil)) (by show 2 ≤ 100000; decide) fun q hq => ⟨by show 2 ≤ sizeLine; decide, fun z hz => by
    have s1 := Same.new' (o := .tup [.int i, .int 1]) hp
    have s2 := Same.new' (o := .tup [.int j, .int 1]) hq
    have s3 := Same.new' (o := .tup [.ref p, .ref q]) hz
    exact k z _ ((s1.trans s2).trans s3) ⟨z, p, q, rfl, upd_same, ((int_lo upd_same).same s2).same s3, (int_lo upd_same).same s3⟩⟩)
def dflt : List R2 := [(((-1 : Int) : Rat), ((0 : Int) : Rat)), (((2 : Int) : Rat), ((-1 : Int) : Rat)), (((0 : Int) : Rat), ((3 : Int) : Rat))]
theorem dflt_cy : Cy dflt := fun i x y hi hx hy => by
  have hi : i < 3 := hi
  match i, hi with
  | 0, _ => cases hx; cases hy; decide
  | 1, _ => cases hx; cases hy; decide
  | 2, _ => cases hx; cases hy; decide
theorem dflt_sm : Sms2 3 dflt := fun q hq => by
  unfold dflt at hq
  simp only [List.mem_cons, List.not_mem_nil, or_false] at hq
  rcases hq with rfl | rfl | rfl <;> exact ⟨int_sm (by decide) (by decide), int_sm (by decide) (by decide)⟩
theorem all2_mem {α β : Type} {R : α → β → Prop} {as : List α} {bs : List β} (h : All2 R as bs) {a : α} (m : a ∈ as) : ∃ b, b ∈ bs ∧ R a b := by
  obtain ⟨i, e⟩ := List.getElem?_of_mem m
  obtain ⟨b, eb, r⟩ := h.get e
  exact ⟨b, List.mem_of_getElem? eb, r⟩
theorem tiny_lo {k : Nat} {H : Hp} {t : Addr} (e : H t = some (.tup [.int 1, .int (10 ^ k)])) : Lo H t (Rat.divInt 1 (10 ^ k)) := by
  have h0 : (0 : Int) < 10 ^ k := Int.pow_pos (by decide)
  have g : gI 1 (10 ^ k) = 1 := by
    unfold gI
    rw [show (1 : Int).natAbs = 1 from rfl, Nat.gcd_one_left]
    rfl
  unfold Lo
  rw [← (low_rat 1 h0).1, ← (low_rat 1 h0).2, g, Int.ediv_one, Int.ediv_one]
  exact e
theorem tiny_sm {k n : Nat} (h : 10 ^ k < 2 ^ n) (n1 : 1 ≤ n) : Sm n (Rat.divInt 1 (10 ^ k)) := by
  have h0 : (0 : Int) < 10 ^ k := Int.pow_pos (by decide)
  refine Sm.div h0 (Nat.one_lt_two_pow (by omega)) ?_
  rw [Int.natAbs_pow]
  exact h
/-! ### [[passed(x), passed(y)] for x, y in row] -/
theorem lcB_stepT {p c : Addr} {te : TE} {vs : List Nat} {σ : L2.St} {H : Hp} {m k j1 j2 : Nat} {R : Addr → Nat → V → Hp → Prop} (bu : BuS R) (of : OffD R) {T : Addr} {u v : V} {i : Nat} {D : Addr} {H1 : Hp} (P0 : PenAt H p c m) (b : LcB R p c H m k D i H1) (hn : i < 10000) (hT : SqT K H1 T [u, v]) (hw : wipe (((wipe σ vs).set j1 (some u)).set j2 (some v)) vs = wipe σ vs)
    (ht : EB p c te (((wipe σ vs).set j1 (some u)).set j2 (some v)) H1 (m + k * (i + 1)) (R D i)) :
    gTup K 2 (gCons (gName j1) (gCons (gName j2) gNil)) (.ref T) (wipe σ vs) H1 fun σ2 H2 => wipe σ2 vs = wipe σ vs ∧ tYes σ2 H2 fun b H3 => if b = true then te σ2 H3 fun y H4 => ∃ acc, H4 D = some (.lst acc) ∧ acc.length < sizeLine ∧ LcB R p c H m k D (i + 1) (upd H4 D (.lst (acc ++ [y]))) else LcB R p c H m k D (i + 1) H3 := by
  obtain ⟨ys, bb, P, eD, nD, r, len⟩ := b
  refine g_two hT ⟨hw, ?_⟩
  show (if true = true then te _ _ _ else LcB R p c H m k D (i + 1) H1)
  rw [if_pos rfl]
  refine ht _ fun v H4 b4 P4 rv => ?_
  obtain ⟨kvs, hd⟩ := P.dk
  have e4 := b4 _ _ eD (ne_of eD hd (by intro z; cases z))
  refine ⟨ys, e4, by rw [len]; exact Nat.lt_of_lt_of_le hn (by decide), ys ++ [v], fun b o z hb => ?_, P4.updN P0 nD e4, upd_same, nD, ?_, by rw [List.length_append, len]; rfl⟩
  · rw [upd_ne (ne_of_none z nD)]
    exact b4 _ _ (bb _ _ z hb) hb
  · refine Run.map (fun k v h => of D k v _ _ _ h e4) (Run.app (Run.map (fun k v h => bu D k v _ _ _ _ _ h P b4) r) ⟨?_, trivial⟩)
    rw [len, Nat.zero_add]
    exact rv
theorem l_lcBT {p c : Addr} {te ti : TE} {vs : List Nat} {σ : L2.St} {H : Hp} {m k j1 j2 : Nat} {R : Addr → Nat → V → Hp → Prop} {a : Addr} {xs : List V} {Q : VK} (bu : BuS R) (of : OffD R) (P0 : PenAt H p c m) (h : Val ti σ H (.ref a)) (hx : SqL K H a xs) (hn : xs.length ≤ 10000)
    (hs : ∀ D i x H1, xs[i]? = some x → But p H H1 → PenAt H1 p c (m + k * i) → H D = none → (∃ ys, H1 D = some (.lst ys)) → ∃ T u v, x = .ref T ∧ SqT K H1 T [u, v] ∧ wipe (((wipe σ vs).set j1 (some u)).set j2 (some v)) vs = wipe σ vs ∧ EB p c te (((wipe σ vs).set j1 (some u)).set j2 (some v)) H1 (m + k * (i + 1)) (R D i))
    (q : ∀ D ys H', But p H H' → PenAt H' p c (m + k * xs.length) → H D = none → H' D = some (.lst ys) → Run (R D) 0 ys H' → ys.length = xs.length → Q (.ref D) H') : tLc (iList K ti) (gTup K 2 (gCons (gName j1) (gCons (gName j2) gNil))) tYes te vs σ H Q := by
  obtain ⟨kvs, hd⟩ := P0.dk
  exact h _ ⟨a, rfl, ⟨xs, hx⟩, fun D hD => lc_list (K := K) (a := a) (xs := xs) (LcB R p c H m k D) (lcB_0 P0 hD) (fun i H1 _ b => b.choose_spec.1.seq hd hx) (fun i x H1 e b => by
    have li : i < 10000 := by
      have := (List.getElem?_eq_some_iff.mp e).1
      omega
    obtain ⟨ys, bb, P, eD, nD, r, len⟩ := b
    obtain ⟨T, u, v, rfl, hT, hw, ht⟩ := hs D i x H1 e bb P nD ⟨ys, eD⟩
    exact lcB_stepT bu of P0 ⟨ys, bb, P, eD, nD, r, len⟩ li hT hw ht) (fun H1 ⟨ys, b, P, e, nD, r, l⟩ => q D ys H1 b P nD e r l)⟩
/-- a place as a list of ratios, passed -/
def ItR (f : Nat → R2) (D : Addr) (i : Nat) (v : V) (H : Hp) : Prop := ∃ t x y, v = .ref t ∧ t ≠ D ∧ H t = some (.lst [x, y]) ∧ (Rq H x (f i).1 ∧ x ≠ .ref D) ∧ (Rq H y (f i).2 ∧ y ≠ .ref D)
theorem itR_bu (f : Nat → R2) : BuS (ItR f) := fun D i v H H' p c m ⟨t, x, y, e, n, z, r1, r2⟩ P b => by
  obtain ⟨kvs, hd⟩ := P.dk
  exact ⟨t, x, y, e, n, b _ _ z (ne_of z hd (by intro z; cases z)), ⟨r1.1.but P b, r1.2⟩, ⟨r2.1.but P b, r2.2⟩⟩
theorem rq_off {H : Hp} {v : V} {q : Rat} {D : Addr} {zs : List V} (r : Rq H v q) (n : v ≠ .ref D) : Rq (upd H D (.lst zs)) v q := by
  obtain ⟨x, y, rt, ft, eq⟩ := r
  refine ⟨x, y, ?_, ft, eq⟩
  cases rt with
  | int => exact .int _
  | @pair a _ _ h hj =>
    have na : a ≠ D := fun z => n (by rw [z])
    refine .pair ?_ hj
    rcases h with h | h
    · exact .inl (by rw [upd_ne na]; exact h)
    · exact .inr (by rw [upd_ne na]; exact h)
theorem itR_off (f : Nat → R2) : OffD (ItR f) := fun D i v H ys zs ⟨t, x, y, e, n, z, r1, r2⟩ hD => ⟨t, x, y, e, n, by rw [upd_ne n]; exact z, ⟨rq_off r1.1 r1.2, r1.2⟩, ⟨rq_off r2.1 r2.2, r2.2⟩⟩
def at2 (ps : List R2) (i : Nat) : R2 := ps[i]?.getD (0, 0)
theorem itR_all {ps : List R2} {D : Addr} {ys : List V} {H : Hp} (r : Run (ItR (at2 ps) D) 0 ys H) (l : ys.length = ps.length) : All2 (PlR H) ys ps := All2.mk l fun i v q hv hq => by
  obtain ⟨t, x, y, rfl, _, h, r1, r2⟩ := r.get hv
  rw [Nat.zero_add, show at2 ps i = q by unfold at2; rw [hq]; rfl] at r1 r2
  exact ⟨t, x, y, rfl, .inl h, r1.1, r2.1⟩
theorem itR_dd {ps : List R2} {p c : Addr} {m : Nat} {ys : List V} {H : Hp} (al : All2 (PlR H) ys ps) (li : ∀ v ∈ ys, ∃ t xs, v = .ref t ∧ H t = some (.lst xs)) (P : PenAt H p c m) : ∃ ds, NcAll 1267 3 ds ∧ ds.length = ys.length ∧ ∀ H', But p H H' → DdAll K H' ys ds := all_ncB fun v hv => by
  obtain ⟨q, _, a, x, y, rfl, sq, r1, r2⟩ := all2_mem al hv
  obtain ⟨t, xs, e, et⟩ := li _ hv
  cases e
  have sq : H a = some (.lst [x, y]) := by
    rcases sq with h | h
    · exact h
    · rw [h] at et; cases et
  obtain ⟨kvs, hd⟩ := P.dk
  obtain ⟨i1, j1, t1, f1, _⟩ := r1
  obtain ⟨i2, j2, t2, f2, _⟩ := r2
  obtain ⟨d1, n1, k1⟩ := bu_dd (K := K) (H' := H) t1 f1 P
  obtain ⟨d2, n2, k2⟩ := bu_dd (K := K) (H' := H) t2 f2 P
  refine ⟨.list [d1, d2], (nc_list (ds := [d1, d2]) (B := 630) (k := 2) fun d h => ?_).mono (by show 2 * (630 + 2) + 3 ≤ 1267; decide) (by decide), fun H' b => .lst (SqL.of (b _ _ sq (ne_of sq hd (by intro z; cases z)))) (.cons (k1 H' b) (.cons (k2 H' b) .nil))⟩
  simp only [List.mem_cons, List.not_mem_nil, or_false] at h
  rcases h with rfl | rfl
  · exact n1
  · exact n2
theorem PlR.but {H H' : Hp} {v : V} {q : R2} {p c : Addr} {m : Nat} (h : PlR H v q) (P : PenAt H p c m) (b : But p H H') : PlR H' v q := by
  obtain ⟨kvs, hd⟩ := P.dk
  obtain ⟨a, x, y, rfl, sq, r1, r2⟩ := h
  refine ⟨a, x, y, rfl, ?_, r1.but P b, r2.but P b⟩
  rcases sq with h | h
  · exact .inl (b _ _ h (ne_of h hd (by intro z; cases z)))
  · exact .inr (b _ _ h (ne_of h hd (by intro z; cases z)))
theorem PlR.sames {H H' : Hp} {v : V} {q : R2} (h : PlR H v q) (s : L2.Same H H') : PlR H' v q := by
  obtain ⟨a, x, y, rfl, sq, r1, r2⟩ := h
  exact ⟨a, x, y, rfl, sq.elim (fun z => .inl (s _ _ z)) fun z => .inr (s _ _ z), r1.same s, r2.same s⟩
theorem st_ifOr3 {σ : L2.St} {H : Hp} {t u x : TT} {t1 : TS} {D : Ends} (h : t σ H fun c H1 => if c = true then (if true = true then t1 D σ H1 else D.nx σ H1) else
    u σ H1 fun b H2 => if b = true then (if true = true then t1 D σ H2 else D.nx σ H2) else x σ H2 fun d H3 => if d = true then t1 D σ H3 else D.nx σ H3) : tIfS (tOr t (tOr u x)) t1 tNext D σ H := h
theorem and_in' {t u : TT} {σ : L2.St} {H : Hp} {Q : Bool → Hp → Prop} (h : t σ H fun c H1 => if c = true then u σ H1 Q else Q false H1) : tAnd t u σ H Q := h
theorem Sm2.fin {q : R2} (h : Sm2 40 q) : Fin q.1 ∧ Fin q.2 := ⟨(h.1.mono (by decide : 40 ≤ 59)).fin, (h.2.mono (by decide : 40 ≤ 59)).fin⟩
theorem wv_scal (o : Option Int) : scal (wv o) (wv o) = true := by cases o <;> rfl
theorem st_forL {σ : L2.St} {H : Hp} {g : TG} {te : TE} {tb : TS} {D : Ends} {a : Addr} {xs : List V} (h : Val te σ H (.ref a)) (hx : SqL K H a xs) (Pv : Nat → L2.St → Hp → Prop) (h0 : Pv 0 σ H) (hl : ∀ i σ H, i ≤ xs.length → Pv i σ H → SqL K H a xs)
    (hs : ∀ i x σ H, xs[i]? = some x → Pv i σ H → g x σ H fun σ2 H2 => tb { D with nx := Pv (i + 1), ct := Pv (i + 1), bk := D.nx } σ2 H2) (hd : ∀ σ H, Pv xs.length σ H → D.nx σ H) : tFor (iList K te) g tb D σ H :=
  h _ ⟨a, rfl, ⟨_, hx⟩, for_list (K := K) (a := a) (xs := xs) (D := D) Pv h0 hl hs hd⟩
end
end LW

namespace LW
open PySem PySem.Spec PyProof.Rows L2 GL
section
variable {P : Program} {w : World} {K : PySem.W.Frag} {mg : Str → Option Value} {base : Heap}

/-! ### what is no row, what is no place -/
theorem NoCl.same {H H' : Hp} {v : V} (h : NoCl H v) (s : L2.Same H H') : NoCl H' v := by
  rcases h with ⟨n, i, a, b⟩ | ⟨a, xs, bs, e, q, l, al, z⟩
  · exact .inl ⟨n, i.same s, a, b⟩
  · exact .inr ⟨a, xs, bs, e, q.same s, l, al.imp fun _ _ r => r.same s, z⟩
def Eqn (H : Hp) (v : V) : Prop := ∃ (a : Addr) (xs : List V) (ps : List R2), v = .ref a ∧ Sq H a xs ∧ All2 (PlR H) xs ps ∧ 2 ≤ xs.length ∧ xs.length ≤ 60 ∧ ∃ s ∈ sidesR ps, s.1 = s.2
theorem Eqn.same {H H' : Hp} {v : V} (h : Eqn H v) (s : L2.Same H H') : Eqn H' v := by
  obtain ⟨a, xs, ps, e, q, al, l1, l2, z⟩ := h
  exact ⟨a, xs, ps, e, q.same s, al.imp fun _ _ r => r.sames s, l1, l2, z⟩
def Oddy (H : Hp) (v : V) : Prop := (NoCl H v ∨ Eqn H v) ∧ flatV v
theorem Oddy.same {H H' : Hp} {v : V} (h : Oddy H v) (s : L2.Same H H') : Oddy H' v := ⟨h.1.imp (·.same s) (·.same s), h.2⟩
def Bady (H : Hp) (v : V) : Prop := PlQ H v false ∧ flatV v
theorem Bady.same {H H' : Hp} {v : V} (h : Bady H v) (s : L2.Same H H') : Bady H' v := ⟨h.1.same s, h.2⟩
def Stab (S : Hp → V → Prop) : Prop := ∀ H H' v, S H v → L2.Same H H' → S H' v
/-- a part F of the heap H that grows along with it -/
structure Fr (H F H' F' : Hp) : Prop where
  h : L2.Same H H'
  f : L2.Same F F'
  i : L2.Same F' H'
  n : ∀ b o, H b = some o → F b = none → F' b = none
  t : NoTab F → NoTab F'
theorem Fr.refl {H F : Hp} (i : L2.Same F H) : Fr H F H F := ⟨L2.Same.refl _, L2.Same.refl _, i, fun _ _ _ z => z, id⟩
theorem Fr.trans {H F H1 F1 H2 F2 : Hp} (a : Fr H F H1 F1) (b : Fr H1 F1 H2 F2) : Fr H F H2 F2 := ⟨a.h.trans b.h, a.f.trans b.f, b.i, fun x o e z => b.n x o (a.h _ _ e) (a.n x o e z), fun z => b.t (a.t z)⟩
theorem Fr.new {H F : Hp} {p : Addr} {o : HO} (i : L2.Same F H) (hp : H p = none) (nt : ∀ ps, o ≠ .tbl ps) : Fr H F (upd H p o) (upd F p o) := by
  have fp : F p = none := i.free hp
  refine ⟨Same.new' hp, Same.new' fp, fun b u e => ?_, fun b u e z => ?_, fun nt0 b ps e => ?_⟩
  · by_cases h : b = p
    · rw [h, upd_same] at e ⊢; exact e
    · rw [upd_ne h] at e ⊢; exact i _ _ e
  · rw [upd_ne (ne_of_none e hp)]; exact z
  · by_cases h : b = p
    · rw [h, upd_same] at e; cases e; exact nt ps rfl
    · rw [upd_ne h] at e; exact nt0 b ps e
theorem Fr.lst {H F : Hp} {p : Addr} {xs : List V} (i : L2.Same F H) (hp : H p = none) : Fr H F (upd H p (.lst xs)) (upd F p (.lst xs)) := Fr.new i hp fun _ z => by cases z
theorem Fr.tup {H F : Hp} {p : Addr} {xs : List V} (i : L2.Same F H) (hp : H p = none) : Fr H F (upd H p (.tup xs)) (upd F p (.tup xs)) := Fr.new i hp fun _ z => by cases z
def EO (S : Hp → V → Prop) (te : TE) : Prop := ∀ (σ : L2.St) (H F : Hp) (Q : VK), L2.Same F H → (∀ v H' F', Fr H F H' F' → S F' v → Q v H') → te σ H Q
def VO (S : Hp → V → Prop) (n : Nat) (ta : TA) : Prop := ∀ (σ : L2.St) (H F : Hp) (Q : List V → Hp → Prop), L2.Same F H → (∀ vs H' F', Fr H F H' F' → (∀ v ∈ vs, S F' v) → vs.length = n → Q vs H') → ta σ H Q
theorem vo_nil {S : Hp → V → Prop} : VO S 0 tNil := fun σ H F Q i k => k [] H F (.refl i) (fun _ h => nomatch h) rfl
theorem vo_cons {S : Hp → V → Prop} {te : TE} {ta : TA} {n : Nat} (st : Stab S) (h : EO S te) (g : VO S n ta) : VO S (n + 1) (tCons te ta) := fun σ H F Q i k => va_x (h σ H F _ i fun v H1 F1 r1 o => g σ H1 F1 _ r1.i fun vs H2 F2 r2 os l => k (v :: vs) H2 F2 (r1.trans r2) (fun x hx => by
  rcases List.mem_cons.mp hx with rfl | hx
  · exact st _ _ _ o r2.f
  · exact os x hx) (by rw [List.length_cons, l]))
theorem eo_c {S : Hp → V → Prop} {v : V} (h : ∀ H, S H v) : EO S (tC v) := fun σ H F Q i k => k v H F (.refl i) (h F)
theorem eo_dict {S : Hp → V → Prop} (h : ∀ H p, H p = some (.dK []) → S H (.ref p)) : EO S tDNewK := fun σ H F Q i k p hp => k _ _ _ (Fr.new i hp fun _ z => by cases z) (h _ p upd_same)
/-- values of a tuple or list, one by one -/
def VR {α : Type} (R : Hp → V → α → Prop) (ta : TA) (bs : List α) : Prop := ∀ (σ : L2.St) (H F : Hp) (Q : List V → Hp → Prop), L2.Same F H → (∀ vs H' F', Fr H F H' F' → All2 (R F') vs bs → Q vs H') → ta σ H Q
theorem vr_nil {α : Type} {R : Hp → V → α → Prop} : VR R tNil [] := fun σ H F Q i k => k [] H F (.refl i) .nil
theorem vr_cons {α : Type} {R : Hp → V → α → Prop} {te : TE} {ta : TA} {b : α} {bs : List α} (st : ∀ H H' v b, R H v b → L2.Same H H' → R H' v b) (h : EO (fun H v => R H v b) te) (g : VR R ta bs) : VR R (tCons te ta) (b :: bs) := fun σ H F Q i k => va_x (h σ H F _ i fun v H1 F1 r1 o => g σ H1 F1 _ r1.i fun vs H2 F2 r2 os => k (v :: vs) H2 F2 (r1.trans r2) (.cons (st _ _ _ _ o r2.f) os))
theorem rq_int {H : Hp} {i : Int} (h : i.natAbs < 2 ^ 1000) : Rq H (.int i) ((i : Int) : Rat) := ⟨i, 1, .int i, ⟨h, Nat.one_lt_two_pow (by decide)⟩, by
  rw [show Rat.divInt i 1 = Rat.divInt i ((1 : Nat) : Int) from rfl, Rat.divInt_ofNat, Rat.mkRat_one]⟩
theorem small1000 {i : Int} (h : i.natAbs < 8) : i.natAbs < 2 ^ 1000 := Nat.lt_of_lt_of_le (show i.natAbs < 2 ^ 3 from h) (Nat.pow_le_pow_right (by decide) (by decide))
def two (i j : Int) : R2 := (((i : Int) : Rat), ((j : Int) : Rat))
def te2 (i j : Int) : TE := tTup (tCons (tC (.int i)) (tCons (tC (.int j)) tNil))
theorem ep_two {i j : Int} (h1 : i.natAbs < 8) (h2 : j.natAbs < 8) : EO (fun H v => PlR H v (two i j)) (te2 i j) := fun σ H F Q i k => l_tup (va_cons val_c (va_cons val_c va_nil)) (by show 2 ≤ 100000; decide) fun p hp => k _ _ _ (Fr.tup i hp) ⟨p, _, _, rfl, .inr upd_same, rq_int (small1000 h1), rq_int (small1000 h2)⟩
theorem PlR.plq {H : Hp} {v : V} {q : R2} (h : PlR H v q) : PlQ H v true := by
  obtain ⟨a, x, y, rfl, sq, r1, r2⟩ := h
  exact .seq (bs := [true, true]) sq (by show 2 ≤ 1000; decide) (.cons r1.yes (.cons r2.yes .nil))
theorem eq_two {i j : Int} (h1 : i.natAbs < 8) (h2 : j.natAbs < 8) : EO (fun H v => PlQ H v true) (te2 i j) := fun σ H F Q i k => ep_two h1 h2 σ H F Q i fun v H' F' s o => k v H' F' s o.plq
theorem st_plr : ∀ H H' v (b : R2), PlR H v b → L2.Same H H' → PlR H' v b := fun _ _ _ _ h s => h.sames s
theorem st_plq : ∀ H H' v (b : Bool), PlQ H v b → L2.Same H H' → PlQ H' v b := fun _ _ _ _ h s => h.same s
theorem eo_row {ta : TA} {qs : List R2} (h : VR PlR ta qs) (l1 : 2 ≤ qs.length) (l2 : qs.length ≤ 60) (z : ∃ s ∈ sidesR qs, s.1 = s.2) : EO Oddy (tLst ta) := fun σ H F Q i k => l_s (h σ H F _ i fun vs H1 F1 r1 al => by
  have l := al.len
  exact ⟨Nat.le_trans (show vs.length ≤ 100 by omega) (by decide), fun p hp => k _ _ _ (r1.trans (Fr.lst r1.i hp)) ⟨.inr ⟨p, vs, qs, rfl, .inl upd_same, al.imp fun _ _ r => r.sames (Fr.lst r1.i hp).f, by omega, by omega, z⟩, .inr (.inr (.inr ⟨_, rfl⟩))⟩⟩)
theorem eo_no {ta : TA} {bs : List Bool} (h : VR PlQ ta bs) (l2 : bs.length ≤ 60) (z : bs.length < 2 ∨ bs.all id = false) : EO Oddy (tLst ta) := fun σ H F Q i k => l_s (h σ H F _ i fun vs H1 F1 r1 al => by
  have l := al.len
  exact ⟨Nat.le_trans (show vs.length ≤ 100 by omega) (by decide), fun p hp => k _ _ _ (r1.trans (Fr.lst r1.i hp)) ⟨.inl (.inr ⟨p, vs, bs, rfl, .inl upd_same, by omega, al.imp fun _ _ r => r.same (Fr.lst r1.i hp).f, z.imp (fun e => by omega) id⟩), .inr (.inr (.inr ⟨_, rfl⟩))⟩⟩)
theorem st_rat : ∀ H H' v (b : Bool), RatQ H v b → L2.Same H H' → RatQ H' v b := fun _ _ _ _ h s => h.same s
theorem flat_ref {a : Addr} : flatV (.ref a) := .inr (.inr (.inr ⟨a, rfl⟩))
theorem eb_tup {ta : TA} {bs : List Bool} (h : VR RatQ ta bs) (l2 : bs.length ≤ 60) (b : Bool) (e : (bs.all id && decide (bs.length = 2)) = b) : EO (fun H v => PlQ H v b ∧ flatV v) (tTup ta) := fun σ H F Q i k => by
  subst e
  exact (show tTup ta σ H Q from h σ H F _ i fun vs H1 F1 r1 al => by
    have l := al.len
    refine ⟨Nat.le_trans (show vs.length ≤ 100 by omega) (by decide), fun p hp => k _ _ _ (r1.trans (Fr.tup r1.i hp)) ?_⟩
    refine ⟨(?_ : PlQ _ _ (bs.all id && decide (bs.length = 2))), flat_ref⟩
    rw [← l]
    exact .seq (.inr upd_same) (by omega) (al.imp fun _ _ r => r.same (Fr.tup r1.i hp).f))
theorem eb_lst {ta : TA} {bs : List Bool} (h : VR RatQ ta bs) (l2 : bs.length ≤ 60) (b : Bool) (e : (bs.all id && decide (bs.length = 2)) = b) : EO (fun H v => PlQ H v b ∧ flatV v) (tLst ta) := fun σ H F Q i k => by
  subst e
  exact l_s (h σ H F _ i fun vs H1 F1 r1 al => by
    have l := al.len
    refine ⟨Nat.le_trans (show vs.length ≤ 100 by omega) (by decide), fun p hp => k _ _ _ (r1.trans (Fr.lst r1.i hp)) ?_⟩
    refine ⟨(?_ : PlQ _ _ (bs.all id && decide (bs.length = 2))), flat_ref⟩
    rw [← l]
    exact .seq (.inl upd_same) (by omega) (al.imp fun _ _ r => r.same (Fr.lst r1.i hp).f))
theorem eo_mono {S S' : Hp → V → Prop} {te : TE} (h : EO S te) (f : ∀ H v, S H v → S' H v) : EO S' te := fun σ H F Q i k => h σ H F Q i fun v H' F' r o => k v H' F' r (f F' v o)
theorem er_two {i j : Int} : EO (fun H v => RatQ H v (decide (0 < j))) (te2 i j) := fun σ H F Q i k => l_tup (va_cons val_c (va_cons val_c va_nil)) (by show 2 ≤ 100000; decide) fun p hp => k _ _ _ (Fr.tup i hp) (.pair (.inr upd_same))
theorem er_int {i : Int} : EO (fun H v => RatQ H v true) (tC (.int i)) := eo_c fun H => .int i
/-- ((2, 2), 1) is the place (1, 1) -/
theorem ep_half : EO (fun H v => PlR H v (two 1 1)) (tTup (tCons (te2 2 2) (tCons (tC (.int 1)) tNil))) := fun σ H F Q i k => tup_two (l_tup (va_cons val_c (va_cons val_c va_nil)) (by show 2 ≤ 100000; decide) fun p hp => ⟨by show 2 ≤ sizeLine; decide, fun z hz => by
  have f1 := Fr.tup (xs := [.int 2, .int 2]) i hp
  have f2 := Fr.tup (xs := [.ref p, .int 1]) f1.i hz
  exact k _ _ _ (f1.trans f2) ⟨z, .ref p, .int 1, rfl, .inr upd_same, ⟨2, 2, .pair (.inr (f2.f _ _ upd_same)) (by decide), ⟨small1000 (by decide), small1000 (by decide)⟩, by decide +kernel⟩, rq_int (small1000 (by decide))⟩⟩)
def odds : TA := tCons (tC .non) (tCons (tC (.int 5)) (tCons (tLst tNil) (tCons (tLst (tCons (te2 0 0) tNil)) (tCons (tLst (tCons (te2 0 0) (tCons (te2 0 0) tNil))) (tCons (tLst (tCons (te2 0 0) (tCons (te2 1 1) (tCons (te2 0 0) tNil)))) (tCons (tLst (tCons (te2 0 0) (tCons (tC (.int 5)) tNil))) (tCons (tC (.str "ab")) (tCons tDNewK (tCons (tLst (tCons (te2 0 0) (tCons (tTup (tCons (te2 2 2) (tCons (tC (.int 1)) tNil))) (tCons (te2 1 1) tNil)))) (tCons (tLst (tCons (te2 0 0) (tCons (te2 1 0) (tCons (tTup (tCons (tC (.int 1)) (tCons (tC .non) tNil))) tNil)))) tNil))))))))))
def bads : TA := tCons (tC .non) (tCons (tC (.int 5)) (tCons (tTup (tCons (tC (.int 1)) tNil)) (tCons (tTup (tCons (tC (.int 1)) (tCons (tC (.int 2)) (tCons (tC (.int 3)) tNil)))) (tCons (tTup (tCons (tC (.str "1")) (tCons (tC (.int 2)) tNil))) (tCons (tLst (tCons (te2 1 0) (tCons (tC (.int 1)) tNil))) (tCons (tTup (tCons (tC (.bl true)) (tCons (tC (.int 1)) tNil))) (tCons tDNewK tNil)))))))
theorem st_odd : Stab Oddy := fun _ _ _ h s => h.same s
theorem st_bad : Stab Bady := fun _ _ _ h s => h.same s
theorem vo_odds : VO Oddy 11 odds := by
  have P := fun {i j : Int} (h1 : i.natAbs < 8) (h2 : j.natAbs < 8) => ep_two h1 h2
  have p00 := ep_two (i := 0) (j := 0) (by decide) (by decide)
  have p11 := ep_two (i := 1) (j := 1) (by decide) (by decide)
  have q00 := eq_two (i := 0) (j := 0) (by decide) (by decide)
  have q10 := eq_two (i := 1) (j := 0) (by decide) (by decide)
  have no5 : EO (fun H v => PlQ H v false) (tC (.int 5)) := eo_c fun H => .odd (.int 5) (by decide) (by decide)
  have n1 : EO (fun H v => PlQ H v false) (tTup (tCons (tC (.int 1)) (tCons (tC .non) tNil))) := eo_mono (eb_tup (bs := [true, false]) (vr_cons st_rat er_int (vr_cons st_rat (eo_c fun H => .odd .non (.inr (.inr (.inl rfl)))) vr_nil)) (by decide) false rfl) fun _ _ z => z.1
  refine vo_cons st_odd (eo_c fun H => ⟨.inl (.inl ⟨_, .non, by decide, by decide⟩), .inl rfl⟩) ?_
  refine vo_cons st_odd (eo_c fun H => ⟨.inl (.inl ⟨_, .int 5, by decide, by decide⟩), .inr (.inl ⟨5, rfl⟩)⟩) ?_
  refine vo_cons st_odd (eo_no vr_nil (by decide) (.inl (by decide))) ?_
  refine vo_cons st_odd (eo_no (vr_cons st_plq q00 vr_nil) (by decide) (.inl (by decide))) ?_
  refine vo_cons st_odd (eo_row (vr_cons st_plr p00 (vr_cons st_plr p00 vr_nil)) (by decide) (by decide) ⟨(two 0 0, two 0 0), by decide +kernel, rfl⟩) ?_
  refine vo_cons st_odd (eo_row (vr_cons st_plr p00 (vr_cons st_plr p11 (vr_cons st_plr p00 vr_nil))) (by decide) (by decide) ⟨(two 0 0, two 0 0), by decide +kernel, rfl⟩) ?_
  refine vo_cons st_odd (eo_no (bs := [true, false]) (vr_cons st_plq q00 (vr_cons st_plq no5 vr_nil)) (by decide) (.inr rfl)) ?_
  refine vo_cons st_odd (eo_c fun H => ⟨.inl (.inl ⟨_, .str "ab", by decide, by decide⟩), .inr (.inr (.inl ⟨_, rfl⟩))⟩) ?_
  refine vo_cons st_odd (eo_dict fun H p e => ⟨.inl (.inl ⟨_, .dic e, by decide, by decide⟩), flat_ref⟩) ?_
  refine vo_cons st_odd (eo_row (vr_cons st_plr p00 (vr_cons st_plr ep_half (vr_cons st_plr p11 vr_nil))) (by decide) (by decide) ⟨(two 1 1, two 1 1), by decide +kernel, rfl⟩) ?_
  exact vo_cons st_odd (eo_no (bs := [true, true, false]) (vr_cons st_plq q00 (vr_cons st_plq q10 (vr_cons st_plq n1 vr_nil))) (by decide) (.inr rfl)) vo_nil
theorem vo_bads : VO Bady 8 bads := by
  refine vo_cons st_bad (eo_c fun H => ⟨.odd .non (by decide) (by decide), .inl rfl⟩) ?_
  refine vo_cons st_bad (eo_c fun H => ⟨.odd (.int 5) (by decide) (by decide), .inr (.inl ⟨5, rfl⟩)⟩) ?_
  refine vo_cons st_bad (eb_tup (bs := [true]) (vr_cons st_rat er_int vr_nil) (by decide) false rfl) ?_
  refine vo_cons st_bad (eb_tup (bs := [true, true, true]) (vr_cons st_rat er_int (vr_cons st_rat er_int (vr_cons st_rat er_int vr_nil))) (by decide) false rfl) ?_
  refine vo_cons st_bad (eb_tup (bs := [false, true]) (vr_cons st_rat (eo_c fun H => .odd (.str "1") (.inr (.inl rfl))) (vr_cons st_rat er_int vr_nil)) (by decide) false rfl) ?_
  refine vo_cons st_bad (eb_lst (bs := [false, true]) (vr_cons st_rat (er_two (i := 1) (j := 0)) (vr_cons st_rat er_int vr_nil)) (by decide) false rfl) ?_
  refine vo_cons st_bad (eb_tup (bs := [false, true]) (vr_cons st_rat (eo_c fun H => .odd (.bl true) (.inl rfl)) (vr_cons st_rat er_int vr_nil)) (by decide) false rfl) ?_
  exact vo_cons st_bad (eo_dict fun H p e => ⟨.odd (.dic e) (by decide) (by decide), flat_ref⟩) vo_nil
/-- what _law_fault tells of winding's BadRow, beside ("row", v) -/
theorem fault_row {S H : Hp} {σ : L2.St} {v : V} {T : List (Addr × Str)} {te : XK → TE} {i : Nat} {Q : VK} (nt : NoTab S) (s : L2.Same S H) (hT : LamX.Tabs T H) (hi : σ[i]? = some (some v)) (fv : flatV v)
    (h : ∀ (H1 : Hp) (E : XK) (Q1 : VK), L2.Same S H1 → BadRw mg H1 v E → te E σ H1 Q1) (q : ∀ H2, L2.Same S H2 → LamX.Tabs T H2 → Q (.bl false) H2) :
    tOp rNeI (LamX.tLam T (TTfault K mg) te) (tTup (tCons (tC (.str "row")) (tCons (tVar i) tNil))) σ H Q := by
  refine op_in ⟨hT, fun H1 x T1 H2 s2 => ?_⟩
  have s1 := (ext_same nt s x).trans s2
  refine h H2 _ _ s1 fun d H3 s3 hd e => ⟨rfl, d, v, rfl, e, fun p H4 s4 e4 => ?_⟩
  refine l_tup (va_cons val_c (va_cons (val_var hi) va_nil)) (by show 2 ≤ 100000; decide) fun b hb => ⟨p, b, "row", v, rfl, rfl, (Same.new' hb) _ _ e4, upd_same, fv, q _ (((s1.trans s3).trans s4).trans (Same.new' hb)) (Tabs.same T1 (((s2.trans s3).trans s4).trans (Same.new' hb)))⟩
def hole (p : Addr) (H : Hp) : Hp := fun b => if b = p then none else bareH H b
theorem hole_no (p : Addr) (H : Hp) : NoTab (hole p H) := fun b ps z => by
  unfold hole at z
  by_cases h : b = p
  · rw [if_pos h] at z; cases z
  · rw [if_neg h] at z; exact bare_no H b ps z
theorem hole_in (p : Addr) (H : Hp) : L2.Same (hole p H) H := fun b o z => by
  unfold hole at z
  by_cases h : b = p
  · rw [if_pos h] at z; cases z
  · rw [if_neg h] at z; exact bare_in H b o z
theorem hole_at (p : Addr) (H : Hp) : hole p H p = none := if_pos rfl
theorem fr_but {F H H' : Hp} {p : Addr} (i : L2.Same F H) (n : F p = none) (b : But p H H') : L2.Same F H' := fun x o z => b _ _ (i _ _ z) fun e => by rw [e, n] at z; cases z
theorem Sq.bare {H : Hp} {a : Addr} {xs : List V} (h : Sq H a xs) : Sq (bareH H) a xs := h.elim (fun z => .inl (bare_at z fun _ e => by cases e)) fun z => .inr (bare_at z fun _ e => by cases e)
theorem Rt.bare {H : Hp} {v : V} {i j : Int} (h : Rt H v i j) : Rt (bareH H) v i j := by
  cases h with
  | int i => exact .int i
  | pair h p => exact .pair h.bare p
theorem Rq.bare {H : Hp} {v : V} {q : Rat} (h : Rq H v q) : Rq (bareH H) v q := by
  obtain ⟨i, j, r, f, e⟩ := h
  exact ⟨i, j, r.bare, f, e⟩
theorem PlR.bare {H : Hp} {v : V} {q : R2} (h : PlR H v q) : PlR (bareH H) v q := by
  obtain ⟨a, x, y, rfl, sq, r1, r2⟩ := h
  exact ⟨a, x, y, rfl, sq.bare, r1.bare, r2.bare⟩
theorem dflt2 : (lawS (two 1 0) (sidesR [two 0 0, two 2 2]) 0).map (fun z => z / 4) = some 0 := by decide +kernel
theorem dflt3 : (lawS (two 1 1) (sidesR [two 0 0, two 2 2]) 0).map (fun z => z / 4) = none := by decide +kernel
theorem two_sm {i j : Int} (h1 : i.natAbs < 8) (h2 : j.natAbs < 8) : Sm2 3 (two i j) := ⟨int_sm h1 (by decide), int_sm h2 (by decide)⟩
end
end LW

namespace LW
open PySem PySem.Spec PyProof.Rows L2 GL
section
variable {P : Program} {w : World} {K : PySem.W.Frag} {mg : Str → Option Value} {base : Heap}

def spLaw (Tb : List (Addr × Str)) : Sp := fun vs H Q _ => ∃ (a : Addr) (ns : List Int), vs = [.ref a] ∧ SqL K H a (ns.map V.int) ∧ ns.length ≤ 63 ∧ LamX.Tabs Tb H ∧ ∀ H', Q (.bl true) H'
theorem ok_law (T : Txt K mg) {cC cP : Addr} {Tb : List (Addr × Str)} (TB : LamX.TabB base mg cC cP) (hcC : (fDat K (fA mg "law")).code = .ref cC) (hTm : (cP, (("law" : Str) ++ (".<locals>." : Str)) ++ ("<lambda>" : Str)) ∈ Tb) (hTo : ∀ p ∈ Tb, p.1 = cP → p.2 = (("law" : Str) ++ (".<locals>." : Str)) ++ ("<lambda>" : Str)) :
    OkG P w K mg base CX0 17 (fA mg "law") (fDat K (fA mg "law")) ["_law_script"] (spLaw (K := K) Tb) := by
  have G_law_pen := ok_pen (P := P) (w := w) (base := base) T._law_pen.F T
  have G_law_draw := ok_draw (P := P) (w := w) (base := base) T._law_draw.F T
  have G_law_pick := ok_pick (P := P) (w := w) (base := base) T
  have G_law_q := ok_law_q (P := P) (w := w) (base := base) T
  have G_law_plus := ok_law_plus (P := P) (w := w) (base := base) T
  have G_law_minus := ok_law_minus (P := P) (w := w) (base := base) T
  have G_law_passed := ok_passed (P := P) (w := w) (base := base) T
  have G_law_place := ok_law_place (P := P) (w := w) (base := base) T
  have G_law_middle := ok_law_middle (P := P) (w := w) (base := base) T
  have G_law_sides := ok_law_sides (P := P) (w := w) (base := base) T
  have G_law_winding_of := ok_law_winding_of (P := P) (w := w) (base := base) T
  have G_law_is_whole := ok_law_is_whole (P := P) (w := w) (base := base) T
  have Gwinding := ok_winding (P := P) (w := w) (base := base) T
  obtain ⟨oc, od, kV, doc, pm, an, cdw, ct, osl, efd, lk, hcg⟩ := T._law_fault.F.ex
  have lk' := efd ▸ lk
  have b' := efd ▸ T._law_fault.b
  refine okGc T.law.F hcC sclaw (fun vs H Q E h => ?_) (fun A outer s H vs Q E hr hq h => ?_)
  · obtain ⟨a, ns, rfl, _⟩ := h
    rfl
  obtain ⟨a, ns, rfl, hS, hn, hT, k⟩ := h
  refine ⟨_, (pss_cons (ps_set (i := 1) sclaw.nd rfl (Or.inr rfl) (pe_c T._law_pen G_law_pen (hr.mono (by decide)) (pa_cons (pv 0) pa_nil)))
  (pss_cons (ps_for PassesOwn.never rfl (pi_range1 (by rfl) T.range (pa_cons pe_int pa_nil)) (pg_name (i := 2) sclaw.nd rfl (Or.inl rfl))
  (pss_cons (ps_set (i := 3) sclaw.nd rfl (Or.inl rfl) (pe_lst pa_nil))
  (pss_cons (ps_for PassesOwn.never rfl (pi_range1 (by rfl) T.range (pa_cons (pe_op op_add pe_int (pe_c T._law_draw G_law_draw (hr.mono (by decide)) (pa_cons (pv 1) (pa_cons pe_int pa_nil)))) pa_nil)) (pg_name (i := 4) sclaw.nd rfl (Or.inl rfl))
  (pss_cons (ps_set (i := 5) sclaw.nd rfl (Or.inl rfl) (pe_tup (pa_cons (pe_c T._law_q G_law_q (hr.mono (by decide)) (pa_cons (pe_op op_sub (pe_c T._law_draw G_law_draw (hr.mono (by decide)) (pa_cons (pv 1) (pa_cons pe_int pa_nil))) pe_int) (pa_cons (pe_op op_add pe_int (pe_c T._law_draw G_law_draw (hr.mono (by decide)) (pa_cons (pv 1) (pa_cons pe_int pa_nil)))) pa_nil))) (pa_cons (pe_tup (pa_cons (pe_op op_sub (pe_c T._law_draw G_law_draw (hr.mono (by decide)) (pa_cons (pv 1) (pa_cons pe_int pa_nil))) pe_int) (pa_cons pe_int pa_nil))) pa_nil))))
  (pss_one (ps_if (PW.pt (pw_or (pt_cmpR (op_eqD (hu64 hr)) (pv 3) (pe_lst pa_nil) (nomark _)) (pw_or1 (pt_cmpR (op_neD (hu64 hr)) (pv 5) (pe_ix ix_list (pv 3) (pe_un un_neg pe_int) (fun _ _ => rfl)) (nomark _))))) (pss_one (ps_expr (pe_bm PySem.F.plainAttrs_list PySem.F.slot_list_append PySem.F.type_list_append mt_append (pv 3) (pa_cons (pv 5) pa_nil)))) pss_nil))))
  (pss_cons (ps_if (PW.pt (pw_or (pt_cmpR op_lt (pe_callB call_len_seq (by rfl) T.len PySem.boot_len (pa_cons (pv 3) pa_nil)) pe_int (nomark _)) (pw_or1 (pt_cmpR (op_eqD (hu64 hr)) (pe_ix ix_list (pv 3) pe_int (fun _ _ => rfl)) (pe_ix ix_list (pv 3) (pe_un un_neg pe_int) (fun _ _ => rfl)) (nomark _))))) (pss_one (ps_set (i := 3) sclaw.nd rfl (Or.inl rfl) (pe_lst (pa_cons (pe_tup (pa_cons (pe_tup (pa_cons (pe_un un_neg pe_int) (pa_cons pe_int pa_nil))) (pa_cons (pe_tup (pa_cons pe_int (pa_cons pe_int pa_nil))) pa_nil))) (pa_cons (pe_tup (pa_cons (pe_tup (pa_cons pe_int (pa_cons pe_int pa_nil))) (pa_cons (pe_tup (pa_cons (pe_un un_neg pe_int) (pa_cons pe_int pa_nil))) pa_nil))) (pa_cons (pe_tup (pa_cons (pe_tup (pa_cons pe_int (pa_cons pe_int pa_nil))) (pa_cons (pe_tup (pa_cons pe_int (pa_cons pe_int pa_nil))) pa_nil))) pa_nil)))))) pss_nil)
  (pss_cons (ps_set (i := 3) sclaw.nd rfl (Or.inl rfl) (pe_c T._law_pick G_law_pick (hr.mono (by decide)) (pa_cons (pv 1) (pa_cons (pe_lst (pa_cons (pv 3) (pa_cons (pe_revL (pv 3)) (pa_cons (pe_op op_cat (pv 3) (pv 3)) pa_nil)))) pa_nil))))
  (pss_cons (ps_set (i := 6) sclaw.nd rfl (Or.inl rfl) (pe_lst (pa_cons (pe_c T._law_pick G_law_pick (hr.mono (by decide)) (pa_cons (pv 1) (pa_cons (pv 3) pa_nil))) (pa_cons (pe_c T._law_place G_law_place (hr.mono (by decide)) (pa_cons (pv 1) (pa_cons pe_int pa_nil))) pa_nil))))
  (pss_cons (ps_asg (pe_c T._law_pick G_law_pick (hr.mono (by decide)) (pa_cons (pv 1) (pa_cons (pe_c T._law_sides G_law_sides (hr.mono (by decide)) (pa_cons (pv 3) pa_nil)) pa_nil))) (pg_tup rfl (pgs_cons (pg_name (i := 7) sclaw.nd rfl (Or.inl rfl)) (pgs_cons (pg_name (i := 8) sclaw.nd rfl (Or.inl rfl)) pgs_nil))))
  (pss_cons (ps_set (i := 9) sclaw.nd rfl (Or.inl rfl) (pe_tup (pa_cons (pe_c T._law_middle G_law_middle (hr.mono (by decide)) (pa_cons (pe_ix ix_tup (pv 7) pe_int (fun _ _ => rfl)) (pa_cons (pe_ix ix_tup (pv 8) pe_int (fun _ _ => rfl)) pa_nil))) (pa_cons (pe_c T._law_middle G_law_middle (hr.mono (by decide)) (pa_cons (pe_ix ix_tup (pv 7) pe_int (fun _ _ => rfl)) (pa_cons (pe_ix ix_tup (pv 8) pe_int (fun _ _ => rfl)) pa_nil))) pa_nil))))
  (pss_cons (ps_set (i := 6) sclaw.nd rfl (Or.inl rfl) (pe_op op_cat (pv 6) (pe_lst (pa_cons (pv 9) (pa_cons (pe_tup (pa_cons (pe_ix ix_tup (pv 9) pe_int (fun _ _ => rfl)) (pa_cons (pe_c T._law_plus G_law_plus (hr.mono (by decide)) (pa_cons (pe_ix ix_tup (pv 9) pe_int (fun _ _ => rfl)) (pa_cons (pe_tup (pa_cons pe_int (pa_cons (pe_op op_pow pe_int pe_int) pa_nil))) pa_nil))) pa_nil))) pa_nil)))))
  (pss_cons (ps_expr (pe_bm PySem.F.plainAttrs_list PySem.F.slot_list_append PySem.F.type_list_append mt_append (pv 6) (pa_cons (pe_tup (pa_cons (pe_c T._law_minus G_law_minus (hr.mono (by decide)) (pa_cons (pe_ix ix_tup (pv 9) pe_int (fun _ _ => rfl)) (pa_cons (pe_tup (pa_cons pe_int (pa_cons (pe_op op_pow pe_int pe_int) pa_nil))) pa_nil))) (pa_cons (pe_ix ix_tup (pv 9) pe_int (fun _ _ => rfl)) pa_nil))) pa_nil)))
  (pss_one (ps_for PassesOwn.never rfl (pi_list (pv 6)) (pg_name (i := 5) sclaw.nd rfl (Or.inl rfl))
  (pss_cons (ps_setLc (i := 10) (own := [("_law_x", 11), ("_law_y", 12)]) (g := gTup K 2 (gCons (gName 11) (gCons (gName 12) gNil))) (tt := tYes) (by rfl) sclaw.nd rfl rfl (sw_true rfl rfl rfl (by decide +kernel)) (pi_list (pv 3)) (blkOk_by (own := [("_law_x", 11), ("_law_y", 12)]) (N := ["_law_script", "_law_pen_here", "_law_lap", "_law_row", "_law_k", "_law_place_here", "_law_places", "_law_one", "_law_two", "_law_half", "_law_passed_here", "_law_x", "_law_y", "_law_there", "_law_kept", "_law_told", "_law_due", "_law_good", "_law_odd", "_law_bad"]) (sc := defScope slaw) (by decide +kernel)) (fun _ _ _ _ _ => pg_tup rfl (pgs_cons (pg_name (i := 11) sclaw.nd rfl (Or.inl rfl)) (pgs_cons (pg_name (i := 12) sclaw.nd rfl (Or.inl rfl)) pgs_nil))) (fun _ _ _ _ _ => pts_nil) (fun _ _ _ _ _ => (pe_lst (pa_cons (pe_c T._law_passed G_law_passed (hr.mono (by decide)) (pa_cons (pv 1) (pa_cons (pv 11) pa_nil))) (pa_cons (pe_c T._law_passed G_law_passed (hr.mono (by decide)) (pa_cons (pv 1) (pa_cons (pv 12) pa_nil))) pa_nil)))))
  (pss_cons (ps_par (i := 13) (j := 14) (by rfl) sclaw.nd rfl rfl (by decide) rfl rfl (pa_cons (pe_lst (pa_cons (pe_c T._law_passed G_law_passed (hr.mono (by decide)) (pa_cons (pv 1) (pa_cons (pe_ix ix_tup (pv 5) pe_int (fun _ _ => rfl)) pa_nil))) (pa_cons (pe_ix ix_tup (pv 5) pe_int (fun _ _ => rfl)) pa_nil))) (pa_cons (pe_callB (id := "repr") (call_show hq (hu64 hr)) (by rfl) T.repr (by decide +kernel) (pa_cons (pv 10) pa_nil)) pa_nil)) (by rfl))
  (pss_cons (ps_set (i := 15) sclaw.nd rfl (Or.inl rfl) (pe_call Gwinding (hr.mono (by decide)) (by rfl) T.winding.g T.winding.F.kp T.winding.b .nil passL (pa_cons (pe_c T._law_pick G_law_pick (hr.mono (by decide)) (pa_cons (pv 1) (pa_cons (pe_lst (pa_cons (pv 10) (pa_cons (pe_callTy call_tuple_of (by rfl) T.tuple (by decide +kernel) (pa_cons (pv 10) pa_nil)) pa_nil))) pa_nil))) (pa_cons (pe_c T._law_pick G_law_pick (hr.mono (by decide)) (pa_cons (pv 1) (pa_cons (pe_lst (pa_cons (pv 13) (pa_cons (pe_callTy call_tuple_of (by rfl) T.tuple (by decide +kernel) (pa_cons (pv 13) pa_nil)) pa_nil))) pa_nil))) pa_nil))))
  (pss_cons (ps_set (i := 16) sclaw.nd rfl (Or.inl rfl) (pe_c T._law_winding_of G_law_winding_of (hr.mono (by decide)) (pa_cons (pv 3) (pa_cons (pv 5) pa_nil))))
  (pss_one (ps_if (PW.pt (pw_or (pt_cmpR op_ne (pv 15) (pv 16) (nomark _)) (pw_or (pt_cmpR op_ne (pe_callB (id := "repr") (call_show hq (hu64 hr)) (by rfl) T.repr (by decide +kernel) (pa_cons (pv 10) pa_nil)) (pv 14) (nomark _)) (pw_or1 (PW.pt (pw_and (pt_cmpR op_notN (pv 15) pe_non (nomark _)) (pw_and1 (pt_not (pt_val (pe_c T._law_is_whole G_law_is_whole (hr.mono (by decide)) (pa_cons (pv 15) pa_nil))))))))))) (pss_one (ps_ret pe_bl)) pss_nil))))))))))))))))))
  (pss_cons (ps_set (i := 17) sclaw.nd rfl (Or.inr rfl) (pe_lst (pa_cons (pe_tup (pa_cons pe_int (pa_cons pe_int pa_nil))) (pa_cons (pe_tup (pa_cons pe_int (pa_cons pe_int pa_nil))) (pa_cons (pe_tup (pa_cons pe_int (pa_cons pe_int pa_nil))) pa_nil)))))
  (pss_cons (ps_set (i := 18) sclaw.nd rfl (Or.inr rfl) (pe_c T._law_pick G_law_pick (hr.mono (by decide)) (pa_cons (pv 1) (pa_cons (pe_lst (pa_cons pe_non (pa_cons pe_int (pa_cons (pe_lst pa_nil) (pa_cons (pe_lst (pa_cons (pe_tup (pa_cons pe_int (pa_cons pe_int pa_nil))) pa_nil)) (pa_cons (pe_lst (pa_cons (pe_tup (pa_cons pe_int (pa_cons pe_int pa_nil))) (pa_cons (pe_tup (pa_cons pe_int (pa_cons pe_int pa_nil))) pa_nil))) (pa_cons (pe_lst (pa_cons (pe_tup (pa_cons pe_int (pa_cons pe_int pa_nil))) (pa_cons (pe_tup (pa_cons pe_int (pa_cons pe_int pa_nil))) (pa_cons (pe_tup (pa_cons pe_int (pa_cons pe_int pa_nil))) pa_nil)))) (pa_cons (pe_lst (pa_cons (pe_tup (pa_cons pe_int (pa_cons pe_int pa_nil))) (pa_cons pe_int pa_nil))) (pa_cons pe_str (pa_cons pe_dnewK (pa_cons (pe_lst (pa_cons (pe_tup (pa_cons pe_int (pa_cons pe_int pa_nil))) (pa_cons (pe_tup (pa_cons (pe_tup (pa_cons pe_int (pa_cons pe_int pa_nil))) (pa_cons pe_int pa_nil))) (pa_cons (pe_tup (pa_cons pe_int (pa_cons pe_int pa_nil))) pa_nil)))) (pa_cons (pe_lst (pa_cons (pe_tup (pa_cons pe_int (pa_cons pe_int pa_nil))) (pa_cons (pe_tup (pa_cons pe_int (pa_cons pe_int pa_nil))) (pa_cons (pe_tup (pa_cons pe_int (pa_cons pe_non pa_nil))) pa_nil)))) pa_nil)))))))))))) pa_nil))))
  (pss_cons (ps_if (pt_cmpR (op_neI (hu64 hr)) (LamX.pe_lamcall (T := Tb) (TT := TTfault K mg) (x := "_law_fault") (a := "_law_call") (g := fA mg "_law_fault") (c := cC) (P := cP) (k := 11) (Ng := ["_law_call", "_law_told", "error"]) (t := fun E => tCall (spWind mg) [] E (tCons (tVar 18) (tCons (tC .non) tNil)))
     (by rfl) T._law_fault.g T._law_fault.F.kp lk' hcg b' sc_law_fault rfl (.inl rfl) (fault_gives T hq fun e => (hr.mono (by decide) : Room 2 _).deeper e) TB rfl (lam_memT hTm (by rfl)) (lam_onlyT hTo (by rfl)) (hr.mono (by decide)) (LamX.lamS_by (show LamX.lamSB (defScope slaw) _ = true from by decide +kernel)) rfl (fun _ _ _ _ _ => rfl)
     (fun A outer s H E f c' hr => pe_call Gwinding (hr.mono (by decide)) (by rfl) T.winding.g T.winding.F.kp T.winding.b .nil (passes_call (takes_of rfl rfl rfl rfl) (fun _ _ _ _ h => h)) (pa_cons (pv 18) (pa_cons pe_non pa_nil)))) (pe_tup (pa_cons pe_str (pa_cons (pv 18) pa_nil))) (nomark _)) (pss_one (ps_ret pe_bl)) pss_nil)
  (pss_cons (ps_set (i := 19) sclaw.nd rfl (Or.inr rfl) (pe_c T._law_pick G_law_pick (hr.mono (by decide)) (pa_cons (pv 1) (pa_cons (pe_lst (pa_cons pe_non (pa_cons pe_int (pa_cons (pe_tup (pa_cons pe_int pa_nil)) (pa_cons (pe_tup (pa_cons pe_int (pa_cons pe_int (pa_cons pe_int pa_nil)))) (pa_cons (pe_tup (pa_cons pe_str (pa_cons pe_int pa_nil))) (pa_cons (pe_lst (pa_cons (pe_tup (pa_cons pe_int (pa_cons pe_int pa_nil))) (pa_cons pe_int pa_nil))) (pa_cons (pe_tup (pa_cons pe_bl (pa_cons pe_int pa_nil))) (pa_cons pe_dnewK pa_nil))))))))) pa_nil))))
  (pss_cons (ps_if (pt_cmpR (op_neI (hu64 hr)) (LamX.pe_lamcall (T := Tb) (TT := TTfault K mg) (x := "_law_fault") (a := "_law_call") (g := fA mg "_law_fault") (c := cC) (P := cP) (k := 11) (Ng := ["_law_call", "_law_told", "error"]) (t := fun E => tCall (spWind mg) [] E (tCons (tVar 17) (tCons (tVar 19) tNil)))
     (by rfl) T._law_fault.g T._law_fault.F.kp lk' hcg b' sc_law_fault rfl (.inl rfl) (fault_gives T hq fun e => (hr.mono (by decide) : Room 2 _).deeper e) TB rfl (lam_memT hTm (by rfl)) (lam_onlyT hTo (by rfl)) (hr.mono (by decide)) (LamX.lamS_by (show LamX.lamSB (defScope slaw) _ = true from by decide +kernel)) rfl (fun _ _ _ _ _ => rfl)
     (fun A outer s H E f c' hr => pe_call Gwinding (hr.mono (by decide)) (by rfl) T.winding.g T.winding.F.kp T.winding.b .nil (passes_call (takes_of rfl rfl rfl rfl) (fun _ _ _ _ h => h)) (pa_cons (pv 17) (pa_cons (pv 19) pa_nil)))) (pe_tup (pa_cons pe_str (pa_cons (pv 19) pa_nil))) (nomark _)) (pss_one (ps_ret pe_bl)) pss_nil)
  (pss_one (ps_ret (pe_and (pe_cmpR op_eq (pe_call Gwinding (hr.mono (by decide)) (by rfl) T.winding.g T.winding.F.kp T.winding.b .nil passL (pa_cons (pe_lst (pa_cons (pe_tup (pa_cons pe_int (pa_cons pe_int pa_nil))) (pa_cons (pe_tup (pa_cons pe_int (pa_cons pe_int pa_nil))) pa_nil))) (pa_cons (pe_tup (pa_cons pe_int (pa_cons pe_int pa_nil))) pa_nil))) pe_int (nomark _)) (pe_one (pe_cmpR op_isN (pe_call Gwinding (hr.mono (by decide)) (by rfl) T.winding.g T.winding.F.kp T.winding.b .nil passL (pa_cons (pe_lst (pa_cons (pe_tup (pa_cons pe_int (pa_cons pe_int pa_nil))) (pa_cons (pe_tup (pa_cons pe_int (pa_cons pe_int pa_nil))) pa_nil))) (pa_cons (pe_tup (pa_cons pe_int (pa_cons pe_int pa_nil))) pa_nil))) pe_non (nomark _))))))))))))), ?_⟩
  refine q_asg (c_call (va_cons (val_var rfl) va_nil) ⟨a, ns, rfl, hS, hn, fun p c H0 s0 P0 => ?_⟩)
  have T0 := Tabs.same hT s0
  refine q_forR1 (n := 3) (va_cons val_c va_nil) (by decide) (fun n σ H => (∃ z2 z3 z4 z5 z6 z7 z8 z9 z10 z11 z12 z13 z14 z15 z16 z17 z18 z19, σ = [some (.ref a), some (.ref p), z2, z3, z4, z5, z6, z7, z8, z9, z10, z11, z12, z13, z14, z15, z16, z17, z18, z19]) ∧ PenAt H p c (2000 * n) ∧ LamX.Tabs Tb H)
    ⟨⟨_, _, _, _, _, _, _, _, _, _, _, _, _, _, _, _, _, _, rfl⟩, P0, T0⟩ (fun n σ H hn z => ?_) (fun σ H z => ?_)
  · obtain ⟨⟨z2, z3, z4, z5, z6, z7, z8, z9, z10, z11, z12, z13, z14, z15, z16, z17, z18, z19, rfl⟩, P1, T1⟩ := z
    clear P0 T0 s0 hT hS k
    have hm : 2000 * n + 2000 < most := by
      have : most = 1000000000 := rfl
      omega
    refine g_name (q_asg (l_lst va_nil (by decide) fun l hl => ?_))
    have nc := P1.ne_cells hl
    have P1 := P1.same (Same.new' (o := .lst []) hl)
    have T1 := Tabs.same T1 (Same.new' (o := .lst []) hl)
    have R1 : Pls 3 (upd H l (.lst [])) l [] := ⟨⟨[], upd_same, .nil⟩, fun _ h => nomatch h⟩
    revert P1 T1 R1
    generalize upd H l (.lst []) = H1
    intro P1 T1 R1
    clear hl
    refine q_forRaw (va_1 (op_in ((show tC (.int 2) _ _ _ from c_call (va_cons (val_var rfl) (va_cons val_c va_nil)) ⟨p, c, 8, _, rfl, P1, by omega, by decide, by decide, fun r H2 r0 r1 b1 P2 => ⟨2, r, rfl, rfl, raw_of (r.toNat + 2) (by omega) (by omega) (fun j σ H => (∃ z4 z5, σ = [some (.ref a), some (.ref p), some (.int (n : Int)), some (.ref l), z4, z5, z6, z7, z8, z9, z10, z11, z12, z13, z14, z15, z16, z17, z18, z19]) ∧ PenAt H p c (2000 * n + 1 + 3 * j) ∧ LamX.Tabs Tb H ∧ ∃ ps, Pls 3 H l ps ∧ Lin ps ∧ ps.length ≤ j)
      ⟨⟨_, _, rfl⟩, P2, Tabs.but T1 P1 b1, [], R1.but P1 b1, lin_nil, Nat.le_refl _⟩ (fun j σ H hj z => ?_) (fun σ H z => ?_)⟩⟩))))
    · obtain ⟨⟨z4, z5, rfl⟩, P3, T3, ps, R3, lin, len⟩ := z
      clear P1 T1 R1 P2 b1
      refine g_name (q_asg (tup_two (call_1 (op_in (c_call (va_cons (val_var rfl) (va_cons val_c va_nil)) ⟨p, c, 9, _, rfl, P3, by omega, by decide, by decide, fun r1 H4 a0 a1 b4 P4 => (show tC (.int 4) _ _ _ from ⟨r1, 4, rfl, rfl, va_1 (op_in (show tC (.int 1) _ _ _ from c_call (va_cons (val_var rfl) (va_cons val_c va_nil)) ⟨p, c, 2, _, rfl, P4, by omega, by decide, by decide, fun r2 H5 c0 c1 b5 P5 => ⟨1, r2, rfl, rfl, ?_⟩⟩))⟩)⟩)))))
      have wd3 : (2 : Nat) ^ 3 ≤ 2 ^ wd := Nat.pow_le_pow_right (by decide) (by decide)
      refine ⟨r1 - 4, 1 + r2, rfl, by omega, by omega, .inl ⟨by omega, fun t1 H6 s6 e6 => ?_⟩⟩
      have l6 : Lo H6 t1 (Rat.divInt (r1 - 4) (1 + r2)) := q_lo (by omega) e6
      have m6 : Sm 3 (Rat.divInt (r1 - 4) (1 + r2)) := Sm.div (by omega) (by omega) (by omega)
      refine tup_two (op_in (c_call (va_cons (val_var rfl) (va_cons val_c va_nil)) ⟨p, c, 7, _, rfl, P5.same s6, by omega, by decide, by decide, fun r3 H7 d0 d1 b7 P7 => (show tC (.int 3) _ _ _ from ⟨r3, 3, rfl, rfl, (show tC (.int 1) _ _ _ from ⟨by show 2 ≤ sizeLine; decide, fun t2 ht2 => ⟨by show 2 ≤ sizeLine; decide, fun t3 ht3 => ?_⟩⟩)⟩)⟩))
      have s8 := Same.new' (o := .tup [.int (r3 - 3), .int 1]) ht2
      have s9 := Same.new' (o := .tup [.ref t1, .ref t2]) ht3
      have e8 := upd_same (H := H7) (a := t2) (o := .tup [.int (r3 - 3), .int 1])
      have pl : PlL _ (.ref t3) (Rat.divInt (r1 - 4) (1 + r2), ((r3 - 3 : Int) : Rat)) := ⟨t3, t1, t2, rfl, upd_same, (((b7.lo (P5.same s6) l6).same s8).same s9), (int_lo e8).same s9⟩
      have sm : Sm2 3 (Rat.divInt (r1 - 4) (1 + r2), ((r3 - 3 : Int) : Rat)) := ⟨m6, int_sm (by omega) (by decide)⟩
      have R9 := (((((R3.but P3 b4).but P4 b5).same s6).but (P5.same s6) b7).same s8).same s9
      have T9 := Tabs.same (Tabs.but (Tabs.same (Tabs.but (Tabs.but T3 P3 b4) P4 b5) s6) (P5.same s6) b7) (s8.trans s9)
      have P9 := (P7.same s8).same s9
      revert pl sm R9 T9 P9
      generalize (Rat.divInt (r1 - 4) (1 + r2), ((r3 - 3 : Int) : Rat)) = q
      generalize upd (upd H7 t2 (.tup [.int (r3 - 3), .int 1])) t3 (.tup [.ref t1, .ref t2]) = H9
      intro pl sm R9 T9 P9
      clear s9 s8 e8 ht3 ht2 P7 b7 l6 m6 e6 s6 P5 b5 P4 b4 P3 T3 R3 d0 d1 c0 c1 a0 a1
      obtain ⟨vs, ev, al, lv⟩ := R9.sq
      refine st_ifOr (t_op ((val_var rfl) _ (l_lst va_nil (by decide) fun e he => ⟨_, _, .lst (SqL.of (Same.new' (o := .lst []) he _ _ ev)) (all_dp (al.imp fun v q r => r.same (Same.new' (o := .lst []) he))), .lst (SqL.of upd_same) .nil, pls_shaped ps, pls_shaped [], _, rfl, ?_⟩)))
      have s10 := Same.new' (o := .lst []) he
      have R10 := R9.same s10
      have T10 := Tabs.same T9 s10
      have P10 := P9.same s10
      have pl10 := pl.same s10
      have ev10 := s10 _ _ ev
      have al10 := al.imp fun v q (r : PlL H9 v q) => r.same s10
      revert R10 T10 P10 pl10 ev10 al10
      generalize upd H9 e (.lst []) = H10
      intro R10 T10 P10 pl10 ev10 al10
      clear R9 T9 P9 s10 he
      have app : (∀ x, ps[ps.length - 1]? = some x → x ≠ q) → tDrop (tBM K "list" rAppend (tVar 3) (tCons (tVar 5) tNil)) { nx := fun σ H => (∃ z4 z5, σ = [some (.ref a), some (.ref p), some (.int (n : Int)), some (.ref l), z4, z5, z6, z7, z8, z9, z10, z11, z12, z13, z14, z15, z16, z17, z18, z19]) ∧ PenAt H p c (2000 * n + 1 + 3 * (j + 1)) ∧ LamX.Tabs Tb H ∧ ∃ ps, Pls 3 H l ps ∧ Lin ps ∧ ps.length ≤ j + 1, rt := fun _ _ => False, bk := fun _ _ => False, ct := fun _ _ => False } [some (.ref a), some (.ref p), some (.int (n : Int)), some (.ref l), some (.int (j : Int)), some (.ref t3), z6, z7, z8, z9, z10, z11, z12, z13, z14, z15, z16, z17, z18, z19] H10 := fun ne =>
        s_appC (val_var rfl) ev10 ((val_var rfl) _ ⟨l, vs, _, rfl, rfl, ev10, Nat.lt_of_lt_of_le (show vs.length < 100 by omega) (by decide), ⟨⟨_, _, rfl⟩, (P10.updL ev10 nc).le (by omega), Tabs.updL T10 ev10, _, R10.snoc ev10 pl10 sm, lin.snoc ne, by rw [List.length_append]; show ps.length + 1 ≤ j + 1; omega⟩⟩)
      rw [nil_eqv]
      by_cases e0 : ps = []
      · rw [if_pos (decide_eq_true e0), if_pos rfl]
        exact app (fun x hx => by rw [e0] at hx; simp at hx)
      · rw [if_neg (by rw [decide_eq_false e0]; decide)]
        have l0 : 0 < ps.length := List.length_pos_iff.mpr e0
        have hx : ps[ps.length - 1]? = some ps[ps.length - 1] := List.getElem?_eq_getElem _
        have hv : vs[vs.length - 1]? = some vs[vs.length - 1] := List.getElem?_eq_getElem _
        obtain ⟨y, hy, ply⟩ := al10.get hv
        rw [lv, hx] at hy
        cases hy
        refine t_op ((val_var rfl) _ (op_in ((val_var rfl) _ ((v_neg val_c) _ ⟨l, vs, -1, _, rfl, rfl, SqL.of ev10, atI_m1 hv, ⟨_, _, pl_dp pl10, pl_dp ply, pl_shaped _, pl_shaped _, _, rfl, ?_⟩⟩))))
        rw [pl_eqv]
        by_cases eq : q = ps[ps.length - 1]
        · rw [if_neg (by rw [decide_eq_true eq]; decide)]
          exact ⟨⟨_, _, rfl⟩, P10.le (by omega), T10, ps, R10, lin, by omega⟩
        · rw [if_pos (by rw [decide_eq_false eq]; decide)]
          exact app (fun x hx' => by rw [hx] at hx'; cases hx'; exact fun z => eq z.symm)
    · obtain ⟨⟨z4, z5, rfl⟩, P3, T3, ps, R3, lin, len⟩ := z
      have P3 := P3.le (show 2000 * n + 1 + 3 * (r.toNat + 2) ≤ 2000 * n + 28 by omega)
      have len : ps.length ≤ 9 := by omega
      clear P1 T1 R1 P2 b1
      refine q_ifOrK (I := fun σ' H' => ∃ l' z4 z5 ps, σ' = [some (.ref a), some (.ref p), some (.int (n : Int)), some (.ref l'), z4, z5, z6, z7, z8, z9, z10, z11, z12, z13, z14, z15, z16, z17, z18, z19] ∧ PenAt H' p c (2000 * n + 28) ∧ LamX.Tabs Tb H' ∧ Pls 3 H' l' ps ∧ Cy ps ∧ 2 ≤ ps.length ∧ ps.length ≤ 9) (fun σ' H' z => ?_) (fun rest => ?_)
      · clear P3 T3 R3 lin nc
        obtain ⟨l1, z4, z5, ps, rfl, P3, T3, R3, cy, n2, n9⟩ := z
        obtain ⟨vs, ev, al, lv⟩ := R3.sq
        -- as it is, turned about, or twice
        refine q_asg (call_1 ((val_var rfl) _ (va_1 (l_s (va_s (val_var rfl) (va_x (show tRevL K _ _ _ _ from (val_var rfl) _ ⟨l1, vs, rfl, SqL.of ev, fun rv hrv => va_1 (op_in ((val_var rfl) _ ((val_var rfl) _ ⟨l1, l1, vs, vs, rfl, rfl, Same.new' (o := .lst vs.reverse) hrv _ _ ev, Same.new' (o := .lst vs.reverse) hrv _ _ ev, Nat.le_trans (show vs.length + vs.length ≤ 100 by omega) (by decide), fun db hdb => ⟨by show 3 ≤ sizeLine; decide, fun q hq => ?_⟩⟩)))⟩)))))))
        have s1 := Same.new' (o := .lst vs.reverse) hrv
        have s2 := Same.new' (o := .lst (vs ++ vs)) hdb
        have s3 := Same.new' (o := .lst [.ref l1, .ref rv, .ref db]) hq
        have S3 := (s1.trans s2).trans s3
        have e1 := upd_same (H := H') (a := rv) (o := .lst vs.reverse)
        have e2 := upd_same (H := upd H' rv (.lst vs.reverse)) (a := db) (o := .lst (vs ++ vs))
        refine ⟨p, c, q, _, _, rfl, P3.same S3, by omega, SqL.of upd_same, by show 0 < 3; decide, by show 3 < 1000000000; decide, fun v H1 hv b1 P4 => ?_⟩
        obtain ⟨l2, ps2, rfl, R4, cy2, n2', n18⟩ : ∃ l2 ps2, v = .ref l2 ∧ Pls 3 H1 l2 ps2 ∧ Cy ps2 ∧ 2 ≤ ps2.length ∧ ps2.length ≤ 18 := by
          simp only [List.mem_cons, List.not_mem_nil, or_false] at hv
          rcases hv with rfl | rfl | rfl
          · exact ⟨l1, ps, rfl, (R3.same S3).but (P3.same S3) b1, cy, n2, by omega⟩
          · refine ⟨rv, ps.reverse, rfl, Pls.but (m := 2000 * n + 28) ⟨⟨_, (s2.trans s3) _ _ e1, (al.imp fun v q r => r.same S3).rev⟩, fun q hq => R3.sm q (by simpa using hq)⟩ (P3.same S3) b1, cy.rev, by simpa using n2, by rw [List.length_reverse]; omega⟩
          · refine ⟨db, ps ++ ps, rfl, Pls.but (m := 2000 * n + 28) ⟨⟨_, s3 _ _ e2, (al.imp fun v q r => r.same S3).app (al.imp fun v q r => r.same S3)⟩, fun q hq => R3.sm q (by simpa using hq)⟩ (P3.same S3) b1, cy.dbl, by rw [List.length_append]; omega, by rw [List.length_append]; omega⟩
        have T4 := Tabs.but (Tabs.same T3 S3) (P3.same S3) b1
        clear P3 T3 R3 cy n2 n9 ev al lv s1 s2 s3 S3 e1 e2 b1 hv hq hdb hrv
        -- the places
        obtain ⟨ws, ew, aw, lw⟩ := R4.sq
        refine q_asg (l_s (va_x (c_call (va_cons (val_var rfl) (va_cons (val_var rfl) va_nil)) ⟨p, c, l2, ws, _, rfl, P4, by omega, SqL.of ew, by omega, by omega, fun v1 H2 hv1 b2 P5 => va_1 (c_call (va_cons (val_var rfl) (va_cons val_c va_nil)) ⟨p, c, _, rfl, P5, by omega, fun v2 H3 q2 pl2 sm2 b3 P6 => ⟨by show 2 ≤ sizeLine; decide, fun L hL => ?_⟩⟩)⟩)))
        obtain ⟨q1, m1, pl1⟩ := all2_mem aw hv1
        have s4 := Same.new' (o := .lst [v1, v2]) hL
        have B3 := (b2.trans b3).trans (But.of s4)
        have pl1 := ((pl1.but P4 b2).but P5 b3).same s4
        have pl2 := pl2.same s4
        have R6 := ((R4.but P4 b2).but P5 b3).same s4
        have T6 := Tabs.same (Tabs.but (Tabs.but T4 P4 b2) P5 b3) s4
        have P6 := P6.same s4
        have eL := upd_same (H := H3) (a := L) (o := .lst [v1, v2])
        have sm1 := R4.sm q1 m1
        revert pl1 pl2 R6 T6 P6 eL
        generalize upd H3 L (.lst [v1, v2]) = H4
        intro pl1 pl2 R6 T6 P6 eL
        clear B3 s4 hL b3 P5 b2 hv1 P4 R4 T4 ew aw
        -- a side of it
        obtain ⟨ws, ew, aw, lw⟩ := R6.sq
        refine q_asgG (call_1 ((val_var rfl) _ (va_1 (c_call (va_cons (val_var rfl) va_nil) ⟨l2, ws, rfl, ew, by omega, by omega, fun S zs H5 s5 eS sds nS => ⟨p, c, S, zs, _, rfl, P6.same s5, by omega, SqL.of eS, by rw [sds.1]; omega, by rw [sds.1]; omega, fun v H6 hv b6 P7 => ?_⟩⟩))))
        obtain ⟨T1, x1, y1, px, py, rfl, eT, plx, ply, mx, my⟩ : ∃ T x y px py, v = .ref T ∧ H6 T = some (.tup [x, y]) ∧ PlL H6 x px ∧ PlL H6 y py ∧ Sm2 3 px ∧ Sm2 3 py := by
          obtain ⟨i, ei⟩ := List.getElem?_of_mem hv
          have li : i < ws.length := by rw [← sds.1]; exact (List.getElem?_eq_some_iff.mp ei).1
          have hx : ws[i]? = some ws[i] := List.getElem?_eq_getElem li
          have hy : (rot ws)[i]? = some ((rot ws)[i]'(by rw [rot_len]; exact li)) := List.getElem?_eq_getElem _
          obtain ⟨U, eU, hU⟩ := sds.2 i _ _ hx hy
          rw [ei] at eU
          cases eU
          obtain ⟨pa, hpa, plA⟩ := aw.get hx
          obtain ⟨pb, hpb, plB⟩ := (rot_get aw).get hy
          have mB : pb ∈ ps2 := by
            have := get_mem hpb
            unfold rot at this
            rcases List.mem_append.mp this with h | h
            · exact List.mem_of_mem_drop h
            · exact List.mem_of_mem_take h
          obtain ⟨kvs, hd⟩ := (P6.same s5).dk
          exact ⟨U, _, _, pa, pb, rfl, b6 _ _ hU (ne_of hU hd (by intro z; cases z)), (plA.same s5).but (P6.same s5) b6, (plB.same s5).but (P6.same s5) b6, R6.sm _ (get_mem hpa), R6.sm _ mB⟩
        have pl1 := (pl1.same s5).but (P6.same s5) b6
        have pl2 := (pl2.same s5).but (P6.same s5) b6
        have R7 := (R6.same s5).but (P6.same s5) b6
        have T7 := Tabs.but (Tabs.same T6 s5) (P6.same s5) b6
        have eL : H6 L = some (.lst [v1, v2]) := by
          obtain ⟨kvs, hd⟩ := (P6.same s5).dk
          exact b6 _ _ (s5 _ _ eL) (ne_of (s5 _ _ eL) hd (by intro z; cases z))
        have P7 := P7.le (show _ ≤ 2000 * n + 40 by omega)
        clear hv eS sds nS s5 b6 P6 T6 R6 ew aw
        refine g_two (SqT.of eT) ?_
        -- its middle
        obtain ⟨xa, xa1, xa2, rfl, exa, lxa1, lxa2⟩ := plx
        obtain ⟨ya, ya1, ya2, rfl, eya, lya1, lya2⟩ := ply
        refine q_asg (tup_two (c_call (va_cons (v_pl (val_var rfl) exa).1 (va_cons (v_pl (val_var rfl) eya).1 va_nil)) ⟨xa1, ya1, _, _, 3, 3, rfl, lxa1, lya1, mx.1, my.1, by decide, by decide, fun h1 H8 s8 lh1 => ?_⟩))
        refine c_call (va_cons (v_pl (val_var rfl) (s8 _ _ exa)).2 (va_cons (v_pl (val_var rfl) (s8 _ _ eya)).2 va_nil)) ⟨xa2, ya2, _, _, 3, 3, rfl, lxa2.same s8, lya2.same s8, mx.2, my.2, by decide, by decide, fun h2 H9 s9 lh2 => ⟨by show 2 ≤ sizeLine; decide, fun hf hhf => ?_⟩⟩
        have sh : Sm2 9 ((px.1 + py.1) * halfQ, (px.2 + py.2) * halfQ) := ⟨((mx.1.add my.1).mul half_sm).mono (by decide), ((mx.2.add my.2).mul half_sm).mono (by decide)⟩
        have s10 := Same.new' (o := .tup [.ref h1, .ref h2]) hhf
        have S10 := (s8.trans s9).trans s10
        have lh1 := (lh1.same s9).same s10
        have lh2 := lh2.same s10
        have eh := upd_same (H := H9) (a := hf) (o := .tup [.ref h1, .ref h2])
        have pl1 := pl1.same S10
        have pl2 := pl2.same S10
        have R10 := R7.same S10
        have T10 := Tabs.same T7 S10
        have P10 := P7.same S10
        have eL := S10 _ _ eL
        revert sh lh1 lh2 eh pl1 pl2 R10 T10 P10 eL
        generalize ((px.1 + py.1) * halfQ) = hx
        generalize ((px.2 + py.2) * halfQ) = hy
        generalize upd H9 hf (.tup [.ref h1, .ref h2]) = H10
        intro sh lh1 lh2 eh pl1 pl2 R10 T10 P10 eL
        clear S10 s10 s9 s8 hhf R7 T7 P7 exa eya lxa1 lxa2 lya1 lya2 mx my eT
        -- places close by it
        refine q_asg (op_in ((val_var rfl) _ (l_s (va_s (val_var rfl) (va_1 (tup_two ((v_pl (val_var rfl) eh).1 _ (call_1 ((v_pl (val_var rfl) eh).2 _ (va_1 (l_tup (va_cons val_c (va_cons (v_pow val_c val_c ⟨by decide, by decide, by decide⟩) va_nil)) (by show 2 ≤ 100000; decide) fun t9 ht9 => cs_lplus (y := Rat.divInt 1 (10 ^ 9)) (n := 9) (m := 30) (lh2.same (Same.new' ht9)) ?_ sh.2 ?_ (by decide) (by decide) fun g9 H11 s11 lg9 => ⟨by show 2 ≤ sizeLine; decide, fun u9 hu9 => ⟨by show 2 ≤ sizeLine; decide, fun b9 hb9 => ⟨L, b9, [v1, v2], _, rfl, rfl, ?_, upd_same, by show 4 ≤ sizeLine; decide, fun L2 hL2 => ?_⟩⟩⟩)))))))))))
        · exact tiny_lo upd_same
        · exact tiny_sm (by decide) (by decide)
        · exact Same.new' (o := .lst [.ref hf, .ref u9]) hb9 _ _ (Same.new' (o := .tup [.ref h1, .ref g9]) hu9 _ _ (s11 _ _ (Same.new' (o := .tup [.int 1, .int (10 ^ (9 : Int).toNat)]) ht9 _ _ eL)))
        have s12 := Same.new' (o := .tup [.int 1, .int (10 ^ (9 : Int).toNat)]) ht9
        have s13 := Same.new' (o := .tup [.ref h1, .ref g9]) hu9
        have s14 := Same.new' (o := .lst [.ref hf, .ref u9]) hb9
        have s15 := Same.new' (o := .lst ([v1, v2] ++ [.ref hf, .ref u9])) hL2
        have S15 := (((s12.trans s11).trans s13).trans s14).trans s15
        have P15 := P10.same S15
        have ncL := P10.same (((s12.trans s11).trans s13).trans s14) |>.ne_cells hL2
        have neL : l2 ≠ L2 := by
          obtain ⟨_, e, _⟩ := (R10.same (((s12.trans s11).trans s13).trans s14)).ex
          exact ne_of_none e hL2
        have R15 := R10.same S15
        have T15 := Tabs.same T10 S15
        have pl1 := pl1.same S15
        have pl2 := pl2.same S15
        have plh : PlL _ (.ref hf) (hx, hy) := ⟨hf, h1, h2, rfl, S15 _ _ eh, lh1.same S15, lh2.same S15⟩
        have plu : PlL _ (.ref u9) (hx, hy + Rat.divInt 1 (10 ^ 9)) := ⟨u9, h1, g9, rfl, (s14.trans s15) _ _ upd_same, lh1.same S15, lg9.same ((s13.trans s14).trans s15)⟩
        have eL2 := upd_same (H := upd (upd H11 u9 (.tup [.ref h1, .ref g9])) b9 (.lst [.ref hf, .ref u9])) (a := L2) (o := .lst ([v1, v2] ++ [.ref hf, .ref u9]))
        have su : Sm2 40 (hx, hy + Rat.divInt 1 (10 ^ 9)) := ⟨sh.1.mono (by decide), (sh.2.add (tiny_sm (k := 9) (n := 30) (by decide) (by decide))).mono (by decide)⟩
        have eh := S15 _ _ eh
        have lh1 := lh1.same S15
        have lh2 := lh2.same S15
        revert P15 R15 T15 pl1 pl2 plh plu eL2 su eh lh1 lh2
        generalize hy + Rat.divInt 1 (10 ^ 9) = hu
        generalize upd (upd (upd H11 u9 (.tup [.ref h1, .ref g9])) b9 (.lst [.ref hf, .ref u9])) L2 (.lst ([v1, v2] ++ [.ref hf, .ref u9])) = H15
        intro P15 R15 T15 pl1 pl2 plh plu eL2 su eh lh1 lh2
        clear S15 s15 s14 s13 s12 s11 lg9 hL2 hb9 hu9 ht9 P10 R10 T10 eL
        refine q_app0 (val_var rfl) eL2 (tup_two (call_1 ((v_pl (val_var rfl) eh).1 _ (va_1 (l_tup (va_cons val_c (va_cons (v_pow val_c val_c ⟨by decide, by decide, by decide⟩) va_nil)) (by show 2 ≤ 100000; decide) fun t7 ht7 => cs_lminus (y := Rat.divInt 1 (10 ^ 7)) (n := 9) (m := 30) (lh1.same (Same.new' ht7)) ?_ sh.1 ?_ (by decide) (by decide) fun g7 H16 s16 lg7 => (v_pl (val_var rfl) (s16 _ _ (Same.new' (o := .tup [.int 1, .int (10 ^ (7 : Int).toNat)]) ht7 _ _ eh))).2 _ ⟨by show 2 ≤ sizeLine; decide, fun u7 hu7 => ⟨L2, [v1, v2] ++ [.ref hf, .ref u9], .ref u7, rfl, rfl, ?_, by show 4 < sizeLine; decide, ?_⟩⟩)))))
        · exact tiny_lo upd_same
        · exact tiny_sm (by decide) (by decide)
        · exact Same.new' (o := .tup [.ref g7, .ref h2]) hu7 _ _ (s16 _ _ (Same.new' (o := .tup [.int 1, .int (10 ^ (7 : Int).toNat)]) ht7 _ _ eL2))
        have s17 := Same.new' (o := .tup [.int 1, .int (10 ^ (7 : Int).toNat)]) ht7
        have s18 := Same.new' (o := .tup [.ref g7, .ref h2]) hu7
        have S18 := (s17.trans s16).trans s18
        have plw : PlL _ (.ref u7) (hx - Rat.divInt 1 (10 ^ 7), hy) := ⟨u7, g7, h2, rfl, upd_same, lg7.same s18, lh2.same S18⟩
        have sw : Sm2 40 (hx - Rat.divInt 1 (10 ^ 7), hy) := ⟨(sh.1.sub (tiny_sm (k := 7) (n := 30) (by decide) (by decide))).mono (by decide), sh.2.mono (by decide)⟩
        have eL2 := S18 _ _ eL2
        have Q18 : Pls 40 _ L2 [q1, q2, (hx, hy), (hx, hu)] := ⟨⟨_, eL2, .cons (pl1.same S18) (.cons (pl2.same S18) (.cons (plh.same S18) (.cons (plu.same S18) .nil)))⟩, fun q hq => by
          simp only [List.mem_cons, List.not_mem_nil, or_false] at hq
          rcases hq with rfl | rfl | rfl | rfl
          · exact sm1.mono (by decide)
          · exact Sm2.mono sm2 (by decide)
          · exact sh.mono (by decide)
          · exact su⟩
        have Q19 := Q18.snoc eL2 plw sw
        have P19 := (P15.same S18).updL eL2 (zs := [v1, v2] ++ [.ref hf, .ref u9] ++ [.ref u7]) ncL
        have T19 := Tabs.updL (Tabs.same T15 S18) eL2 (zs := [v1, v2] ++ [.ref hf, .ref u9] ++ [.ref u7])
        have R19 := (R15.same S18).off eL2 (zs := [v1, v2] ++ [.ref hf, .ref u9] ++ [.ref u7]) neL
        have e19 := upd_same (H := upd H16 u7 (.tup [.ref g7, .ref h2])) (a := L2) (o := .lst ([v1, v2] ++ [.ref hf, .ref u9] ++ [.ref u7]))
        have l19 : ([v1, v2] ++ [.ref hf, .ref u9] ++ [.ref u7] : List V).length = 5 := rfl
        revert Q19 P19 T19 R19 e19 l19
        generalize ([q1, q2, (hx, hy), (hx, hu)] ++ [(hx - Rat.divInt 1 (10 ^ 7), hy)] : List R2) = qs
        generalize ([v1, v2] ++ [.ref hf, .ref u9] ++ [.ref u7] : List V) = wq
        generalize upd (upd H16 u7 (.tup [.ref g7, .ref h2])) L2 (.lst wq) = H19
        intro Q19 P19 T19 R19 e19 l19
        clear Q18 eL2 sw plw S18 s18 s17 s16 lg7 hu7 ht7 P15 R15 T15 plh plu su eh lh1 lh2 pl1 pl2 sh
        obtain ⟨wq', eq', aq, lq⟩ := Q19.sq
        rw [e19] at eq'
        cases eq'
        have sq := Q19.sm
        obtain ⟨ws, ew, aw, lw⟩ := R19.sq
        have sr := R19.sm
        clear Q19 R19 neL ncL lq m1 sm1 sm2
        refine st_forL (val_var rfl) (SqL.of e19) (fun i σ H => (∃ z5 z10 z11 z12 z13 z14 z15 z16, σ = [some (.ref a), some (.ref p), some (.int (n : Int)), some (.ref l2), z4, z5, some (.ref L2), some (.ref xa), some (.ref ya), some (.ref hf), z10, z11, z12, z13, z14, z15, z16, z17, z18, z19]) ∧ PenAt H p c (2000 * n + 40 + 200 * i) ∧ LamX.Tabs Tb H ∧ H L2 = some (.lst wq) ∧ All2 (PlL H) wq qs ∧ H l2 = some (.lst ws) ∧ All2 (PlL H) ws ps2)
          ⟨⟨_, _, _, _, _, _, _, _, rfl⟩, P19, T19, e19, aq, ew, aw⟩ (fun i σ H _ z => SqL.of z.2.2.2.1) (fun i x σ H hx z => ?_) (fun σ H z => ?_)
        · clear P19 T19 e19 aq ew aw
          obtain ⟨⟨z5, z10, z11, z12, z13, z14, z15, z16, rfl⟩, P20, T20, e20, aq, ew, aw⟩ := z
          have hi : i < 5 := by
            have := (List.getElem?_eq_some_iff.mp hx).1
            omega
          obtain ⟨q5, eq5, pl5⟩ := aq.get hx
          have s5 := sq q5 (get_mem eq5)
          refine g_name (q_asg (l_lcBT (itR_bu (at2 ps2)) (itR_off (at2 ps2)) (k := 6) P20 (val_var rfl) (SqL.of ew) (by omega) (fun D j y H21 ey b21 P21 nD eD => ?_) (fun D ys H21 b21 P21 nD eD run ly => ?_)))
          · obtain ⟨q6, eq6, pl6⟩ := aw.get ey
            have s6 := sr q6 (get_mem eq6)
            have f6 := Sm2.fin (s6.mono (by decide))
            have hj : j < ws.length := (List.getElem?_eq_some_iff.mp ey).1
            obtain ⟨A, u, v, rfl, eA, lu, lv⟩ := pl6.but P20 b21
            have e6 : at2 ps2 j = q6 := by unfold at2; rw [eq6]; rfl
            refine ⟨A, _, _, rfl, SqT.of eA, rfl, fun Q kq => ?_⟩
            refine l_two (c_passed (va_cons (val_var rfl) (va_cons (val_var rfl) va_nil)) P21 (by omega) lu f6.1 fun v1 H22 b22 P22 r22 fr22 => c_passed (va_cons (val_var rfl) (va_cons (val_var rfl) va_nil)) P22 (by omega) (b22.lo P21 lv) f6.2 fun v2 H23 b23 P23 r23 fr23 => ⟨by show 2 ≤ sizeLine; decide, fun t ht => ?_⟩)
            have s24 := Same.new' (o := .lst [v1, v2]) ht
            obtain ⟨yD, eD⟩ := eD
            obtain ⟨kvs, hd⟩ := P21.dk
            obtain ⟨kvs2, hd2⟩ := P22.dk
            have eD2 := b22 _ _ eD (ne_of eD hd (by intro z; cases z))
            have eD3 := b23 _ _ eD2 (ne_of eD2 hd2 (by intro z; cases z))
            refine kq _ _ ((b22.trans b23).trans (But.of s24)) ((P23.same s24).le (by omega)) ⟨t, v1, v2, rfl, fun z => (by rw [z] at ht; rw [ht] at eD3; cases eD3), upd_same, ⟨by rw [e6]; exact (r22.but P22 b23).same s24, fun z => (by have := fr22 D z; rw [this] at eD; cases eD)⟩, ⟨by rw [e6]; exact r23.same s24, fun z => (by have := fr23 D z; rw [this] at eD2; cases eD2)⟩⟩
          · have al21 : All2 (PlR H21) ys ps2 := itR_all run (by rw [ly, lw])
            have lys : ∀ v ∈ ys, ∃ t xs, v = V.ref t ∧ H21 t = some (.lst xs) := fun v hv => by
              obtain ⟨k, ek⟩ := List.getElem?_of_mem hv
              obtain ⟨t, x, y, rfl, _, h, _⟩ := run.get ek
              exact ⟨t, _, rfl, h⟩
            obtain ⟨ds, nds, lds, dd⟩ := itR_dd (K := K) al21 lys P21
            have T21 := Tabs.but T20 P20 b21
            have cells : ∀ {H H' : Hp} {m : Nat} {l : Addr} {xs : List V}, PenAt H p c m → But p H H' → H l = some (.lst xs) → H' l = some (.lst xs) := fun P b e => by
              obtain ⟨kvs, hd⟩ := P.dk
              exact b _ _ e (ne_of e hd (by intro z; cases z))
            have e21 := cells P20 b21 e20
            have ew21 := cells P20 b21 ew
            have aq21 := aq.imp fun v q (r : PlL _ v q) => r.but P20 b21
            have aw21 := aw.imp fun v q (r : PlL _ v q) => r.but P20 b21
            have pl21 := pl5.but P20 b21
            clear b21 P20 T20 e20 aq ew aw run lys pl5
            have P21 := P21.le (show _ ≤ 2000 * n + 40 + 200 * i + 108 by omega)
            obtain ⟨A5, x5, y5, rfl, eA5, lx5, ly5⟩ := pl21
            have ff := Sm2.fin s5
            refine q_par (ta_two (l_two (c_passed (va_cons (val_var rfl) (va_cons (v_pl (val_var rfl) eA5).1 va_nil)) P21 (by omega) lx5 ff.1 fun u1 H22 b22 P22 r22 fr22 => (v_pl (val_var rfl) (by
              obtain ⟨kvs, hd⟩ := P21.dk
              exact b22 _ _ eA5 (ne_of eA5 hd (by intro z; cases z)))).2 _ ⟨by show 2 ≤ sizeLine; decide, fun th hth => ?_⟩)))
            have s23 := Same.new' (o := .lst [u1, .ref y5]) hth
            have B23 := b22.trans (But.of s23)
            have P23 := P22.same s23
            have nd := (nc_list nds).mono (C := 64000) (l := 4) (by omega) (by decide)
            have eD23 := cells P21 B23 eD
            refine (v_show (val_var rfl) (.lst (SqL.of eD23) (dd _ B23)) nd.1 (Nat.le_trans nd.2.2.2 (by decide)) (Nat.le_trans nd.2.1 (by decide))) _ ⟨_, _, rfl, ?_⟩
            have T23 := Tabs.but T21 P21 B23
            have r23 := r22.same s23
            have ly23 := (b22.lo P21 ly5).same s23
            have eth := upd_same (H := H22) (a := th) (o := .lst [u1, .ref y5])
            revert P23 eD23 T23 r23 ly23 eth B23
            generalize upd H22 th (.lst [u1, .ref y5]) = H23
            intro B23 P23 eD23 T23 r23 ly23 eth
            clear s23 hth fr22 r22 P22 b22
            -- both tell the same
            refine q_asg (call_1 (call_1 ((val_var rfl) _ (va_1 (l_two ((val_var rfl) _ (cb_one ((val_var rfl) _ ⟨D, ys, rfl, .inl ⟨SqL.of eD23, fun t1 ht1 => ⟨by show 2 ≤ sizeLine; decide, fun m1 hm1 => ?_⟩⟩⟩))))))))
            have s24 := Same.new' (o := .tup ys) ht1
            have s25 := Same.new' (o := .lst [.ref D, .ref t1]) hm1
            have S25 := s24.trans s25
            have et1 := s25 _ _ (upd_same (H := H23) (a := t1) (o := .tup ys))
            refine ⟨p, c, m1, _, _, rfl, P23.same S25, by omega, SqL.of upd_same, by show 0 < 2; decide, by show 2 < 1000000000; decide, fun w1 H26 hw1 b26 P26 => ?_⟩
            have B26 := (But.of S25).trans b26
            refine va_1 (call_1 ((val_var rfl) _ (va_1 (l_two ((val_var rfl) _ (cb_one ((val_var rfl) _ ⟨th, _, rfl, .inl ⟨SqL.of (cells P23 B26 eth), fun t2 ht2 => ⟨by show 2 ≤ sizeLine; decide, fun m2 hm2 => ?_⟩⟩⟩)))))))
            have s27 := Same.new' (o := .tup [u1, .ref y5]) ht2
            have s28 := Same.new' (o := .lst [.ref th, .ref t2]) hm2
            have S28 := s27.trans s28
            have et2 := s28 _ _ (upd_same (H := H26) (a := t2) (o := .tup [u1, .ref y5]))
            refine ⟨p, c, m2, _, _, rfl, P26.same S28, by omega, SqL.of upd_same, by show 0 < 2; decide, by show 2 < 1000000000; decide, fun w2 H29 hw2 b29 P29 => ?_⟩
            have B2 := (But.of S28).trans b29
            have B29 := B26.trans B2
            obtain ⟨a1, rfl, sq1⟩ : ∃ a1, w1 = .ref a1 ∧ Sq H29 a1 ys := by
              simp only [List.mem_cons, List.not_mem_nil, or_false] at hw1
              rcases hw1 with rfl | rfl
              · exact ⟨D, rfl, .inl (cells P23 B29 eD23)⟩
              · obtain ⟨kvs, hd⟩ := (P23.same S25).dk
                have e := b26 _ _ et1 (ne_of et1 hd (by intro z; cases z))
                obtain ⟨kvs2, hd2⟩ := P26.dk
                exact ⟨t1, rfl, .inr (B2 _ _ e (ne_of e hd2 (by intro z; cases z)))⟩
            have plw : PlR H29 w2 q5 := by
              have r29 := r23.but P23 B29
              have l29 := (B29.lo P23 ly23).rq s5.2 (by decide)
              simp only [List.mem_cons, List.not_mem_nil, or_false] at hw2
              rcases hw2 with rfl | rfl
              · exact ⟨th, _, _, rfl, .inl (cells P23 B29 eth), r29, l29⟩
              · obtain ⟨kvs, hd⟩ := (P26.same S28).dk
                exact ⟨t2, _, _, rfl, .inr (b29 _ _ et2 (ne_of et2 hd (by intro z; cases z))), r29, l29⟩
            have B := B23.trans B29
            have al29 := al21.imp fun v q (r : PlR _ v q) => r.but P21 B
            have smA : ∀ q ∈ q5 :: ps2, Sm 40 q.1 ∧ Sm 40 q.2 := fun q hq => by
              rcases List.mem_cons.mp hq with rfl | h
              · exact s5
              · exact Sm2.mono (sr q h) (by decide)
            refine ⟨.ref a1, w2, rfl, .inr ⟨a1, ys, ps2, rfl, sq1, al29, by omega, by omega, .inr (.inr ⟨cy2.cl, q5, 40, plw, by omega, smA, fun Dx Dy H30 dx0 dy0 dv s30 => ?_⟩)⟩⟩
            rw [wind_law dx0 dy0 dv]
            have B30 := B.trans (But.of s30)
            refine q_asg (c_call (va_cons (val_var rfl) (va_cons (val_var rfl) va_nil)) ⟨l2, ws, ps2, .ref A5, q5, 40, rfl, cells P21 B30 ew21, aw21.imp fun v q r => r.but P21 B30, by omega, by omega, PlL.but ⟨A5, x5, y5, rfl, eA5, lx5, ly5⟩ P21 B30, smA, by decide, fun H31 s31 => ?_⟩)
            have B31 := B30.trans (But.of s31)
            have P31 := ((P29.same s30).same s31).le (show _ ≤ 2000 * n + 40 + 200 * (i + 1) by omega)
            generalize ((lawS q5 (sidesR ps2) 0).map fun z => z / 4) = o
            refine st_ifOr3 (t_op ((val_var rfl) _ ((val_var rfl) _ (ne_sameV (wv_scal _) ⟨false, rfl, iteF ?_⟩))))
            refine t_op ((v_show (val_var rfl) (.lst (SqL.of (cells P21 B31 eD)) (dd _ B31)) nd.1 (Nat.le_trans nd.2.2.2 (by decide)) (Nat.le_trans nd.2.1 (by decide))) _ ((val_var rfl) _ (ne_same ⟨false, rfl, iteF ?_⟩)))
            have fin : (∃ g5 g10 g11 g12 g13 g14 g15 g16, ([some (.ref a), some (.ref p), some (.int (n : Int)), some (.ref l2), z4, some (.ref A5), some (.ref L2), some (.ref xa), some (.ref ya), some (.ref hf), some (.ref D), z11, z12, some (.ref th), some (.str (PyData.list ds).shown), some (wv o), some (wv o), z17, z18, z19] : List (Option V)) = [some (.ref a), some (.ref p), some (.int (n : Int)), some (.ref l2), z4, g5, some (.ref L2), some (.ref xa), some (.ref ya), some (.ref hf), g10, g11, g12, g13, g14, g15, g16, z17, z18, z19]) ∧ PenAt H31 p c (2000 * n + 40 + 200 * (i + 1)) ∧ LamX.Tabs Tb H31 ∧ H31 L2 = some (.lst wq) ∧ All2 (PlL H31) wq qs ∧ H31 l2 = some (.lst ws) ∧ All2 (PlL H31) ws ps2 :=
              ⟨⟨_, _, _, _, _, _, _, _, rfl⟩, P31, Tabs.but T21 P21 B31, cells P21 B31 e21, aq21.imp fun v q r => r.but P21 B31, cells P21 B31 ew21, aw21.imp fun v q r => r.but P21 B31⟩
            cases o with
            | none => exact and_in' (t_op ((val_var rfl) _ (val_c _ ⟨rfl, false, rfl, iteF (iteF fin)⟩)))
            | some z => exact and_in' (t_op ((val_var rfl) _ (val_c _ ⟨rfl, true, rfl, iteT (not_in (tb_in (c_call (va_cons (val_var rfl) va_nil) ⟨z, rfl, true, rfl, iteF fin⟩)))⟩)))
        · obtain ⟨⟨z5, z10, z11, z12, z13, z14, z15, z16, rfl⟩, P20, T20, _⟩ := z
          exact ⟨⟨_, _, _, _, _, _, _, _, _, _, _, _, _, _, _, _, _, _, rfl⟩, P20.le (by rw [l19]; omega), T20⟩
      · obtain ⟨vs, ev, al, lv⟩ := R3.sq
        have dfl : ∀ K' : L2.St → Hp → Prop, (∀ σ' H', (∃ l' z4 z5 ps, σ' = [some (.ref a), some (.ref p), some (.int (n : Int)), some (.ref l'), z4, z5, z6, z7, z8, z9, z10, z11, z12, z13, z14, z15, z16, z17, z18, z19] ∧ PenAt H' p c (2000 * n + 28) ∧ LamX.Tabs Tb H' ∧ Pls 3 H' l' ps ∧ Cy ps ∧ 2 ≤ ps.length ∧ ps.length ≤ 9) → K' σ' H') → (tLst (tCons (tTup (tCons (tTup (tCons (tUn (rU fun i => .int (-i)) (tC (.int 1))) (tCons (tC (.int 1)) tNil))) (tCons (tTup (tCons (tC (.int 0)) (tCons (tC (.int 1)) tNil))) tNil))) (tCons (tTup (tCons (tTup (tCons (tC (.int 2)) (tCons (tC (.int 1)) tNil))) (tCons (tTup (tCons (tUn (rU fun i => .int (-i)) (tC (.int 1))) (tCons (tC (.int 1)) tNil))) tNil))) (tCons (tTup (tCons (tTup (tCons (tC (.int 0)) (tCons (tC (.int 1)) tNil))) (tCons (tTup (tCons (tC (.int 3)) (tCons (tC (.int 1)) tNil))) tNil))) tNil)))) [some (.ref a), some (.ref p), some (.int (n : Int)), some (.ref l), z4, z5, z6, z7, z8, z9, z10, z11, z12, z13, z14, z15, z16, z17, z18, z19] H (fun v H1 => K' (([some (.ref a), some (.ref p), some (.int (n : Int)), some (.ref l), z4, z5, z6, z7, z8, z9, z10, z11, z12, z13, z14, z15, z16, z17, z18, z19] : L2.St).set 3 (some v)) H1) := fun K' rest => l_s (va_x (l_pl (i := -1) (j := 0) (fun _ => v_neg val_c) (fun _ => val_c) fun y1 H1 s1 k1 => va_x (l_pl (i := 2) (j := -1) (fun _ => val_c) (fun _ => v_neg val_c) fun y2 H2 s2 k2 => va_1 (l_pl (i := 0) (j := 3) (fun _ => val_c) (fun _ => val_c) fun y3 H3 s3 k3 => ⟨by show 3 ≤ sizeLine; decide, fun q hq => by
            have s4 := Same.new' (o := .lst [.ref y1, .ref y2, .ref y3]) hq
            have S4 := ((s1.trans s2).trans s3).trans s4
            exact rest _ _ ⟨q, _, _, dflt, rfl, P3.same S4, Tabs.same T3 S4, ⟨⟨_, upd_same, .cons (((k1.same s2).same s3).same s4) (.cons ((k2.same s3).same s4) (.cons (k3.same s4) .nil))⟩, dflt_sm⟩, dflt_cy, by decide, by decide⟩⟩))))
        refine t_op ((v_len (val_var rfl) (.inl (SqL.of ev))) _ (val_c _ ⟨_, _, rfl, rfl, _, rfl, ?_⟩))
        by_cases c2 : (vs.length : Int) < 2
        · rw [if_pos (decide_eq_true c2), if_pos rfl]
          exact s_asg1 (dfl _ rest)
        · rw [if_neg (by rw [decide_eq_false c2]; decide)]
          have l0 : 0 < ps.length := by omega
          have hx : vs[vs.length - 1]? = some vs[vs.length - 1] := List.getElem?_eq_getElem _
          have h0 : vs[0]? = some vs[0] := List.getElem?_eq_getElem (by omega)
          obtain ⟨y, hy, ply⟩ := al.get hx
          obtain ⟨y0, hy0, ply0⟩ := al.get h0
          refine t_op ((v_ixL (n := 0) (val_var rfl) val_c (SqL.of ev) h0) _ (op_in ((val_var rfl) _ ((v_neg val_c) _ ⟨l, vs, -1, _, rfl, rfl, SqL.of ev, atI_m1 hx, ⟨_, _, pl_dp ply0, pl_dp ply, pl_shaped _, pl_shaped _, _, rfl, ?_⟩⟩))))
          rw [pl_eqv]
          by_cases eq : y0 = y
          · rw [if_pos (decide_eq_true eq)]
            exact s_asg1 (dfl _ rest)
          · rw [if_neg (by rw [decide_eq_false eq]; decide)]
            exact rest _ _ ⟨l, z4, z5, ps, rfl, P3, T3, R3, Cy.of lin (fun x y' hx' hy' => by
              rw [hy0] at hx'
              rw [← lv, hy] at hy'
              cases hx'
              cases hy'
              exact eq), by omega, len⟩
  · obtain ⟨⟨z2, z3, z4, z5, z6, z7, z8, z9, z10, z11, z12, z13, z14, z15, z16, z17, z18, z19, rfl⟩, P1, T1⟩ := z
    clear P0 T0 s0 hT hS
    have hm : 2000 * 3 + 10 < most := by
      have : most = 1000000000 := rfl
      omega
    obtain ⟨kvs, hd⟩ := P1.dk
    refine q_asg (l_s ((vr_cons st_plr (ep_two (i := 0) (j := 0) (by decide) (by decide)) (vr_cons st_plr (ep_two (i := 1) (j := 0) (by decide) (by decide)) (vr_cons st_plr (ep_two (i := 0) (j := 1) (by decide) (by decide)) vr_nil))) _ _ _ _ (hole_in p H) fun gs H1 F1 r1 alG => ⟨?_, fun g hg => ?_⟩))
    · have l := alG.len
      exact Nat.le_trans (show gs.length ≤ 100 by rw [l]; show 3 ≤ 100; decide) (by decide)
    have lg : gs.length = 3 := alG.len
    have r2 := Fr.lst (xs := gs) r1.i hg
    have r12 := r1.trans r2
    have eg : (upd F1 g (.lst gs)) g = some (.lst gs) := upd_same
    have alG := alG.imp fun _ _ r => PlR.sames r r2.f
    have P2 := P1.same r12.h
    have T2 := Tabs.same T1 r12.h
    clear r1 r2
    revert r12 eg alG P2 T2
    generalize upd H1 g (.lst gs) = H2
    generalize upd F1 g (.lst gs) = F2
    intro r12 eg alG P2 T2
    refine q_asg (call_1 ((val_var rfl) _ (va_1 (l_s (vo_odds _ _ _ _ r12.i fun os H3 F3 r3 oo lo => ⟨Nat.le_trans (show os.length ≤ 100 by omega) (by decide), fun m hm1 => ?_⟩)))))
    have s4 := Same.new' (o := .lst os) hm1
    refine ⟨p, c, m, os, _, rfl, (P2.same r3.h).same s4, by omega, SqL.of upd_same, by omega, by omega, fun v H5 hv b5 P5 => ?_⟩
    have r13 := r12.trans r3
    have i5 := same_bare (r13.t (hole_no p H)) (fr_but (r3.i.trans s4) (r13.n p _ hd (hole_at p H)) b5)
    have T5 := Tabs.but (Tabs.same T2 (r3.h.trans s4)) ((P2.same r3.h).same s4) b5
    have o5 := (oo v hv).same i5
    have alG5 := alG.imp fun _ _ r => PlR.sames r (r3.f.trans i5)
    have eg5 := i5 _ _ (r3.f _ _ eg)
    have P5b := P5.bare
    clear P2 T2 alG eg r12 r3 r13 i5 oo hv b5 s4 hm1 P1 T1 hd
    refine t_unless (fault_row (bare_no H5) (bare_in H5) T5 (i := 18) rfl o5.2 (fun H6 E Q1 s6 bw => ?_) (fun H6 s6 T6 => ⟨false, rfl, iteF ?_⟩))
    · refine c_call (va_cons (val_var rfl) (va_cons val_c va_nil)) ⟨v, .non, rfl, ?_⟩
      rcases o5.1 with nc | eqn
      · exact .inl ⟨nc.same s6, bw⟩
      · obtain ⟨a1, xs, ps, e, sq, al, l1, l2, z⟩ := eqn.same s6
        exact .inr ⟨a1, xs, ps, e, sq, al, l1, l2, .inl ⟨z, bw⟩⟩
    have P6 := P5b.same s6
    have alG6 := alG5.imp fun _ _ r => PlR.sames r s6
    have eg6 := s6 _ _ eg5
    clear P5b alG5 eg5 s6 o5 T5 P5
    obtain ⟨kvs, hd⟩ := P6.dk
    refine q_asg (call_1 ((val_var rfl) _ (va_1 (l_s (vo_bads _ _ _ _ (hole_in p H6) fun os H7 F7 r7 oo lo => ⟨Nat.le_trans (show os.length ≤ 100 by omega) (by decide), fun m hm1 => ?_⟩)))))
    have s8 := Same.new' (o := .lst os) hm1
    have S8 := r7.h.trans s8
    refine ⟨p, c, m, os, _, rfl, P6.same S8, by omega, SqL.of upd_same, by omega, by omega, fun v2 H9 hv b9 P9 => ?_⟩
    have i9 := same_bare (r7.t (hole_no p H6)) (fr_but (r7.i.trans s8) (r7.n p _ hd (hole_at p H6)) b9)
    have T9 := Tabs.but (Tabs.same T6 S8) (P6.same S8) b9
    have o9 := (oo v2 hv).same i9
    have alG9 := alG6.imp fun _ _ r => (PlR.but (PlR.sames r S8) (P6.same S8) b9).bare
    have eg9 : bareH H9 g = some (.lst gs) := bare_at (by
      obtain ⟨kvs2, hd2⟩ := (P6.same S8).dk
      exact b9 _ _ (S8 _ _ eg6) (ne_of (S8 _ _ eg6) hd2 (by intro z; cases z))) (fun _ z => by cases z)
    clear P6 alG6 eg6 hd oo hv i9 b9 S8 s8 r7 hm1 P9
    refine t_unless (fault_row (bare_no H9) (bare_in H9) T9 (i := 19) rfl o9.2 (fun H6 E Q1 s6 bw => ?_) (fun H10 s10 T10 => ⟨false, rfl, iteF ?_⟩))
    · exact c_call (va_cons (val_var rfl) (va_cons (val_var rfl) va_nil)) ⟨.ref g, v2, rfl, .inr ⟨g, gs, _, rfl, .inl (s6 _ _ eg9), alG9.imp fun _ _ r => PlR.sames r s6, by omega, by omega, .inr (.inl ⟨by decide +kernel, o9.1.same s6, bw⟩)⟩⟩
    clear alG9 eg9 s10 o9 T9
    have ne : ∀ s ∈ sidesR [two 0 0, two 2 2], s.1 ≠ s.2 := by decide +kernel
    have row := vr_cons st_plr (ep_two (i := 0) (j := 0) (by decide) (by decide)) (vr_cons st_plr (ep_two (i := 2) (j := 2) (by decide) (by decide)) vr_nil)
    refine r_ret (te := tAndV _ _) (op_in (call_1 (l_s (row _ _ _ _ (L2.Same.refl H10) fun ws H11 F11 r11 al11 => ⟨Nat.le_trans (show ws.length ≤ 100 by rw [al11.len]; show 2 ≤ 100; decide) (by decide), fun l hl => ?_⟩))))
    refine va_1 (ep_two (i := 1) (j := 0) (by decide) (by decide) _ _ _ _ (L2.Same.refl _) fun u H12 F12 r12 pu => ⟨.ref l, u, rfl, .inr ⟨l, ws, _, rfl, .inl (r12.h _ _ upd_same), al11.imp fun _ _ r => PlR.sames r ((r11.i.trans (Same.new' hl)).trans r12.h), by rw [al11.len]; show 2 ≤ 2; decide, by rw [al11.len]; show 2 ≤ 60; decide, .inr (.inr ⟨ne, two 1 0, 3, pu.sames r12.i, by show 3 * (2 + 1) + 3 ≤ 900; decide, ?_, fun Dx Dy H13 d0 d1 dv s13 => ?_⟩)⟩⟩)
    · intro q hq
      simp only [List.mem_cons, List.not_mem_nil, or_false] at hq
      rcases hq with rfl | rfl | rfl <;> exact two_sm (by decide) (by decide)
    rw [wind_law d0 d1 dv, dflt2]
    refine val_c _ ⟨rfl, true, rfl, iteT ?_⟩
    clear r11 al11 hl r12 pu dv s13
    refine op_in (call_1 (l_s (row _ _ _ _ (L2.Same.refl H13) fun ws H11 F11 r11 al11 => ⟨Nat.le_trans (show ws.length ≤ 100 by rw [al11.len]; show 2 ≤ 100; decide) (by decide), fun l hl => ?_⟩)))
    refine va_1 (ep_two (i := 1) (j := 1) (by decide) (by decide) _ _ _ _ (L2.Same.refl _) fun u H12 F12 r12 pu => ⟨.ref l, u, rfl, .inr ⟨l, ws, _, rfl, .inl (r12.h _ _ upd_same), al11.imp fun _ _ r => PlR.sames r ((r11.i.trans (Same.new' hl)).trans r12.h), by rw [al11.len]; show 2 ≤ 2; decide, by rw [al11.len]; show 2 ≤ 60; decide, .inr (.inr ⟨ne, two 1 1, 3, pu.sames r12.i, by show 3 * (2 + 1) + 3 ≤ 900; decide, ?_, fun Dx Dy H13 d0 d1 dv s13 => ?_⟩)⟩⟩)
    · intro q hq
      simp only [List.mem_cons, List.not_mem_nil, or_false] at hq
      rcases hq with rfl | rfl | rfl <;> exact two_sm (by decide) (by decide)
    rw [wind_law d0 d1 dv, dflt3]
    exact val_c _ ⟨rfl, k _⟩
end
end LW

/-! The law's end where several defs of the text make lambdas, and nothing is being shown. -/
namespace GL
open PySem PySem.Spec PyProof.Rows L2
section
variable {P : Program} {w : World} {K : PySem.W.Frag} {mg mb : Str → Option Value} {k : Nat} {fa a : Addr} {ts : List (Addr × Addr)} {fd : FuncData} {x : Str} {sp : Sp} {s₁ : Shared} {vs : List Value} {ns : List Int}
/-- from one abstract heap that knows the table, and the script at most -/
theorem law_fromT (KX : K.In s₁.heap) (hns : s₁.heap.Ns mainGlobals mg) (hb : s₁.heap.Ns builtinsNs mb) (hbb : ∀ x : Str, x ≠ "__name__" → mb x = bootBuiltins x) (hlim : s₁.heap.NoLimit) (hg : s₁.gens = #[])
    (hTs : ∀ p ∈ ts, s₁.heap.get? p.2 = some { cls := .none, data := .fields #[] } ∧ K.lookup p.2 = none ∧ PySem.W.codeHdIn K p.1 p.2 = true)
    (hbm : ∃ (bm : Addr) (ob : Obj), mg "__builtins__" = some (.ref bm) ∧ bm ≠ builtinsNs ∧ s₁.heap.get? bm = some ob ∧ ob.cls = .type "module" ∧ ob.dict = some builtinsNs ∧ ob.data = .plain)
    (ha : s₁.heap.get? a = some { cls := .type "list", data := .seq vs.toArray }) (hr : Room k callerA)
    (F : ∀ base : Heap, K.In base → base.Ns mainGlobals mg → (∀ p ∈ ts, LamX.TabB base mg p.1 p.2) → OkG P w K mg base CX0 k fa fd [x] sp) (hbind : ∀ (s : Shared) (u : Value), BindsTo s fd ⟨[u], []⟩ [(x, u)])
    {H : Hp} (hH : ∀ p ∈ ts, H p.2 = some (.tbl #[])) (hO : ∀ b, b ∉ ts.map Prod.snd → H b = none ∨ ∃ o xs, H b = some (.frz o (.lst xs))) (hsp : sp [.ref a] H (fun v _ => v = .bl true) fun _ _ _ => False) (hok : HOk P w H s₁.heap) (hA : ∀ b, b ∉ ts.map Prod.snd → H b ≠ none → b = a)
    (hK : H a ≠ none → K.lookup a = none) : Law P w fa a s₁ := by
  have free : ∀ {b : Addr} {o : Obj}, s₁.heap.get? b = some o → (∀ xs m, o.data ≠ .seq xs m) → o.data ≠ .fields #[] → H b = none := fun {b o} e d1 d2 => by
    by_cases q : b ∈ ts.map Prod.snd
    · obtain ⟨p, hp, rfl⟩ := List.mem_map.mp q
      rw [(hTs p hp).1] at e
      cases e
      exact (d2 rfl).elim
    · refine Decidable.byContradiction fun z => ?_
      have q2 := hA b q z
      rw [q2, ha] at e
      cases e
      exact d1 _ _ rfl
  have kFree : ∀ {b : Addr} {o : Obj}, K.lookup b = some o → H b = none := fun {b o} e => Decidable.byContradiction fun z => by
    by_cases q : b ∈ ts.map Prod.snd
    · obtain ⟨p, hp, rfl⟩ := List.mem_map.mp q
      rw [(hTs p hp).2.1] at e
      cases e
    · have q2 := hA b q z
      subst q2
      rw [hK z] at e
      cases e
  have dict : ∀ {b : Addr} {o : Obj} {es : Array DictEntry} {ep : Nat}, s₁.heap.get? b = some o → o.data = .dict es ep → H b = none := fun {b o es ep} e d =>
    free e (fun xs m z => by rw [d] at z; cases z) (fun z => by rw [d] at z; cases z)
  have names : ∀ {b : Addr} {m : Str → Option Value}, s₁.heap.Ns b m → (hidT s₁.heap H).Ns b m := fun {b m} z => by
    obtain ⟨o, es, ep, e, d, r⟩ := z
    exact ⟨o, es, ep, hidT_get e (dict e d), d, r⟩
  have kIn' : K.In (hidT s₁.heap H) := fun b o e => hidT_get (KX b o e) (kFree e)
  have TB : ∀ p ∈ ts, LamX.TabB (hidT s₁.heap H) mg p.1 p.2 := fun p hp => by
    obtain ⟨hTab, nTab, hCd⟩ := hTs p hp
    have gP : mainGlobals ≠ p.2 := fun z => by
      obtain ⟨o, es, ep, e, d, _⟩ := hns
      rw [z, hTab] at e
      cases e
      cases d
    refine ⟨PySem.W.codeHd_of_K kIn' hCd, ?_, gP⟩
    obtain ⟨bm, ob, q1, q2, q3, q4, q5, q6⟩ := hbm
    have nG : bm ≠ mainGlobals := fun z => by
      obtain ⟨o, es, ep, e, d, _⟩ := hns
      rw [z, e] at q3
      cases q3
      rw [d] at q6
      cases q6
    have nP : bm ≠ p.2 := fun z => by
      rw [z, hTab] at q3
      cases q3
      cases q6
    exact ⟨bm, ob, q1, q2, nG, nP, hidT_get q3 (free q3 (fun xs m z => by rw [q6] at z; cases z) (fun z => by rw [q6] at z; cases z)), q4, q5, q6⟩
  obtain ⟨mc, l1, l2⟩ := hlim
  have e0 : Env0 P w K mg (hidT s₁.heap H) callerA [] s₁ H := ⟨rfl, ⟨kIn', names hns, ⟨mb, names hb, hbb⟩, ⟨mc, names l1, l2⟩⟩, fun b o e => of_hidT e, Nat.le_of_eq (hidT_size _ _), trivial, (fun b z => nomatch z), hok, .of_eq hg⟩
  have run := (F _ kIn' (names hns) TB).run callerA [] s₁ H ⟨[.ref a], []⟩ [.ref a] [.ref a] _ _ hr rfl e0 (hbind s₁ (.ref a)) (.cons rfl .nil) hsp
  refine codeAny_mono run fun r s' z => ?_
  cases r with
  | error e => exact z.elim
  | ok fl => cases fl with
    | next => exact z.elim
    | brk => exact z.elim
    | cont => exact z.elim
    | ret u =>
      obtain ⟨v, H', os, bare, un, hok', rv, ev⟩ := z
      have ev' : v = .bl true := ev
      subst ev'
      cases (show u = Value.bool true from rv)
      have stay : ∀ b o, b ∉ ts.map Prod.snd → s₁.heap.get? b = some o → s'.heap.get? b = some o := fun b o n e => by
        rcases hO b n with q | ⟨ob, xs, q⟩
        · exact un.keep b o e q (fun z => nomatch z) (fun z => nomatch z)
        · obtain ⟨e1, _⟩ := hok b _ q
          obtain ⟨e2, _⟩ := hok' b _ (un.frzs b ob _ q)
          rw [e] at e1
          cases e1
          exact e2
      refine ⟨rfl, ⟨fun b o e => ?_, fun b o e => ?_⟩, os, bare⟩
      · by_cases n : b ∈ ts.map Prod.snd
        · obtain ⟨p, hp, rfl⟩ := List.mem_map.mp n
          obtain ⟨hTab, nTab, hCd⟩ := hTs p hp
          obtain ⟨more, hm⟩ := un.tbls p.2 #[] (hH p hp)
          have now := hok' p.2 _ hm
          rw [hTab] at e
          cases e
          exact .inr (.inl ⟨((PySem.W.codeHd_of_K KX hCd).tab hTab).isCodeTable, rfl, #[], more, rfl, now⟩)
        · exact .inl (stay b o n e)
      · by_cases n : b ∈ ts.map Prod.snd
        · obtain ⟨p, hp, rfl⟩ := List.mem_map.mp n
          obtain ⟨more, hm⟩ := un.tbls p.2 #[] (hH p hp)
          exact ⟨_, hok' p.2 _ hm⟩
        · exact ⟨o, stay b o n e⟩
theorem law_callGT (KX : K.In s₁.heap) (hns : s₁.heap.Ns mainGlobals mg) (hb : s₁.heap.Ns builtinsNs mb) (hbb : ∀ x : Str, x ≠ "__name__" → mb x = bootBuiltins x) (hlim : s₁.heap.NoLimit) (hg : s₁.gens = #[])
    (hTs : ∀ p ∈ ts, s₁.heap.get? p.2 = some { cls := .none, data := .fields #[] } ∧ K.lookup p.2 = none ∧ PySem.W.codeHdIn K p.1 p.2 = true)
    (hbm : ∃ (bm : Addr) (ob : Obj), mg "__builtins__" = some (.ref bm) ∧ bm ≠ builtinsNs ∧ s₁.heap.get? bm = some ob ∧ ob.cls = .type "module" ∧ ob.dict = some builtinsNs ∧ ob.data = .plain)
    (ha : s₁.heap.get? a = some { cls := .type "list", data := .seq vs.toArray }) (hi : IntsAre vs ns) (hl : ns.length ≤ sizeLine) (hr : Room k callerA)
    (F : ∀ base : Heap, K.In base → base.Ns mainGlobals mg → (∀ p ∈ ts, LamX.TabB base mg p.1 p.2) → OkG P w K mg base CX0 k fa fd [x] sp) (hbind : ∀ (s : Shared) (u : Value), BindsTo s fd ⟨[u], []⟩ [(x, u)])
    (hsp : ∀ H : Hp, (∀ p ∈ ts, H p.2 = some (.tbl #[])) → SqL K H a (ns.map V.int) → sp [.ref a] H (fun v _ => v = .bl true) fun _ _ _ => False) : Law P w fa a s₁ := by
  have rv := vals_ints hi
  have na : a ∉ ts.map Prod.snd := fun z => by
    obtain ⟨p, hp, e⟩ := List.mem_map.mp z
    rw [← e, (hTs p hp).1] at ha
    cases ha
  let H0 : Hp := fun b => if b ∈ ts.map Prod.snd then some (.tbl #[]) else none
  have t0' : ∀ b, b ∈ ts.map Prod.snd → H0 b = some (.tbl #[]) := fun b z => if_pos z
  have t0 : ∀ p ∈ ts, H0 p.2 = some (.tbl #[]) := fun p hp => t0' _ (List.mem_map.mpr ⟨p, hp, rfl⟩)
  have o0 : ∀ b, b ∉ ts.map Prod.snd → H0 b = none := fun b z => if_neg z
  cases hk : K.lookup a with
  | some o =>
    have e := KX a o hk
    rw [ha] at e
    cases e
    have hS : SqL K H0 a (ns.map V.int) := .inr ⟨_, vs.toArray, _, hk, rfl, rfl, rfl, by rw [List.size_toArray, hi.length]; exact hl, by simpa using rv⟩
    refine law_fromT KX hns hb hbb hlim hg hTs hbm ha hr F hbind t0 (fun b n => .inl (o0 b n)) (hsp H0 t0 hS) (fun b u z => ?_) (fun b n z => (z (o0 b n)).elim) (fun z => (z (o0 a na)).elim)
    by_cases q : b ∈ ts.map Prod.snd
    · rw [t0' b q] at z
      cases z
      obtain ⟨p, hp, rfl⟩ := List.mem_map.mp q
      exact (hTs p hp).1
    · rw [o0 b q] at z
      cases z
  | none =>
    let H1 : Hp := upd H0 a (.frz { cls := .type "list", data := .seq vs.toArray } (.lst (ns.map V.int)))
    have a1 : H1 a = some (.frz { cls := .type "list", data := .seq vs.toArray } (.lst (ns.map V.int))) := upd_same
    have t1' : ∀ b, b ∈ ts.map Prod.snd → H1 b = some (.tbl #[]) := fun b z => (upd_ne (fun e => na (by rw [← e]; exact z))).trans (t0' b z)
    have t1 : ∀ p ∈ ts, H1 p.2 = some (.tbl #[]) := fun p hp => t1' _ (List.mem_map.mpr ⟨p, hp, rfl⟩)
    have o1 : ∀ b, b ∉ ts.map Prod.snd → b ≠ a → H1 b = none := fun b z y => (upd_ne y).trans (o0 b z)
    refine law_fromT KX hns hb hbb hlim hg hTs hbm ha hr F hbind t1 (fun b n => ?_) (hsp H1 t1 (.inl (.inr ⟨_, a1⟩))) (fun b u z => ?_) (fun b n z => Decidable.byContradiction fun q => z (o1 b n q)) (fun _ => hk)
    · by_cases q : b = a
      · rw [q]
        exact .inr ⟨_, _, a1⟩
      · exact .inl (o1 b n q)
    · by_cases q : b = a
      · subst q
        rw [a1] at z
        cases z
        exact ⟨ha, by rw [List.length_map]; exact hl, vs, _, rv, ha⟩
      · by_cases q2 : b ∈ ts.map Prod.snd
        · rw [t1' b q2] at z
          cases z
          obtain ⟨p, hp, rfl⟩ := List.mem_map.mp q2
          exact (hTs p hp).1
        · rw [o1 b q2 q] at z
          cases z
end
/-- what is known of the law's def -/
def LawT (P : Program) (w : World) (K : PySem.W.Frag) (k n : Nat) (x : Str) (mg : Str → Option Value) (fa : Addr) (h : Heap) : Prop :=
  ∃ (fd : FuncData) (ts : List (Addr × Addr)) (sp : Sp), (∀ p ∈ ts, h.get? p.2 = some { cls := .none, data := .fields #[] } ∧ K.lookup p.2 = none ∧ PySem.W.codeHdIn K p.1 p.2 = true) ∧ (∀ (s : Shared) (u : Value), BindsTo s fd ⟨[u], []⟩ [(x, u)]) ∧
    (∀ (H : Hp) (a : Addr) (ns : List Int), ns.length ≤ n → (∀ p ∈ ts, H p.2 = some (.tbl #[])) → SqL K H a (ns.map V.int) → sp [.ref a] H (fun v _ => v = .bl true) fun _ _ _ => False) ∧
    ∀ base : Heap, K.In base → base.Ns mainGlobals mg → (∀ p ∈ ts, LamX.TabB base mg p.1 p.2) → OkG P w K mg base CX0 k fa fd [x] sp
theorem walk_GT {l : PySem.W.OpenLaw} {n k : Nat} {q : Program} {loose : List Str} {XP : (Str → Option Value) → Heap → Prop} {YP : World → Heap → Prop} {d : DefRec} {K : Params → PySem.W.Frag} {x : Str}
    (hn : l.most = some n) (hn2 : n ≤ sizeLine) (hdf : d.params.defaults = []) (hr : Room k callerA) (hY : ∀ (w : World) (h : Heap), YP w h → (K w.params).In h)
    (F : ∀ (w : World) (mg : Str → Option Value) (fa : Addr) (h : Heap), YP w h → (K w.params).In h → h.Ns mainGlobals mg → mg d.name = some (.ref fa) → LawT l.prog w (K w.params) k n x mg fa h) :
    PySem.W.WalkO q loose XP YP l.row.toRowW d [] (fun f vs => PySem.call f vs) := by
  refine Att.attach_call hn hdf fun w s₀ s₁ mg mb fa o pm cd doc a vs ns G Y ho hd hcd hmg hobj hints hlen hg => ?_
  have KX := hY w _ Y
  obtain ⟨fd, ts, sp, hT, hbi, hsp, hF⟩ := F w mg fa _ Y KX G.T.g hmg
  exact law_callGT KX G.T.g G.T.b G.T.builtins G.T.nolimit hg hT G.T.bmain hobj hints (Nat.le_trans hlen hn2) hr hF hbi fun H hH hS => hsp H a ns hlen hH hS
end GL

namespace LW
open PySem PySem.Spec PyProof.Rows L2 GL
theorem fin_law {P : Program} {w : World} {K : PySem.W.Frag} {mg : Str → Option Value} {h : Heap} {cC cP : Addr} (T : Txt K mg) (h1 : (fDat K (fA mg "law")).code = .ref cC)
    (tc : h.get? cP = some { cls := .none, data := .fields #[] }) (nc : K.lookup cP = none) (kc : PySem.W.codeHdIn K cC cP = true) :
    GL.LawT P w K 17 63 "_law_script" mg (fA mg "law") h := by
  let Tb : List (Addr × Str) := [(cP, (("law" : Str) ++ (".<locals>." : Str)) ++ ("<lambda>" : Str))]
  refine ⟨_, [(cC, cP)], spLaw (K := K) Tb, fun p hp => ?_, T.lb, fun H a ns hl hH hS => ⟨a, ns, rfl, hS, hl, fun p hp => ?_, fun _ => rfl⟩, fun base _ _ TB => ?_⟩
  · rw [List.mem_singleton.mp hp]
    exact ⟨tc, nc, kc⟩
  · rw [List.mem_singleton.mp hp]
    exact LamX.TabS.nil (hH (cC, cP) (List.mem_cons_self ..))
  · refine ok_law (Tb := Tb) T (TB (cC, cP) (List.mem_cons_self ..)) h1 (List.mem_cons_self ..) (fun p hp e => ?_)
    rw [List.mem_singleton.mp hp]
end LW

namespace LW
open PySem PySem.Spec PyProof.Rows L2 GL
theorem facts {K : PySem.W.Frag} {h : Heap} {mg : Str → Option Value} {Z : Prop} (X : K.In h) (G : h.Ns mainGlobals mg)
    {f_is_ratio : Addr} {od_is_ratio an_is_ratio : Option Addr} {sl_is_ratio : Array (Option Value)} {oc_is_ratio kV_is_ratio dc_is_ratio pm_is_ratio cd_is_ratio ct_is_ratio : Value} {f_told : Addr} {od_told an_told : Option Addr} {sl_told : Array (Option Value)} {oc_told kV_told dc_told pm_told cd_told ct_told : Value} {f_is_integer : Addr} {od_is_integer an_is_integer : Option Addr} {sl_is_integer : Array (Option Value)} {oc_is_integer kV_is_integer dc_is_integer pm_is_integer cd_is_integer ct_is_integer : Value} {f_parts : Addr} {od_parts an_parts : Option Addr} {sl_parts : Array (Option Value)} {oc_parts kV_parts dc_parts pm_parts cd_parts ct_parts : Value} {f_lowest : Addr} {od_lowest an_lowest : Option Addr} {sl_lowest : Array (Option Value)} {oc_lowest kV_lowest dc_lowest pm_lowest cd_lowest ct_lowest : Value} {f_is_row : Addr} {od_is_row an_is_row : Option Addr} {sl_is_row : Array (Option Value)} {oc_is_row kV_is_row dc_is_row pm_is_row cd_is_row ct_is_row : Value} {f_is_row_of : Addr} {od_is_row_of an_is_row_of : Option Addr} {sl_is_row_of : Array (Option Value)} {oc_is_row_of kV_is_row_of dc_is_row_of pm_is_row_of cd_is_row_of ct_is_row_of : Value} {f_is_place : Addr} {od_is_place an_is_place : Option Addr} {sl_is_place : Array (Option Value)} {oc_is_place kV_is_place dc_is_place pm_is_place cd_is_place ct_is_place : Value} {f_pair_of : Addr} {od_pair_of an_pair_of : Option Addr} {sl_pair_of : Array (Option Value)} {oc_pair_of kV_pair_of dc_pair_of pm_pair_of cd_pair_of ct_pair_of : Value} {f_place_of : Addr} {od_place_of an_place_of : Option Addr} {sl_place_of : Array (Option Value)} {oc_place_of kV_place_of dc_place_of pm_place_of cd_place_of ct_place_of : Value} {f_bottom_of : Addr} {od_bottom_of an_bottom_of : Option Addr} {sl_bottom_of : Array (Option Value)} {oc_bottom_of kV_bottom_of dc_bottom_of pm_bottom_of cd_bottom_of ct_bottom_of : Value} {f_whole_row : Addr} {od_whole_row an_whole_row : Option Addr} {sl_whole_row : Array (Option Value)} {oc_whole_row kV_whole_row dc_whole_row pm_whole_row cd_whole_row ct_whole_row : Value} {f_closed_row_of : Addr} {od_closed_row_of an_closed_row_of : Option Addr} {sl_closed_row_of : Array (Option Value)} {oc_closed_row_of kV_closed_row_of dc_closed_row_of pm_closed_row_of cd_closed_row_of ct_closed_row_of : Value} {f_grid_of : Addr} {od_grid_of an_grid_of : Option Addr} {sl_grid_of : Array (Option Value)} {oc_grid_of kV_grid_of dc_grid_of pm_grid_of cd_grid_of ct_grid_of : Value} {f_sides_of : Addr} {od_sides_of an_sides_of : Option Addr} {sl_sides_of : Array (Option Value)} {oc_sides_of kV_sides_of dc_sides_of pm_sides_of cd_sides_of ct_sides_of : Value} {f_winding : Addr} {od_winding an_winding : Option Addr} {sl_winding : Array (Option Value)} {oc_winding kV_winding dc_winding pm_winding cd_winding ct_winding : Value} {f_is_between : Addr} {od_is_between an_is_between : Option Addr} {sl_is_between : Array (Option Value)} {oc_is_between kV_is_between dc_is_between pm_is_between cd_is_between ct_is_between : Value} {f_law_pen : Addr} {od_law_pen an_law_pen : Option Addr} {sl_law_pen : Array (Option Value)} {oc_law_pen kV_law_pen dc_law_pen pm_law_pen cd_law_pen ct_law_pen : Value} {f_law_draw : Addr} {od_law_draw an_law_draw : Option Addr} {sl_law_draw : Array (Option Value)} {oc_law_draw kV_law_draw dc_law_draw pm_law_draw cd_law_draw ct_law_draw : Value} {f_law_pick : Addr} {od_law_pick an_law_pick : Option Addr} {sl_law_pick : Array (Option Value)} {oc_law_pick kV_law_pick dc_law_pick pm_law_pick cd_law_pick ct_law_pick : Value} {f_law_is_whole : Addr} {od_law_is_whole an_law_is_whole : Option Addr} {sl_law_is_whole : Array (Option Value)} {oc_law_is_whole kV_law_is_whole dc_law_is_whole pm_law_is_whole cd_law_is_whole ct_law_is_whole : Value} {f_law_gcd : Addr} {od_law_gcd an_law_gcd : Option Addr} {sl_law_gcd : Array (Option Value)} {oc_law_gcd kV_law_gcd dc_law_gcd pm_law_gcd cd_law_gcd ct_law_gcd : Value} {f_law_q : Addr} {od_law_q an_law_q : Option Addr} {sl_law_q : Array (Option Value)} {oc_law_q kV_law_q dc_law_q pm_law_q cd_law_q ct_law_q : Value} {f_law_plus : Addr} {od_law_plus an_law_plus : Option Addr} {sl_law_plus : Array (Option Value)} {oc_law_plus kV_law_plus dc_law_plus pm_law_plus cd_law_plus ct_law_plus : Value} {f_law_minus : Addr} {od_law_minus an_law_minus : Option Addr} {sl_law_minus : Array (Option Value)} {oc_law_minus kV_law_minus dc_law_minus pm_law_minus cd_law_minus ct_law_minus : Value} {f_law_times : Addr} {od_law_times an_law_times : Option Addr} {sl_law_times : Array (Option Value)} {oc_law_times kV_law_times dc_law_times pm_law_times cd_law_times ct_law_times : Value} {f_law_passed : Addr} {od_law_passed an_law_passed : Option Addr} {sl_law_passed : Array (Option Value)} {oc_law_passed kV_law_passed dc_law_passed pm_law_passed cd_law_passed ct_law_passed : Value} {f_law_ratio : Addr} {od_law_ratio an_law_ratio : Option Addr} {sl_law_ratio : Array (Option Value)} {oc_law_ratio kV_law_ratio dc_law_ratio pm_law_ratio cd_law_ratio ct_law_ratio : Value} {f_law_middle : Addr} {od_law_middle an_law_middle : Option Addr} {sl_law_middle : Array (Option Value)} {oc_law_middle kV_law_middle dc_law_middle pm_law_middle cd_law_middle ct_law_middle : Value} {f_law_cross : Addr} {od_law_cross an_law_cross : Option Addr} {sl_law_cross : Array (Option Value)} {oc_law_cross kV_law_cross dc_law_cross pm_law_cross cd_law_cross ct_law_cross : Value} {f_law_step : Addr} {od_law_step an_law_step : Option Addr} {sl_law_step : Array (Option Value)} {oc_law_step kV_law_step dc_law_step pm_law_step cd_law_step ct_law_step : Value} {f_law_sides : Addr} {od_law_sides an_law_sides : Option Addr} {sl_law_sides : Array (Option Value)} {oc_law_sides kV_law_sides dc_law_sides pm_law_sides cd_law_sides ct_law_sides : Value} {f_law_place : Addr} {od_law_place an_law_place : Option Addr} {sl_law_place : Array (Option Value)} {oc_law_place kV_law_place dc_law_place pm_law_place cd_law_place ct_law_place : Value} {f_law_winding_of : Addr} {od_law_winding_of an_law_winding_of : Option Addr} {sl_law_winding_of : Array (Option Value)} {oc_law_winding_of kV_law_winding_of dc_law_winding_of pm_law_winding_of cd_law_winding_of ct_law_winding_of : Value} {f_law_quarter : Addr} {od_law_quarter an_law_quarter : Option Addr} {sl_law_quarter : Array (Option Value)} {oc_law_quarter kV_law_quarter dc_law_quarter pm_law_quarter cd_law_quarter ct_law_quarter : Value} {f_law_fault : Addr} {od_law_fault an_law_fault : Option Addr} {sl_law_fault : Array (Option Value)} {oc_law_fault kV_law_fault dc_law_fault pm_law_fault cd_law_fault ct_law_fault : Value} {f_law : Addr} {od_law an_law : Option Addr} {sl_law : Array (Option Value)} {oc_law kV_law dc_law pm_law ct_law : Value} {cC_law : Addr} {C_BadNumber : Addr} {fI_BadNumber : Addr} {odI_BadNumber anI_BadNumber : Option Addr} {slI_BadNumber : Array (Option Value)} {ocI_BadNumber kVI_BadNumber dcI_BadNumber pmI_BadNumber cdI_BadNumber ctI_BadNumber : Value} {nmI_BadNumber qI_BadNumber : Str} {NI_BadNumber : Addr} {bsI_BadNumber bmI_BadNumber : List Value} {snI_BadNumber : List Str} {subI_BadNumber : List Value} {abI_BadNumber : Bool} {colI_BadNumber : Option Bool} {ddI_BadNumber : Option Addr} {m0I_BadNumber m1I_BadNumber m2I_BadNumber m3I_BadNumber m5I_BadNumber : Option Value} {C_BadRow : Addr} {fI_BadRow : Addr} {odI_BadRow anI_BadRow : Option Addr} {slI_BadRow : Array (Option Value)} {ocI_BadRow kVI_BadRow dcI_BadRow pmI_BadRow cdI_BadRow ctI_BadRow : Value} {nmI_BadRow qI_BadRow : Str} {NI_BadRow : Addr} {bsI_BadRow bmI_BadRow : List Value} {snI_BadRow : List Str} {subI_BadRow : List Value} {abI_BadRow : Bool} {colI_BadRow : Option Bool} {ddI_BadRow : Option Addr} {m0I_BadRow m1I_BadRow m2I_BadRow m3I_BadRow m5I_BadRow : Option Value} {C_Shared : Addr} {fI_Shared : Addr} {odI_Shared anI_Shared : Option Addr} {slI_Shared : Array (Option Value)} {ocI_Shared kVI_Shared dcI_Shared pmI_Shared cdI_Shared ctI_Shared : Value} {nmI_Shared qI_Shared : Str} {NI_Shared : Addr} {bsI_Shared bmI_Shared : List Value} {snI_Shared : List Str} {subI_Shared : List Value} {abI_Shared : Bool} {colI_Shared : Option Bool} {ddI_Shared : Option Addr} {m0I_Shared m1I_Shared m2I_Shared m3I_Shared m5I_Shared : Option Value} {C_NoRest : Addr} {fI_NoRest : Addr} {odI_NoRest anI_NoRest : Option Addr} {slI_NoRest : Array (Option Value)} {ocI_NoRest kVI_NoRest dcI_NoRest pmI_NoRest cdI_NoRest ctI_NoRest : Value} {nmI_NoRest qI_NoRest : Str} {NI_NoRest : Addr} {bsI_NoRest bmI_NoRest : List Value} {snI_NoRest : List Str} {subI_NoRest : List Value} {abI_NoRest : Bool} {colI_NoRest : Option Bool} {ddI_NoRest : Option Addr} {m0I_NoRest m1I_NoRest m2I_NoRest m3I_NoRest m5I_NoRest : Option Value} {C_NotRound : Addr}
    (z_int : PySem.W.nsIn K mainGlobals "int" = some none)
    (z_bool : PySem.W.nsIn K mainGlobals "bool" = some none)
    (z_list : PySem.W.nsIn K mainGlobals "list" = some none)
    (z_tuple : PySem.W.nsIn K mainGlobals "tuple" = some none)
    (z_len : PySem.W.nsIn K mainGlobals "len" = some none)
    (z_range : PySem.W.nsIn K mainGlobals "range" = some none)
    (z_isinstance : PySem.W.nsIn K mainGlobals "isinstance" = some none)
    (z_repr : PySem.W.nsIn K mainGlobals "repr" = some none)
    (z_abs : PySem.W.nsIn K mainGlobals "abs" = some none)
    (z_all : PySem.W.nsIn K mainGlobals "all" = some none)
    (z_zip : PySem.W.nsIn K mainGlobals "zip" = some none)
    (g_gcd : PySem.W.nsIn K mainGlobals "gcd" = some (some (.builtin "math.gcd")))
    (g_lcm : PySem.W.nsIn K mainGlobals "lcm" = some (some (.builtin "math.lcm")))
    (a_is_ratio : PySem.W.nsIn K mainGlobals "is_ratio" = some (some (.ref f_is_ratio)))
    (l_is_ratio : K.lookup f_is_ratio = some ⟨oc_is_ratio, od_is_ratio, .func (PySem.W.fnOf "is_ratio" "is_ratio" (defArgs sis_ratio) (defBody sis_ratio) (defScope sis_ratio) .none kV_is_ratio dc_is_ratio pm_is_ratio an_is_ratio cd_is_ratio ct_is_ratio), sl_is_ratio⟩)
    (c_is_ratio : PySem.W.codeIn K cd_is_ratio "is_ratio" = true)
    (k_is_ratio : PySem.W.keepIn K (.ref f_is_ratio) = true)
    (a_told : PySem.W.nsIn K mainGlobals "told" = some (some (.ref f_told)))
    (l_told : K.lookup f_told = some ⟨oc_told, od_told, .func (PySem.W.fnOf "told" "told" (defArgs stold) (defBody stold) (defScope stold) .none kV_told dc_told pm_told an_told cd_told ct_told), sl_told⟩)
    (c_told : PySem.W.codeIn K cd_told "told" = true)
    (k_told : PySem.W.keepIn K (.ref f_told) = true)
    (a_is_integer : PySem.W.nsIn K mainGlobals "is_integer" = some (some (.ref f_is_integer)))
    (l_is_integer : K.lookup f_is_integer = some ⟨oc_is_integer, od_is_integer, .func (PySem.W.fnOf "is_integer" "is_integer" (defArgs sis_integer) (defBody sis_integer) (defScope sis_integer) .none kV_is_integer dc_is_integer pm_is_integer an_is_integer cd_is_integer ct_is_integer), sl_is_integer⟩)
    (c_is_integer : PySem.W.codeIn K cd_is_integer "is_integer" = true)
    (k_is_integer : PySem.W.keepIn K (.ref f_is_integer) = true)
    (a_parts : PySem.W.nsIn K mainGlobals "_parts" = some (some (.ref f_parts)))
    (l_parts : K.lookup f_parts = some ⟨oc_parts, od_parts, .func (PySem.W.fnOf "_parts" "_parts" (defArgs s_parts) (defBody s_parts) (defScope s_parts) .none kV_parts dc_parts pm_parts an_parts cd_parts ct_parts), sl_parts⟩)
    (c_parts : PySem.W.codeIn K cd_parts "_parts" = true)
    (k_parts : PySem.W.keepIn K (.ref f_parts) = true)
    (a_lowest : PySem.W.nsIn K mainGlobals "_lowest" = some (some (.ref f_lowest)))
    (l_lowest : K.lookup f_lowest = some ⟨oc_lowest, od_lowest, .func (PySem.W.fnOf "_lowest" "_lowest" (defArgs s_lowest) (defBody s_lowest) (defScope s_lowest) .none kV_lowest dc_lowest pm_lowest an_lowest cd_lowest ct_lowest), sl_lowest⟩)
    (c_lowest : PySem.W.codeIn K cd_lowest "_lowest" = true)
    (k_lowest : PySem.W.keepIn K (.ref f_lowest) = true)
    (a_is_row : PySem.W.nsIn K mainGlobals "is_row" = some (some (.ref f_is_row)))
    (l_is_row : K.lookup f_is_row = some ⟨oc_is_row, od_is_row, .func (PySem.W.fnOf "is_row" "is_row" (defArgs sis_row) (defBody sis_row) (defScope sis_row) .none kV_is_row dc_is_row pm_is_row an_is_row cd_is_row ct_is_row), sl_is_row⟩)
    (c_is_row : PySem.W.codeIn K cd_is_row "is_row" = true)
    (k_is_row : PySem.W.keepIn K (.ref f_is_row) = true)
    (a_is_row_of : PySem.W.nsIn K mainGlobals "is_row_of" = some (some (.ref f_is_row_of)))
    (l_is_row_of : K.lookup f_is_row_of = some ⟨oc_is_row_of, od_is_row_of, .func (PySem.W.fnOf "is_row_of" "is_row_of" (defArgs sis_row_of) (defBody sis_row_of) (defScope sis_row_of) .none kV_is_row_of dc_is_row_of pm_is_row_of an_is_row_of cd_is_row_of ct_is_row_of), sl_is_row_of⟩)
    (c_is_row_of : PySem.W.codeIn K cd_is_row_of "is_row_of" = true)
    (k_is_row_of : PySem.W.keepIn K (.ref f_is_row_of) = true)
    (a_is_place : PySem.W.nsIn K mainGlobals "is_place" = some (some (.ref f_is_place)))
    (l_is_place : K.lookup f_is_place = some ⟨oc_is_place, od_is_place, .func (PySem.W.fnOf "is_place" "is_place" (defArgs sis_place) (defBody sis_place) (defScope sis_place) .none kV_is_place dc_is_place pm_is_place an_is_place cd_is_place ct_is_place), sl_is_place⟩)
    (c_is_place : PySem.W.codeIn K cd_is_place "is_place" = true)
    (k_is_place : PySem.W.keepIn K (.ref f_is_place) = true)
    (a_pair_of : PySem.W.nsIn K mainGlobals "pair_of" = some (some (.ref f_pair_of)))
    (l_pair_of : K.lookup f_pair_of = some ⟨oc_pair_of, od_pair_of, .func (PySem.W.fnOf "pair_of" "pair_of" (defArgs spair_of) (defBody spair_of) (defScope spair_of) .none kV_pair_of dc_pair_of pm_pair_of an_pair_of cd_pair_of ct_pair_of), sl_pair_of⟩)
    (c_pair_of : PySem.W.codeIn K cd_pair_of "pair_of" = true)
    (k_pair_of : PySem.W.keepIn K (.ref f_pair_of) = true)
    (a_place_of : PySem.W.nsIn K mainGlobals "place_of" = some (some (.ref f_place_of)))
    (l_place_of : K.lookup f_place_of = some ⟨oc_place_of, od_place_of, .func (PySem.W.fnOf "place_of" "place_of" (defArgs splace_of) (defBody splace_of) (defScope splace_of) .none kV_place_of dc_place_of pm_place_of an_place_of cd_place_of ct_place_of), sl_place_of⟩)
    (c_place_of : PySem.W.codeIn K cd_place_of "place_of" = true)
    (k_place_of : PySem.W.keepIn K (.ref f_place_of) = true)
    (a_bottom_of : PySem.W.nsIn K mainGlobals "bottom_of" = some (some (.ref f_bottom_of)))
    (l_bottom_of : K.lookup f_bottom_of = some ⟨oc_bottom_of, od_bottom_of, .func (PySem.W.fnOf "bottom_of" "bottom_of" (defArgs sbottom_of) (defBody sbottom_of) (defScope sbottom_of) .none kV_bottom_of dc_bottom_of pm_bottom_of an_bottom_of cd_bottom_of ct_bottom_of), sl_bottom_of⟩)
    (c_bottom_of : PySem.W.codeIn K cd_bottom_of "bottom_of" = true)
    (k_bottom_of : PySem.W.keepIn K (.ref f_bottom_of) = true)
    (a_whole_row : PySem.W.nsIn K mainGlobals "whole_row" = some (some (.ref f_whole_row)))
    (l_whole_row : K.lookup f_whole_row = some ⟨oc_whole_row, od_whole_row, .func (PySem.W.fnOf "whole_row" "whole_row" (defArgs swhole_row) (defBody swhole_row) (defScope swhole_row) .none kV_whole_row dc_whole_row pm_whole_row an_whole_row cd_whole_row ct_whole_row), sl_whole_row⟩)
    (c_whole_row : PySem.W.codeIn K cd_whole_row "whole_row" = true)
    (k_whole_row : PySem.W.keepIn K (.ref f_whole_row) = true)
    (a_closed_row_of : PySem.W.nsIn K mainGlobals "closed_row_of" = some (some (.ref f_closed_row_of)))
    (l_closed_row_of : K.lookup f_closed_row_of = some ⟨oc_closed_row_of, od_closed_row_of, .func (PySem.W.fnOf "closed_row_of" "closed_row_of" (defArgs sclosed_row_of) (defBody sclosed_row_of) (defScope sclosed_row_of) .none kV_closed_row_of dc_closed_row_of pm_closed_row_of an_closed_row_of cd_closed_row_of ct_closed_row_of), sl_closed_row_of⟩)
    (c_closed_row_of : PySem.W.codeIn K cd_closed_row_of "closed_row_of" = true)
    (k_closed_row_of : PySem.W.keepIn K (.ref f_closed_row_of) = true)
    (a_grid_of : PySem.W.nsIn K mainGlobals "grid_of" = some (some (.ref f_grid_of)))
    (l_grid_of : K.lookup f_grid_of = some ⟨oc_grid_of, od_grid_of, .func (PySem.W.fnOf "grid_of" "grid_of" (defArgs sgrid_of) (defBody sgrid_of) (defScope sgrid_of) .none kV_grid_of dc_grid_of pm_grid_of an_grid_of cd_grid_of ct_grid_of), sl_grid_of⟩)
    (c_grid_of : PySem.W.codeIn K cd_grid_of "grid_of" = true)
    (k_grid_of : PySem.W.keepIn K (.ref f_grid_of) = true)
    (a_sides_of : PySem.W.nsIn K mainGlobals "sides_of" = some (some (.ref f_sides_of)))
    (l_sides_of : K.lookup f_sides_of = some ⟨oc_sides_of, od_sides_of, .func (PySem.W.fnOf "sides_of" "sides_of" (defArgs ssides_of) (defBody ssides_of) (defScope ssides_of) .none kV_sides_of dc_sides_of pm_sides_of an_sides_of cd_sides_of ct_sides_of), sl_sides_of⟩)
    (c_sides_of : PySem.W.codeIn K cd_sides_of "sides_of" = true)
    (k_sides_of : PySem.W.keepIn K (.ref f_sides_of) = true)
    (a_winding : PySem.W.nsIn K mainGlobals "winding" = some (some (.ref f_winding)))
    (l_winding : K.lookup f_winding = some ⟨oc_winding, od_winding, .func (PySem.W.fnOf "winding" "winding" (defArgs swinding) (defBody swinding) (defScope swinding) .none kV_winding dc_winding pm_winding an_winding cd_winding ct_winding), sl_winding⟩)
    (c_winding : PySem.W.codeIn K cd_winding "winding" = true)
    (k_winding : PySem.W.keepIn K (.ref f_winding) = true)
    (a_is_between : PySem.W.nsIn K mainGlobals "_is_between" = some (some (.ref f_is_between)))
    (l_is_between : K.lookup f_is_between = some ⟨oc_is_between, od_is_between, .func (PySem.W.fnOf "_is_between" "_is_between" (defArgs s_is_between) (defBody s_is_between) (defScope s_is_between) .none kV_is_between dc_is_between pm_is_between an_is_between cd_is_between ct_is_between), sl_is_between⟩)
    (c_is_between : PySem.W.codeIn K cd_is_between "_is_between" = true)
    (k_is_between : PySem.W.keepIn K (.ref f_is_between) = true)
    (a_law_pen : PySem.W.nsIn K mainGlobals "_law_pen" = some (some (.ref f_law_pen)))
    (l_law_pen : K.lookup f_law_pen = some ⟨oc_law_pen, od_law_pen, .func (PySem.W.fnOf "_law_pen" "_law_pen" (defArgs s_law_pen) (defBody s_law_pen) (defScope s_law_pen) .none kV_law_pen dc_law_pen pm_law_pen an_law_pen cd_law_pen ct_law_pen), sl_law_pen⟩)
    (c_law_pen : PySem.W.codeIn K cd_law_pen "_law_pen" = true)
    (k_law_pen : PySem.W.keepIn K (.ref f_law_pen) = true)
    (a_law_draw : PySem.W.nsIn K mainGlobals "_law_draw" = some (some (.ref f_law_draw)))
    (l_law_draw : K.lookup f_law_draw = some ⟨oc_law_draw, od_law_draw, .func (PySem.W.fnOf "_law_draw" "_law_draw" (defArgs s_law_draw) (defBody s_law_draw) (defScope s_law_draw) .none kV_law_draw dc_law_draw pm_law_draw an_law_draw cd_law_draw ct_law_draw), sl_law_draw⟩)
    (c_law_draw : PySem.W.codeIn K cd_law_draw "_law_draw" = true)
    (k_law_draw : PySem.W.keepIn K (.ref f_law_draw) = true)
    (a_law_pick : PySem.W.nsIn K mainGlobals "_law_pick" = some (some (.ref f_law_pick)))
    (l_law_pick : K.lookup f_law_pick = some ⟨oc_law_pick, od_law_pick, .func (PySem.W.fnOf "_law_pick" "_law_pick" (defArgs s_law_pick) (defBody s_law_pick) (defScope s_law_pick) .none kV_law_pick dc_law_pick pm_law_pick an_law_pick cd_law_pick ct_law_pick), sl_law_pick⟩)
    (c_law_pick : PySem.W.codeIn K cd_law_pick "_law_pick" = true)
    (k_law_pick : PySem.W.keepIn K (.ref f_law_pick) = true)
    (a_law_is_whole : PySem.W.nsIn K mainGlobals "_law_is_whole" = some (some (.ref f_law_is_whole)))
    (l_law_is_whole : K.lookup f_law_is_whole = some ⟨oc_law_is_whole, od_law_is_whole, .func (PySem.W.fnOf "_law_is_whole" "_law_is_whole" (defArgs s_law_is_whole) (defBody s_law_is_whole) (defScope s_law_is_whole) .none kV_law_is_whole dc_law_is_whole pm_law_is_whole an_law_is_whole cd_law_is_whole ct_law_is_whole), sl_law_is_whole⟩)
    (c_law_is_whole : PySem.W.codeIn K cd_law_is_whole "_law_is_whole" = true)
    (k_law_is_whole : PySem.W.keepIn K (.ref f_law_is_whole) = true)
    (a_law_gcd : PySem.W.nsIn K mainGlobals "_law_gcd" = some (some (.ref f_law_gcd)))
    (l_law_gcd : K.lookup f_law_gcd = some ⟨oc_law_gcd, od_law_gcd, .func (PySem.W.fnOf "_law_gcd" "_law_gcd" (defArgs s_law_gcd) (defBody s_law_gcd) (defScope s_law_gcd) .none kV_law_gcd dc_law_gcd pm_law_gcd an_law_gcd cd_law_gcd ct_law_gcd), sl_law_gcd⟩)
    (c_law_gcd : PySem.W.codeIn K cd_law_gcd "_law_gcd" = true)
    (k_law_gcd : PySem.W.keepIn K (.ref f_law_gcd) = true)
    (a_law_q : PySem.W.nsIn K mainGlobals "_law_q" = some (some (.ref f_law_q)))
    (l_law_q : K.lookup f_law_q = some ⟨oc_law_q, od_law_q, .func (PySem.W.fnOf "_law_q" "_law_q" (defArgs s_law_q) (defBody s_law_q) (defScope s_law_q) .none kV_law_q dc_law_q pm_law_q an_law_q cd_law_q ct_law_q), sl_law_q⟩)
    (c_law_q : PySem.W.codeIn K cd_law_q "_law_q" = true)
    (k_law_q : PySem.W.keepIn K (.ref f_law_q) = true)
    (a_law_plus : PySem.W.nsIn K mainGlobals "_law_plus" = some (some (.ref f_law_plus)))
    (l_law_plus : K.lookup f_law_plus = some ⟨oc_law_plus, od_law_plus, .func (PySem.W.fnOf "_law_plus" "_law_plus" (defArgs s_law_plus) (defBody s_law_plus) (defScope s_law_plus) .none kV_law_plus dc_law_plus pm_law_plus an_law_plus cd_law_plus ct_law_plus), sl_law_plus⟩)
    (c_law_plus : PySem.W.codeIn K cd_law_plus "_law_plus" = true)
    (k_law_plus : PySem.W.keepIn K (.ref f_law_plus) = true)
    (a_law_minus : PySem.W.nsIn K mainGlobals "_law_minus" = some (some (.ref f_law_minus)))
    (l_law_minus : K.lookup f_law_minus = some ⟨oc_law_minus, od_law_minus, .func (PySem.W.fnOf "_law_minus" "_law_minus" (defArgs s_law_minus) (defBody s_law_minus) (defScope s_law_minus) .none kV_law_minus dc_law_minus pm_law_minus an_law_minus cd_law_minus ct_law_minus), sl_law_minus⟩)
    (c_law_minus : PySem.W.codeIn K cd_law_minus "_law_minus" = true)
    (k_law_minus : PySem.W.keepIn K (.ref f_law_minus) = true)
    (a_law_times : PySem.W.nsIn K mainGlobals "_law_times" = some (some (.ref f_law_times)))
    (l_law_times : K.lookup f_law_times = some ⟨oc_law_times, od_law_times, .func (PySem.W.fnOf "_law_times" "_law_times" (defArgs s_law_times) (defBody s_law_times) (defScope s_law_times) .none kV_law_times dc_law_times pm_law_times an_law_times cd_law_times ct_law_times), sl_law_times⟩)
    (c_law_times : PySem.W.codeIn K cd_law_times "_law_times" = true)
    (k_law_times : PySem.W.keepIn K (.ref f_law_times) = true)
    (a_law_passed : PySem.W.nsIn K mainGlobals "_law_passed" = some (some (.ref f_law_passed)))
    (l_law_passed : K.lookup f_law_passed = some ⟨oc_law_passed, od_law_passed, .func (PySem.W.fnOf "_law_passed" "_law_passed" (defArgs s_law_passed) (defBody s_law_passed) (defScope s_law_passed) .none kV_law_passed dc_law_passed pm_law_passed an_law_passed cd_law_passed ct_law_passed), sl_law_passed⟩)
    (c_law_passed : PySem.W.codeIn K cd_law_passed "_law_passed" = true)
    (k_law_passed : PySem.W.keepIn K (.ref f_law_passed) = true)
    (a_law_ratio : PySem.W.nsIn K mainGlobals "_law_ratio" = some (some (.ref f_law_ratio)))
    (l_law_ratio : K.lookup f_law_ratio = some ⟨oc_law_ratio, od_law_ratio, .func (PySem.W.fnOf "_law_ratio" "_law_ratio" (defArgs s_law_ratio) (defBody s_law_ratio) (defScope s_law_ratio) .none kV_law_ratio dc_law_ratio pm_law_ratio an_law_ratio cd_law_ratio ct_law_ratio), sl_law_ratio⟩)
    (c_law_ratio : PySem.W.codeIn K cd_law_ratio "_law_ratio" = true)
    (k_law_ratio : PySem.W.keepIn K (.ref f_law_ratio) = true)
    (a_law_middle : PySem.W.nsIn K mainGlobals "_law_middle" = some (some (.ref f_law_middle)))
    (l_law_middle : K.lookup f_law_middle = some ⟨oc_law_middle, od_law_middle, .func (PySem.W.fnOf "_law_middle" "_law_middle" (defArgs s_law_middle) (defBody s_law_middle) (defScope s_law_middle) .none kV_law_middle dc_law_middle pm_law_middle an_law_middle cd_law_middle ct_law_middle), sl_law_middle⟩)
    (c_law_middle : PySem.W.codeIn K cd_law_middle "_law_middle" = true)
    (k_law_middle : PySem.W.keepIn K (.ref f_law_middle) = true)
    (a_law_cross : PySem.W.nsIn K mainGlobals "_law_cross" = some (some (.ref f_law_cross)))
    (l_law_cross : K.lookup f_law_cross = some ⟨oc_law_cross, od_law_cross, .func (PySem.W.fnOf "_law_cross" "_law_cross" (defArgs s_law_cross) (defBody s_law_cross) (defScope s_law_cross) .none kV_law_cross dc_law_cross pm_law_cross an_law_cross cd_law_cross ct_law_cross), sl_law_cross⟩)
    (c_law_cross : PySem.W.codeIn K cd_law_cross "_law_cross" = true)
    (k_law_cross : PySem.W.keepIn K (.ref f_law_cross) = true)
    (a_law_step : PySem.W.nsIn K mainGlobals "_law_step" = some (some (.ref f_law_step)))
    (l_law_step : K.lookup f_law_step = some ⟨oc_law_step, od_law_step, .func (PySem.W.fnOf "_law_step" "_law_step" (defArgs s_law_step) (defBody s_law_step) (defScope s_law_step) .none kV_law_step dc_law_step pm_law_step an_law_step cd_law_step ct_law_step), sl_law_step⟩)
    (c_law_step : PySem.W.codeIn K cd_law_step "_law_step" = true)
    (k_law_step : PySem.W.keepIn K (.ref f_law_step) = true)
    (a_law_sides : PySem.W.nsIn K mainGlobals "_law_sides" = some (some (.ref f_law_sides)))
    (l_law_sides : K.lookup f_law_sides = some ⟨oc_law_sides, od_law_sides, .func (PySem.W.fnOf "_law_sides" "_law_sides" (defArgs s_law_sides) (defBody s_law_sides) (defScope s_law_sides) .none kV_law_sides dc_law_sides pm_law_sides an_law_sides cd_law_sides ct_law_sides), sl_law_sides⟩)
    (c_law_sides : PySem.W.codeIn K cd_law_sides "_law_sides" = true)
    (k_law_sides : PySem.W.keepIn K (.ref f_law_sides) = true)
    (a_law_place : PySem.W.nsIn K mainGlobals "_law_place" = some (some (.ref f_law_place)))
    (l_law_place : K.lookup f_law_place = some ⟨oc_law_place, od_law_place, .func (PySem.W.fnOf "_law_place" "_law_place" (defArgs s_law_place) (defBody s_law_place) (defScope s_law_place) .none kV_law_place dc_law_place pm_law_place an_law_place cd_law_place ct_law_place), sl_law_place⟩)
    (c_law_place : PySem.W.codeIn K cd_law_place "_law_place" = true)
    (k_law_place : PySem.W.keepIn K (.ref f_law_place) = true)
    (a_law_winding_of : PySem.W.nsIn K mainGlobals "_law_winding_of" = some (some (.ref f_law_winding_of)))
    (l_law_winding_of : K.lookup f_law_winding_of = some ⟨oc_law_winding_of, od_law_winding_of, .func (PySem.W.fnOf "_law_winding_of" "_law_winding_of" (defArgs s_law_winding_of) (defBody s_law_winding_of) (defScope s_law_winding_of) .none kV_law_winding_of dc_law_winding_of pm_law_winding_of an_law_winding_of cd_law_winding_of ct_law_winding_of), sl_law_winding_of⟩)
    (c_law_winding_of : PySem.W.codeIn K cd_law_winding_of "_law_winding_of" = true)
    (k_law_winding_of : PySem.W.keepIn K (.ref f_law_winding_of) = true)
    (a_law_quarter : PySem.W.nsIn K mainGlobals "_law_quarter" = some (some (.ref f_law_quarter)))
    (l_law_quarter : K.lookup f_law_quarter = some ⟨oc_law_quarter, od_law_quarter, .func (PySem.W.fnOf "_law_quarter" "_law_quarter" (defArgs s_law_quarter) (defBody s_law_quarter) (defScope s_law_quarter) .none kV_law_quarter dc_law_quarter pm_law_quarter an_law_quarter cd_law_quarter ct_law_quarter), sl_law_quarter⟩)
    (c_law_quarter : PySem.W.codeIn K cd_law_quarter "_law_quarter" = true)
    (k_law_quarter : PySem.W.keepIn K (.ref f_law_quarter) = true)
    (a_law_fault : PySem.W.nsIn K mainGlobals "_law_fault" = some (some (.ref f_law_fault)))
    (l_law_fault : K.lookup f_law_fault = some ⟨oc_law_fault, od_law_fault, .func (PySem.W.fnOf "_law_fault" "_law_fault" (defArgs s_law_fault) (defBody s_law_fault) (defScope s_law_fault) .none kV_law_fault dc_law_fault pm_law_fault an_law_fault cd_law_fault ct_law_fault), sl_law_fault⟩)
    (c_law_fault : PySem.W.codeIn K cd_law_fault "_law_fault" = true)
    (k_law_fault : PySem.W.keepIn K (.ref f_law_fault) = true)
    (a_law : PySem.W.nsIn K mainGlobals "law" = some (some (.ref f_law)))
    (l_law : K.lookup f_law = some ⟨oc_law, od_law, .func (PySem.W.fnOf "law" "law" (defArgs slaw) (defBody slaw) (defScope slaw) .none kV_law dc_law pm_law an_law (.ref cC_law) ct_law), sl_law⟩)
    (c_law : PySem.W.codeIn K (.ref cC_law) "law" = true)
    (k_law : PySem.W.keepIn K (.ref f_law) = true)
    (hn_ : PySem.W.specialIn K (.builtin "object.__class__") "__get__" = some (some (.builtin "getset_descriptor.__get__")))
    (ht_ : PySem.W.takesIn K (.builtin "object.__class__") = some true)
    (a_BadNumber : PySem.W.nsIn K mainGlobals "BadNumber" = some (some (.ref C_BadNumber)))
    (ga_BadNumber : PySem.W.findIn K (.ref C_BadNumber) "__getattribute__" = some (some (.builtin "BaseException.__getattribute__")))
    (gg_BadNumber : PySem.W.findIn K (.ref C_BadNumber) "__getattr__" = some none)
    (sb_BadNumber : PySem.W.subIn K (.ref C_BadNumber) (.type "BaseException") = some true)
    (hd_BadNumber : PySem.W.hasDictIn K C_BadNumber = true)
    (ca_BadNumber : PySem.W.findIn K (.ref C_BadNumber) "__class__" = some (some (.builtin "object.__class__")))
    (mo_BadNumber : PySem.W.mroIn K C_BadNumber (.type "object") = some true)
    (kp_BadNumber : PySem.W.keepIn K (.ref C_BadNumber) = true)
    (xL_BadNumber : K.lookup C_BadNumber = some (excClassObj nmI_BadNumber qI_BadNumber C_BadNumber NI_BadNumber bsI_BadNumber bmI_BadNumber true snI_BadNumber subI_BadNumber abI_BadNumber colI_BadNumber ddI_BadNumber m0I_BadNumber m1I_BadNumber m2I_BadNumber m3I_BadNumber m5I_BadNumber "ValueError.__new__"))
    (rb_BadNumber : PySem.HandSPX.refsVE bmI_BadNumber = true)
    (sa_BadNumber : PySem.W.findIn K (.ref C_BadNumber) "__setattr__" = some (some (.builtin "object.__setattr__")))
    (ty_BadNumber : PySem.W.typeIn K (.ref C_BadNumber) = some (.type "type"))
    (i_BadNumber : PySem.W.findIn K (.ref C_BadNumber) "__init__" = some (some (.ref fI_BadNumber)))
    (t_BadNumber : PySem.W.typeIn K (.ref fI_BadNumber) = some (.type "function"))
    (lI_BadNumber : K.lookup fI_BadNumber = some ⟨ocI_BadNumber, odI_BadNumber, .func (PySem.W.fnOf "__init__" "BadNumber.__init__" (defArgs (inClass (top 3) 0)) (defBody (inClass (top 3) 0)) (defScope (inClass (top 3) 0)) .none kVI_BadNumber dcI_BadNumber pmI_BadNumber anI_BadNumber cdI_BadNumber ctI_BadNumber), slI_BadNumber⟩)
    (cI_BadNumber : PySem.W.codeIn K cdI_BadNumber "BadNumber.__init__" = true)
    (kI_BadNumber : PySem.W.keepIn K (.ref fI_BadNumber) = true)
    (n_BadNumber_what : PySem.W.findIn K (.ref C_BadNumber) "what" = some none)
    (n_BadNumber_number : PySem.W.findIn K (.ref C_BadNumber) "number" = some none)
    (a_BadRow : PySem.W.nsIn K mainGlobals "BadRow" = some (some (.ref C_BadRow)))
    (ga_BadRow : PySem.W.findIn K (.ref C_BadRow) "__getattribute__" = some (some (.builtin "BaseException.__getattribute__")))
    (gg_BadRow : PySem.W.findIn K (.ref C_BadRow) "__getattr__" = some none)
    (sb_BadRow : PySem.W.subIn K (.ref C_BadRow) (.type "BaseException") = some true)
    (hd_BadRow : PySem.W.hasDictIn K C_BadRow = true)
    (ca_BadRow : PySem.W.findIn K (.ref C_BadRow) "__class__" = some (some (.builtin "object.__class__")))
    (mo_BadRow : PySem.W.mroIn K C_BadRow (.type "object") = some true)
    (kp_BadRow : PySem.W.keepIn K (.ref C_BadRow) = true)
    (xL_BadRow : K.lookup C_BadRow = some (excClassObj nmI_BadRow qI_BadRow C_BadRow NI_BadRow bsI_BadRow bmI_BadRow true snI_BadRow subI_BadRow abI_BadRow colI_BadRow ddI_BadRow m0I_BadRow m1I_BadRow m2I_BadRow m3I_BadRow m5I_BadRow "ValueError.__new__"))
    (rb_BadRow : PySem.HandSPX.refsVE bmI_BadRow = true)
    (sa_BadRow : PySem.W.findIn K (.ref C_BadRow) "__setattr__" = some (some (.builtin "object.__setattr__")))
    (ty_BadRow : PySem.W.typeIn K (.ref C_BadRow) = some (.type "type"))
    (i_BadRow : PySem.W.findIn K (.ref C_BadRow) "__init__" = some (some (.ref fI_BadRow)))
    (t_BadRow : PySem.W.typeIn K (.ref fI_BadRow) = some (.type "function"))
    (lI_BadRow : K.lookup fI_BadRow = some ⟨ocI_BadRow, odI_BadRow, .func (PySem.W.fnOf "__init__" "BadRow.__init__" (defArgs (inClass (top 4) 0)) (defBody (inClass (top 4) 0)) (defScope (inClass (top 4) 0)) .none kVI_BadRow dcI_BadRow pmI_BadRow anI_BadRow cdI_BadRow ctI_BadRow), slI_BadRow⟩)
    (cI_BadRow : PySem.W.codeIn K cdI_BadRow "BadRow.__init__" = true)
    (kI_BadRow : PySem.W.keepIn K (.ref fI_BadRow) = true)
    (n_BadRow_row : PySem.W.findIn K (.ref C_BadRow) "row" = some none)
    (a_Shared : PySem.W.nsIn K mainGlobals "Shared" = some (some (.ref C_Shared)))
    (ga_Shared : PySem.W.findIn K (.ref C_Shared) "__getattribute__" = some (some (.builtin "BaseException.__getattribute__")))
    (gg_Shared : PySem.W.findIn K (.ref C_Shared) "__getattr__" = some none)
    (sb_Shared : PySem.W.subIn K (.ref C_Shared) (.type "BaseException") = some true)
    (hd_Shared : PySem.W.hasDictIn K C_Shared = true)
    (ca_Shared : PySem.W.findIn K (.ref C_Shared) "__class__" = some (some (.builtin "object.__class__")))
    (mo_Shared : PySem.W.mroIn K C_Shared (.type "object") = some true)
    (kp_Shared : PySem.W.keepIn K (.ref C_Shared) = true)
    (xL_Shared : K.lookup C_Shared = some (excClassObj nmI_Shared qI_Shared C_Shared NI_Shared bsI_Shared bmI_Shared true snI_Shared subI_Shared abI_Shared colI_Shared ddI_Shared m0I_Shared m1I_Shared m2I_Shared m3I_Shared m5I_Shared "ValueError.__new__"))
    (rb_Shared : PySem.HandSPX.refsVE bmI_Shared = true)
    (sa_Shared : PySem.W.findIn K (.ref C_Shared) "__setattr__" = some (some (.builtin "object.__setattr__")))
    (ty_Shared : PySem.W.typeIn K (.ref C_Shared) = some (.type "type"))
    (i_Shared : PySem.W.findIn K (.ref C_Shared) "__init__" = some (some (.ref fI_Shared)))
    (t_Shared : PySem.W.typeIn K (.ref fI_Shared) = some (.type "function"))
    (lI_Shared : K.lookup fI_Shared = some ⟨ocI_Shared, odI_Shared, .func (PySem.W.fnOf "__init__" "Shared.__init__" (defArgs (inClass (top 5) 0)) (defBody (inClass (top 5) 0)) (defScope (inClass (top 5) 0)) .none kVI_Shared dcI_Shared pmI_Shared anI_Shared cdI_Shared ctI_Shared), slI_Shared⟩)
    (cI_Shared : PySem.W.codeIn K cdI_Shared "Shared.__init__" = true)
    (kI_Shared : PySem.W.keepIn K (.ref fI_Shared) = true)
    (n_Shared_plane : PySem.W.findIn K (.ref C_Shared) "plane" = some none)
    (a_NoRest : PySem.W.nsIn K mainGlobals "NoRest" = some (some (.ref C_NoRest)))
    (ga_NoRest : PySem.W.findIn K (.ref C_NoRest) "__getattribute__" = some (some (.builtin "BaseException.__getattribute__")))
    (gg_NoRest : PySem.W.findIn K (.ref C_NoRest) "__getattr__" = some none)
    (sb_NoRest : PySem.W.subIn K (.ref C_NoRest) (.type "BaseException") = some true)
    (hd_NoRest : PySem.W.hasDictIn K C_NoRest = true)
    (ca_NoRest : PySem.W.findIn K (.ref C_NoRest) "__class__" = some (some (.builtin "object.__class__")))
    (mo_NoRest : PySem.W.mroIn K C_NoRest (.type "object") = some true)
    (kp_NoRest : PySem.W.keepIn K (.ref C_NoRest) = true)
    (xL_NoRest : K.lookup C_NoRest = some (excClassObj nmI_NoRest qI_NoRest C_NoRest NI_NoRest bsI_NoRest bmI_NoRest true snI_NoRest subI_NoRest abI_NoRest colI_NoRest ddI_NoRest m0I_NoRest m1I_NoRest m2I_NoRest m3I_NoRest m5I_NoRest "ValueError.__new__"))
    (rb_NoRest : PySem.HandSPX.refsVE bmI_NoRest = true)
    (sa_NoRest : PySem.W.findIn K (.ref C_NoRest) "__setattr__" = some (some (.builtin "object.__setattr__")))
    (ty_NoRest : PySem.W.typeIn K (.ref C_NoRest) = some (.type "type"))
    (i_NoRest : PySem.W.findIn K (.ref C_NoRest) "__init__" = some (some (.ref fI_NoRest)))
    (t_NoRest : PySem.W.typeIn K (.ref fI_NoRest) = some (.type "function"))
    (lI_NoRest : K.lookup fI_NoRest = some ⟨ocI_NoRest, odI_NoRest, .func (PySem.W.fnOf "__init__" "NoRest.__init__" (defArgs (inClass (top 6) 0)) (defBody (inClass (top 6) 0)) (defScope (inClass (top 6) 0)) .none kVI_NoRest dcI_NoRest pmI_NoRest anI_NoRest cdI_NoRest ctI_NoRest), slI_NoRest⟩)
    (cI_NoRest : PySem.W.codeIn K cdI_NoRest "NoRest.__init__" = true)
    (kI_NoRest : PySem.W.keepIn K (.ref fI_NoRest) = true)
    (n_NoRest_place : PySem.W.findIn K (.ref C_NoRest) "place" = some none)
    (a_NotRound : PySem.W.nsIn K mainGlobals "NotRound" = some (some (.ref C_NotRound)))
    (ga_NotRound : PySem.W.findIn K (.ref C_NotRound) "__getattribute__" = some (some (.builtin "BaseException.__getattribute__")))
    (gg_NotRound : PySem.W.findIn K (.ref C_NotRound) "__getattr__" = some none)
    (sb_NotRound : PySem.W.subIn K (.ref C_NotRound) (.type "BaseException") = some true)
    (hd_NotRound : PySem.W.hasDictIn K C_NotRound = true)
    (ca_NotRound : PySem.W.findIn K (.ref C_NotRound) "__class__" = some (some (.builtin "object.__class__")))
    (mo_NotRound : PySem.W.mroIn K C_NotRound (.type "object") = some true)
    (kp_NotRound : PySem.W.keepIn K (.ref C_NotRound) = true)
    (q_NotRound : PySem.W.excIn K C_NotRound [.type "ValueError", .type "Exception", .type "BaseException", .type "object"] "ValueError.__new__" = true)
    (e_xBadRowBadNumber : PySem.W.exmOne K (.ref C_BadRow) (.ref C_BadNumber) = some false)
    (e_xBadRowBadRow : PySem.W.exmOne K (.ref C_BadRow) (.ref C_BadRow) = some true)
    (fin : Txt K mg → (fDat K (fA mg "law")).code = .ref cC_law → Z) : Z := fin {
  int := PySem.W.mg_none_of X G z_int
  bool := PySem.W.mg_none_of X G z_bool
  list := PySem.W.mg_none_of X G z_list
  tuple := PySem.W.mg_none_of X G z_tuple
  len := PySem.W.mg_none_of X G z_len
  range := PySem.W.mg_none_of X G z_range
  isinstance := PySem.W.mg_none_of X G z_isinstance
  repr := PySem.W.mg_none_of X G z_repr
  abs := PySem.W.mg_none_of X G z_abs
  all := PySem.W.mg_none_of X G z_all
  zip := PySem.W.mg_none_of X G z_zip
  gcd := PySem.W.mg_of X G g_gcd
  lcm := PySem.W.mg_of X G g_lcm
  is_ratio := Df.mk' X G a_is_ratio l_is_ratio c_is_ratio k_is_ratio fun _ _ _ _ _ _ us hl => match us, hl with | [_], _ => rfl
  told := Df.mk' X G a_told l_told c_told k_told fun _ _ _ _ _ _ us hl => match us, hl with | [_, _], _ => rfl
  is_integer := Df.mk' X G a_is_integer l_is_integer c_is_integer k_is_integer fun _ _ _ _ _ _ us hl => match us, hl with | [_], _ => rfl
  _parts := Df.mk' X G a_parts l_parts c_parts k_parts fun _ _ _ _ _ _ us hl => match us, hl with | [_, _], _ => rfl
  _lowest := Df.mk' X G a_lowest l_lowest c_lowest k_lowest fun _ _ _ _ _ _ us hl => match us, hl with | [_, _], _ => rfl
  is_row := Df.mk' X G a_is_row l_is_row c_is_row k_is_row fun _ _ _ _ _ _ us hl => match us, hl with | [_], _ => rfl
  is_row_of := Df.mk' X G a_is_row_of l_is_row_of c_is_row_of k_is_row_of fun _ _ _ _ _ _ us hl => match us, hl with | [_, _], _ => rfl
  is_place := Df.mk' X G a_is_place l_is_place c_is_place k_is_place fun _ _ _ _ _ _ us hl => match us, hl with | [_], _ => rfl
  pair_of := Df.mk' X G a_pair_of l_pair_of c_pair_of k_pair_of fun _ _ _ _ _ _ us hl => match us, hl with | [_], _ => rfl
  place_of := Df.mk' X G a_place_of l_place_of c_place_of k_place_of fun _ _ _ _ _ _ us hl => match us, hl with | [_], _ => rfl
  bottom_of := Df.mk' X G a_bottom_of l_bottom_of c_bottom_of k_bottom_of fun _ _ _ _ _ _ us hl => match us, hl with | [_], _ => rfl
  whole_row := Df.mk' X G a_whole_row l_whole_row c_whole_row k_whole_row fun _ _ _ _ _ _ us hl => match us, hl with | [_], _ => rfl
  closed_row_of := Df.mk' X G a_closed_row_of l_closed_row_of c_closed_row_of k_closed_row_of fun _ _ _ _ _ _ us hl => match us, hl with | [_], _ => rfl
  grid_of := Df.mk' X G a_grid_of l_grid_of c_grid_of k_grid_of fun _ _ _ _ _ _ us hl => match us, hl with | [_], _ => rfl
  sides_of := Df.mk' X G a_sides_of l_sides_of c_sides_of k_sides_of fun _ _ _ _ _ _ us hl => match us, hl with | [_], _ => rfl
  winding := Df.mk' X G a_winding l_winding c_winding k_winding fun _ _ _ _ _ _ us hl => match us, hl with | [_, _], _ => rfl
  _is_between := Df.mk' X G a_is_between l_is_between c_is_between k_is_between fun _ _ _ _ _ _ us hl => match us, hl with | [_, _, _], _ => rfl
  _law_pen := Df.mk' X G a_law_pen l_law_pen c_law_pen k_law_pen fun _ _ _ _ _ _ us hl => match us, hl with | [_], _ => rfl
  _law_draw := Df.mk' X G a_law_draw l_law_draw c_law_draw k_law_draw fun _ _ _ _ _ _ us hl => match us, hl with | [_, _], _ => rfl
  _law_pick := Df.mk' X G a_law_pick l_law_pick c_law_pick k_law_pick fun _ _ _ _ _ _ us hl => match us, hl with | [_, _], _ => rfl
  _law_is_whole := Df.mk' X G a_law_is_whole l_law_is_whole c_law_is_whole k_law_is_whole fun _ _ _ _ _ _ us hl => match us, hl with | [_], _ => rfl
  _law_gcd := Df.mk' X G a_law_gcd l_law_gcd c_law_gcd k_law_gcd fun _ _ _ _ _ _ us hl => match us, hl with | [_, _], _ => rfl
  _law_q := Df.mk' X G a_law_q l_law_q c_law_q k_law_q fun _ _ _ _ _ _ us hl => match us, hl with | [_, _], _ => rfl
  _law_plus := Df.mk' X G a_law_plus l_law_plus c_law_plus k_law_plus fun _ _ _ _ _ _ us hl => match us, hl with | [_, _], _ => rfl
  _law_minus := Df.mk' X G a_law_minus l_law_minus c_law_minus k_law_minus fun _ _ _ _ _ _ us hl => match us, hl with | [_, _], _ => rfl
  _law_times := Df.mk' X G a_law_times l_law_times c_law_times k_law_times fun _ _ _ _ _ _ us hl => match us, hl with | [_, _], _ => rfl
  _law_passed := Df.mk' X G a_law_passed l_law_passed c_law_passed k_law_passed fun _ _ _ _ _ _ us hl => match us, hl with | [_, _], _ => rfl
  _law_ratio := Df.mk' X G a_law_ratio l_law_ratio c_law_ratio k_law_ratio fun _ _ _ _ _ _ us hl => match us, hl with | [_, _], _ => rfl
  _law_middle := Df.mk' X G a_law_middle l_law_middle c_law_middle k_law_middle fun _ _ _ _ _ _ us hl => match us, hl with | [_, _], _ => rfl
  _law_cross := Df.mk' X G a_law_cross l_law_cross c_law_cross k_law_cross fun _ _ _ _ _ _ us hl => match us, hl with | [_, _], _ => rfl
  _law_step := Df.mk' X G a_law_step l_law_step c_law_step k_law_step fun _ _ _ _ _ _ us hl => match us, hl with | [_, _], _ => rfl
  _law_sides := Df.mk' X G a_law_sides l_law_sides c_law_sides k_law_sides fun _ _ _ _ _ _ us hl => match us, hl with | [_], _ => rfl
  _law_place := Df.mk' X G a_law_place l_law_place c_law_place k_law_place fun _ _ _ _ _ _ us hl => match us, hl with | [_, _], _ => rfl
  _law_winding_of := Df.mk' X G a_law_winding_of l_law_winding_of c_law_winding_of k_law_winding_of fun _ _ _ _ _ _ us hl => match us, hl with | [_, _], _ => rfl
  _law_quarter := Df.mk' X G a_law_quarter l_law_quarter c_law_quarter k_law_quarter fun _ _ _ _ _ _ us hl => match us, hl with | [_], _ => rfl
  _law_fault := Df.mk' X G a_law_fault l_law_fault c_law_fault k_law_fault fun _ _ _ _ _ _ us hl => match us, hl with | [_], _ => rfl
  law := Df.mk' X G a_law l_law c_law k_law fun _ _ _ _ _ _ us hl => match us, hl with | [_], _ => rfl
  BadNumber := ClI.mk' X G a_BadNumber ⟨ga_BadNumber, gg_BadNumber, sb_BadNumber, hd_BadNumber, ca_BadNumber, hn_, ht_, mo_BadNumber⟩ ⟨⟨_, _, _, _, _, _, _, _, _, _, _, _, _, _, _, xL_BadNumber, rb_BadNumber⟩, sa_BadNumber, sb_BadNumber, ty_BadNumber, kp_BadNumber⟩ i_BadNumber t_BadNumber lI_BadNumber cI_BadNumber kI_BadNumber (fun _ _ _ _ _ _ us hl => match us, hl with | [_, _, _], _ => rfl) (List.forall_mem_cons.mpr ⟨n_BadNumber_what, List.forall_mem_cons.mpr ⟨n_BadNumber_number, List.forall_mem_nil _⟩⟩)
  BadRow := ClI.mk' X G a_BadRow ⟨ga_BadRow, gg_BadRow, sb_BadRow, hd_BadRow, ca_BadRow, hn_, ht_, mo_BadRow⟩ ⟨⟨_, _, _, _, _, _, _, _, _, _, _, _, _, _, _, xL_BadRow, rb_BadRow⟩, sa_BadRow, sb_BadRow, ty_BadRow, kp_BadRow⟩ i_BadRow t_BadRow lI_BadRow cI_BadRow kI_BadRow (fun _ _ _ _ _ _ us hl => match us, hl with | [_, _], _ => rfl) (List.forall_mem_cons.mpr ⟨n_BadRow_row, List.forall_mem_nil _⟩)
  Shared := ClI.mk' X G a_Shared ⟨ga_Shared, gg_Shared, sb_Shared, hd_Shared, ca_Shared, hn_, ht_, mo_Shared⟩ ⟨⟨_, _, _, _, _, _, _, _, _, _, _, _, _, _, _, xL_Shared, rb_Shared⟩, sa_Shared, sb_Shared, ty_Shared, kp_Shared⟩ i_Shared t_Shared lI_Shared cI_Shared kI_Shared (fun _ _ _ _ _ _ us hl => match us, hl with | [_, _], _ => rfl) (List.forall_mem_cons.mpr ⟨n_Shared_plane, List.forall_mem_nil _⟩)
  NoRest := ClI.mk' X G a_NoRest ⟨ga_NoRest, gg_NoRest, sb_NoRest, hd_NoRest, ca_NoRest, hn_, ht_, mo_NoRest⟩ ⟨⟨_, _, _, _, _, _, _, _, _, _, _, _, _, _, _, xL_NoRest, rb_NoRest⟩, sa_NoRest, sb_NoRest, ty_NoRest, kp_NoRest⟩ i_NoRest t_NoRest lI_NoRest cI_NoRest kI_NoRest (fun _ _ _ _ _ _ us hl => match us, hl with | [_, _], _ => rfl) (List.forall_mem_cons.mpr ⟨n_NoRest_place, List.forall_mem_nil _⟩)
  NotRound := Cl0.mk' X G a_NotRound kp_NotRound ⟨ga_NotRound, gg_NotRound, sb_NotRound, hd_NotRound, ca_NotRound, hn_, ht_, mo_NotRound⟩ q_NotRound
  xBadRowBadNumber := by rw [fA_of (PySem.W.mg_of X G a_BadRow), fA_of (PySem.W.mg_of X G a_BadNumber)]; exact e_xBadRowBadNumber
  xBadRowBadRow := by rw [fA_of (PySem.W.mg_of X G a_BadRow)]; exact e_xBadRowBadRow
  lb := fun s u => by rw [fA_of (PySem.W.mg_of X G a_law), fDat_of l_law]; exact .of_eq rfl } (by rw [fA_of (PySem.W.mg_of X G a_law), fDat_of l_law])
end LW
open PySem PySem.W PyProof.Rows
set_option maxRecDepth 100000 in
set_option maxHeartbeats 0 in
theorem PySem.Challenge.cw_flowpapers_k36_whole_windings_holds : PySem.Challenge.rw_flowpapers_k36_whole_windings.Holds := by
  w_on; o_law; k_head; (case hw => w_witness2)
  k_fill
  refine GL.walk_GT (l := PySem.Challenge.rw_flowpapers_k36_whole_windings) (n := 63) (k := 17) (x := "_law_script") rfl (by decide) rfl ⟨rfl, by decide, by decide⟩ (fun w h Y => PySem.W.km_in_of Y) ?F
  case F =>
    intro w mg fa h Y KX G hmg
    have hT8 := PySem.W.km_tabs_of Y
    refine' LW.facts KX G ?z_int ?z_bool ?z_list ?z_tuple ?z_len ?z_range ?z_isinstance ?z_repr ?z_abs ?z_all ?z_zip ?g_gcd ?g_lcm ?a_is_ratio ?l_is_ratio ?c_is_ratio ?k_is_ratio ?a_told ?l_told ?c_told ?k_told ?a_is_integer ?l_is_integer ?c_is_integer ?k_is_integer ?a_parts ?l_parts ?c_parts ?k_parts ?a_lowest ?l_lowest ?c_lowest ?k_lowest ?a_is_row ?l_is_row ?c_is_row ?k_is_row ?a_is_row_of ?l_is_row_of ?c_is_row_of ?k_is_row_of ?a_is_place ?l_is_place ?c_is_place ?k_is_place ?a_pair_of ?l_pair_of ?c_pair_of ?k_pair_of ?a_place_of ?l_place_of ?c_place_of ?k_place_of ?a_bottom_of ?l_bottom_of ?c_bottom_of ?k_bottom_of ?a_whole_row ?l_whole_row ?c_whole_row ?k_whole_row ?a_closed_row_of ?l_closed_row_of ?c_closed_row_of ?k_closed_row_of ?a_grid_of ?l_grid_of ?c_grid_of ?k_grid_of ?a_sides_of ?l_sides_of ?c_sides_of ?k_sides_of ?a_winding ?l_winding ?c_winding ?k_winding ?a_is_between ?l_is_between ?c_is_between ?k_is_between ?a_law_pen ?l_law_pen ?c_law_pen ?k_law_pen ?a_law_draw ?l_law_draw ?c_law_draw ?k_law_draw ?a_law_pick ?l_law_pick ?c_law_pick ?k_law_pick ?a_law_is_whole ?l_law_is_whole ?c_law_is_whole ?k_law_is_whole ?a_law_gcd ?l_law_gcd ?c_law_gcd ?k_law_gcd ?a_law_q ?l_law_q ?c_law_q ?k_law_q ?a_law_plus ?l_law_plus ?c_law_plus ?k_law_plus ?a_law_minus ?l_law_minus ?c_law_minus ?k_law_minus ?a_law_times ?l_law_times ?c_law_times ?k_law_times ?a_law_passed ?l_law_passed ?c_law_passed ?k_law_passed ?a_law_ratio ?l_law_ratio ?c_law_ratio ?k_law_ratio ?a_law_middle ?l_law_middle ?c_law_middle ?k_law_middle ?a_law_cross ?l_law_cross ?c_law_cross ?k_law_cross ?a_law_step ?l_law_step ?c_law_step ?k_law_step ?a_law_sides ?l_law_sides ?c_law_sides ?k_law_sides ?a_law_place ?l_law_place ?c_law_place ?k_law_place ?a_law_winding_of ?l_law_winding_of ?c_law_winding_of ?k_law_winding_of ?a_law_quarter ?l_law_quarter ?c_law_quarter ?k_law_quarter ?a_law_fault ?l_law_fault ?c_law_fault ?k_law_fault ?a_law ?l_law ?c_law ?k_law ?hn_ ?ht_ ?a_BadNumber ?ga_BadNumber ?gg_BadNumber ?sb_BadNumber ?hd_BadNumber ?ca_BadNumber ?mo_BadNumber ?kp_BadNumber ?xL_BadNumber ?rb_BadNumber ?sa_BadNumber ?ty_BadNumber ?i_BadNumber ?t_BadNumber ?lI_BadNumber ?cI_BadNumber ?kI_BadNumber ?n_BadNumber_what ?n_BadNumber_number ?a_BadRow ?ga_BadRow ?gg_BadRow ?sb_BadRow ?hd_BadRow ?ca_BadRow ?mo_BadRow ?kp_BadRow ?xL_BadRow ?rb_BadRow ?sa_BadRow ?ty_BadRow ?i_BadRow ?t_BadRow ?lI_BadRow ?cI_BadRow ?kI_BadRow ?n_BadRow_row ?a_Shared ?ga_Shared ?gg_Shared ?sb_Shared ?hd_Shared ?ca_Shared ?mo_Shared ?kp_Shared ?xL_Shared ?rb_Shared ?sa_Shared ?ty_Shared ?i_Shared ?t_Shared ?lI_Shared ?cI_Shared ?kI_Shared ?n_Shared_plane ?a_NoRest ?ga_NoRest ?gg_NoRest ?sb_NoRest ?hd_NoRest ?ca_NoRest ?mo_NoRest ?kp_NoRest ?xL_NoRest ?rb_NoRest ?sa_NoRest ?ty_NoRest ?i_NoRest ?t_NoRest ?lI_NoRest ?cI_NoRest ?kI_NoRest ?n_NoRest_place ?a_NotRound ?ga_NotRound ?gg_NotRound ?sb_NotRound ?hd_NotRound ?ca_NotRound ?mo_NotRound ?kp_NotRound ?q_NotRound ?e_xBadRowBadNumber ?e_xBadRowBadRow ?fin
    (case z_int => k_is); (case z_bool => k_is); (case z_list => k_is); (case z_tuple => k_is); (case z_len => k_is); (case z_range => k_is); (case z_isinstance => k_is); (case z_repr => k_is); (case z_abs => k_is); (case z_all => k_is); (case z_zip => k_is); (case g_gcd => k_is); (case g_lcm => k_is); (case a_is_ratio => k_is); (case l_is_ratio => k_is); (case c_is_ratio => k_is); (case k_is_ratio => k_is); (case a_told => k_is); (case l_told => k_is); (case c_told => k_is); (case k_told => k_is); (case a_is_integer => k_is); (case l_is_integer => k_is); (case c_is_integer => k_is); (case k_is_integer => k_is); (case a_parts => k_is); (case l_parts => k_is); (case c_parts => k_is); (case k_parts => k_is); (case a_lowest => k_is); (case l_lowest => k_is); (case c_lowest => k_is); (case k_lowest => k_is); (case a_is_row => k_is); (case l_is_row => k_is); (case c_is_row => k_is); (case k_is_row => k_is); (case a_is_row_of => k_is); (case l_is_row_of => k_is); (case c_is_row_of => k_is); (case k_is_row_of => k_is); (case a_is_place => k_is); (case l_is_place => k_is); (case c_is_place => k_is); (case k_is_place => k_is); (case a_pair_of => k_is); (case l_pair_of => k_is); (case c_pair_of => k_is); (case k_pair_of => k_is); (case a_place_of => k_is); (case l_place_of => k_is); (case c_place_of => k_is); (case k_place_of => k_is); (case a_bottom_of => k_is); (case l_bottom_of => k_is); (case c_bottom_of => k_is); (case k_bottom_of => k_is); (case a_whole_row => k_is); (case l_whole_row => k_is); (case c_whole_row => k_is); (case k_whole_row => k_is); (case a_closed_row_of => k_is); (case l_closed_row_of => k_is); (case c_closed_row_of => k_is); (case k_closed_row_of => k_is); (case a_grid_of => k_is); (case l_grid_of => k_is); (case c_grid_of => k_is); (case k_grid_of => k_is); (case a_sides_of => k_is); (case l_sides_of => k_is); (case c_sides_of => k_is); (case k_sides_of => k_is); (case a_winding => k_is); (case l_winding => k_is); (case c_winding => k_is); (case k_winding => k_is); (case a_is_between => k_is); (case l_is_between => k_is); (case c_is_between => k_is); (case k_is_between => k_is); (case a_law_pen => k_is); (case l_law_pen => k_is); (case c_law_pen => k_is); (case k_law_pen => k_is); (case a_law_draw => k_is); (case l_law_draw => k_is); (case c_law_draw => k_is); (case k_law_draw => k_is); (case a_law_pick => k_is); (case l_law_pick => k_is); (case c_law_pick => k_is); (case k_law_pick => k_is); (case a_law_is_whole => k_is); (case l_law_is_whole => k_is); (case c_law_is_whole => k_is); (case k_law_is_whole => k_is); (case a_law_gcd => k_is); (case l_law_gcd => k_is); (case c_law_gcd => k_is); (case k_law_gcd => k_is); (case a_law_q => k_is); (case l_law_q => k_is); (case c_law_q => k_is); (case k_law_q => k_is); (case a_law_plus => k_is); (case l_law_plus => k_is); (case c_law_plus => k_is); (case k_law_plus => k_is); (case a_law_minus => k_is); (case l_law_minus => k_is); (case c_law_minus => k_is); (case k_law_minus => k_is); (case a_law_times => k_is); (case l_law_times => k_is); (case c_law_times => k_is); (case k_law_times => k_is); (case a_law_passed => k_is); (case l_law_passed => k_is); (case c_law_passed => k_is); (case k_law_passed => k_is); (case a_law_ratio => k_is); (case l_law_ratio => k_is); (case c_law_ratio => k_is); (case k_law_ratio => k_is); (case a_law_middle => k_is); (case l_law_middle => k_is); (case c_law_middle => k_is); (case k_law_middle => k_is); (case a_law_cross => k_is); (case l_law_cross => k_is); (case c_law_cross => k_is); (case k_law_cross => k_is); (case a_law_step => k_is); (case l_law_step => k_is); (case c_law_step => k_is); (case k_law_step => k_is); (case a_law_sides => k_is); (case l_law_sides => k_is); (case c_law_sides => k_is); (case k_law_sides => k_is); (case a_law_place => k_is); (case l_law_place => k_is); (case c_law_place => k_is); (case k_law_place => k_is); (case a_law_winding_of => k_is); (case l_law_winding_of => k_is); (case c_law_winding_of => k_is); (case k_law_winding_of => k_is); (case a_law_quarter => k_is); (case l_law_quarter => k_is); (case c_law_quarter => k_is); (case k_law_quarter => k_is); (case a_law_fault => k_is); (case l_law_fault => k_is); (case c_law_fault => k_is); (case k_law_fault => k_is); (case a_law => k_is); (case l_law => k_is); (case c_law => k_is); (case k_law => k_is); (case hn_ => k_is); (case ht_ => k_is); (case a_BadNumber => k_is); (case ga_BadNumber => k_is); (case gg_BadNumber => k_is); (case sb_BadNumber => k_is); (case hd_BadNumber => k_is); (case ca_BadNumber => k_is); (case mo_BadNumber => k_is); (case kp_BadNumber => k_is); (case xL_BadNumber => k_is); (case rb_BadNumber => decide +kernel); (case sa_BadNumber => k_is); (case ty_BadNumber => k_is); (case i_BadNumber => k_is); (case t_BadNumber => k_is); (case lI_BadNumber => k_is); (case cI_BadNumber => k_is); (case kI_BadNumber => k_is); (case n_BadNumber_what => k_is); (case n_BadNumber_number => k_is); (case a_BadRow => k_is); (case ga_BadRow => k_is); (case gg_BadRow => k_is); (case sb_BadRow => k_is); (case hd_BadRow => k_is); (case ca_BadRow => k_is); (case mo_BadRow => k_is); (case kp_BadRow => k_is); (case xL_BadRow => k_is); (case rb_BadRow => decide +kernel); (case sa_BadRow => k_is); (case ty_BadRow => k_is); (case i_BadRow => k_is); (case t_BadRow => k_is); (case lI_BadRow => k_is); (case cI_BadRow => k_is); (case kI_BadRow => k_is); (case n_BadRow_row => k_is); (case a_Shared => k_is); (case ga_Shared => k_is); (case gg_Shared => k_is); (case sb_Shared => k_is); (case hd_Shared => k_is); (case ca_Shared => k_is); (case mo_Shared => k_is); (case kp_Shared => k_is); (case xL_Shared => k_is); (case rb_Shared => decide +kernel); (case sa_Shared => k_is); (case ty_Shared => k_is); (case i_Shared => k_is); (case t_Shared => k_is); (case lI_Shared => k_is); (case cI_Shared => k_is); (case kI_Shared => k_is); (case n_Shared_plane => k_is); (case a_NoRest => k_is); (case ga_NoRest => k_is); (case gg_NoRest => k_is); (case sb_NoRest => k_is); (case hd_NoRest => k_is); (case ca_NoRest => k_is); (case mo_NoRest => k_is); (case kp_NoRest => k_is); (case xL_NoRest => k_is); (case rb_NoRest => decide +kernel); (case sa_NoRest => k_is); (case ty_NoRest => k_is); (case i_NoRest => k_is); (case t_NoRest => k_is); (case lI_NoRest => k_is); (case cI_NoRest => k_is); (case kI_NoRest => k_is); (case n_NoRest_place => k_is); (case a_NotRound => k_is); (case ga_NotRound => k_is); (case gg_NotRound => k_is); (case sb_NotRound => k_is); (case hd_NotRound => k_is); (case ca_NotRound => k_is); (case mo_NotRound => k_is); (case kp_NotRound => k_is); (case q_NotRound => k_exc); (case e_xBadRowBadNumber => kernel_rfl); (case e_xBadRowBadRow => kernel_rfl)
    case fin =>
      intro T h1
      have e : fa = GL.fA mg "law" := by
        have q := hmg.symm.trans T.law.g
        exact Value.ref.inj (Option.some.inj q)
      subst e
      have t1 := hT8 _ (List.mem_cons_self ..)
      exact LW.fin_law T h1 t1 (Option.isNone_iff_eq_none.mp (by kernel_rfl)) (by kernel_rfl)
