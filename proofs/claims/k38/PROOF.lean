import PyProof.Rows.All
import Wide.All
import OpenK.AllK
import Wide.FinOn
import HandS.ForMost
import HandS.ExcInit
import HandS.IsInst
import HandS.RaiseMore
import HandS.Wide
import HandS.Codes
import HandS.Steps
import HandS.Zip
import HandS.Evl
import HandS.ExcIs
import KE.KExcIs
import HandS.ExcValue
import HandS.Exc
import HandS.TryMany
import KE.KDictZip
import HandS.GenList
import HandS.List
import HandS.Conv
import HandS.More
import HandS.Sort
import HandS.Gcd
import HandS.ExcField
import HandS.Lambda
import HandS.CallLocal
import HandS.Style
import HandS.StrMore
import HandS.WordsExc
import HandS.WideBits
import HandS.TryOnly
import HandS.TupAny
import KE.KDictOf
import KE.KDictCopyH
import KE.KDictKeyed
import KE.KDictDisplayH
import HandS.EndTab
import KE.KNestM
import PySem.Challenge.RW_flowpapers_k38_whole_kinds_of_linear_flo
set_option Elab.async false
set_option linter.all false
set_option maxRecDepth 100000
set_option maxHeartbeats 4000000
/-! Defs that are run where no repr is under way: what repr and == of data ask. -/
namespace GL
open PySem PySem.Spec PyProof.Rows L2

/-- nothing is being shown -/
abbrev Quiet (A : Around) : Prop := A.guards = some []

/-- as FnOk, asked only where nothing is being shown -/
structure OkG (P : Program) (w : World) (K : PySem.W.Frag) (mg : Str → Option Value) (base : Heap) (CX : CXT) (k : Nat) (f : Addr) (fd : FuncData) (ps : List Str) (sp : Sp) : Prop where
  len : ∀ vs H Q E, sp vs H Q E → vs.length = ps.length
  run : ∀ (A : Around) (outer : List Env) (s : Shared) (H : Hp) (args : Args) (us : List Value) (vs : List V) (Q : VK) (E : XK), Room k A → Quiet A → Env0 P w K mg base A outer s H →
    BindsTo s fd args (ps.zip us) → Vals vs us → sp vs H Q E → codeAny (model P w) A (.call (.ref f) args) (CR CX outer P w H s Q E) s

section
variable {P : Program} {w : World} {K : PySem.W.Frag} {mg : Str → Option Value} {base : Heap} {CX : CXT} {k : Nat} {f : Addr} {fd : FuncData} {ps : List Str} {sp : Sp}
theorem OkG.of (F : FnOk P w K mg base CX k f fd ps sp) : OkG P w K mg base CX k f fd ps sp :=
  ⟨F.len, fun A outer s H args us vs Q E hr _ e0 hb r h => F.run A outer s H args us vs Q E hr e0 hb r h⟩
theorem OkG.mono {j : Nat} (F : OkG P w K mg base CX j f fd ps sp) (h : j ≤ k) : OkG P w K mg base CX k f fd ps sp :=
  ⟨F.len, fun A outer s H args us vs Q E hr hq e0 hb r z => F.run A outer s H args us vs Q E (hr.mono h) hq e0 hb r z⟩

/-- a def by its body, where nothing is being shown -/
theorem okG {x qual : Str} {st : Stmt} {N : List Str} (F : Fun K x qual st f fd) (S : FnScope N ps (defScope st)) (len : ∀ vs H Q E, sp vs H Q E → vs.length = ps.length)
    (body : ∀ (cdv : Value) (A : Around) (outer : List Env) (s : Shared) (H : Hp) (vs : List V) (Q : VK) (E : XK), Room k (A.deeper (envOfC qual (defScope st) s.heap.objs.size f cdv)) → Quiet A → sp vs H Q E →
      ∃ t, PSs (cxOf CX P w K mg base N qual (defScope st) f cdv A outer s H E) (defBody st) t ∧ t { nx := fun _ H' => Q .non H', rt := Q } (start N vs) H) :
    OkG P w K mg base CX (k + 1) f fd ps sp := by
  obtain ⟨oc, od, kV, doc, pm, an, cdv, ct, osl, rfl, lk, hcd⟩ := F.ex
  refine ⟨len, fun A outer s H args us vs Q E hr hq e0 hb r hsp => ?_⟩
  have enough := len _ _ _ _ hsp
  have inK : K.In s.heap := e0.mod.kin.keeps (fun b o e => (e0.bs b o e).1)
  have nl : s.heap.NoLimit := e0.mod.nolimit.keeps (fun b o e => (e0.bs b o e).1)
  refine codeAny_call_function hr.depth (inK _ _ lk) rfl S.co S.gen rfl (PySem.W.codeRec_of inK hcd) (hb _ _ _ _ ?_)
  refine wpAny_newFunctionEnv_cells S.kind ?_ (fun env he s1 x => ?_)
  · rintro ⟨n, v⟩ hy
    cases S.par n (List.of_mem_zip hy).1 with
    | inl q => exact .inl q
    | inr q => exact .inr ⟨q, PySem.W.cellsFrom_some _ _ _ (.inl q)⟩
  subst he
  refine ⟨nl.keeps x.toInCall.keep, codeAny_func ?_⟩
  obtain ⟨t, ht, hT⟩ := body cdv A outer s H vs Q E (hr.deeper _) hq hsp
  have I0 := inv_start (CX := CX) (E := E) S hr.hd e0 enough r x
  refine wpAny_mono (ht.run [] s1 (start N vs) H _ I0 hT) (fun fl s' hs => ?_) (fun e s' hs => hs)
  cases fl with
  | ret u =>
    obtain ⟨v, _, H', J, rv, q⟩ := hs
    exact ⟨v, H', J.os, J.bare, J.base, J.hok, rv, q⟩
  | next =>
    obtain ⟨_, H', J, q⟩ := hs
    exact ⟨V.non, H', J.os, J.bare, J.base, J.hok, rfl, q⟩
  | brk => obtain ⟨_, _, _, q⟩ := hs; exact q.elim
  | cont => obtain ⟨_, _, _, q⟩ := hs; exact q.elim
end

/-- .. from which no exception leaves -/
theorem okG0 {P : Program} {w : World} {K : PySem.W.Frag} {mg : Str → Option Value} {base : Heap} {k : Nat} {f : Addr} {fd : FuncData} {ps : List Str} {sp : Sp} {x qual : Str} {st : Stmt} {N : List Str} (F : Fun K x qual st f fd) (S : FnScope N ps (defScope st))
    (len : ∀ vs H Q E, sp vs H Q E → vs.length = ps.length)
    (body : ∀ (cdv : Value) (A : Around) (outer : List Env) (s : Shared) (H : Hp) (vs : List V) (Q : VK) (E : XK), Room k (A.deeper (envOfC qual (defScope st) s.heap.objs.size f cdv)) → Quiet A → sp vs H Q E →
      ∃ t, PSs (cxOf CX0 P w K mg base N qual (defScope st) f cdv A outer s H E).nox (defBody st) t ∧ t { nx := fun _ H' => Q .non H', rt := Q } (start N vs) H) : OkG P w K mg base CX0 (k + 1) f fd ps sp :=
  okG F S len fun cdv A outer s H vs Q E hr hq h => by
    obtain ⟨t, h1, h2⟩ := body cdv A outer s H vs Q E hr hq h
    exact ⟨t, h1.nox, h2⟩
section
variable {X : Cx} {CX : CXT} {k : Nat} {f : Addr} {fd : FuncData} {ps : List Str} {sp : Sp} {dvs : List V} {ds : List Value} {E : XK}
/-- a call of such a def -/
theorem run_fnG {pins : List (Addr × Obj)} {σ : L2.St} {H : Hp} {s : Shared} {Q : VK} {us : List Value} {vs : List V} (F : OkG X.prog X.w X.K X.mg X.base CX k f fd ps sp) (hr : Room k X.A) (hq : Quiet X.A)
    (hb : Binds X.K fd ps ds) (hd : Vals dvs ds) (hx : Passes CX X E) (I : Inv X pins σ H s) (r : Vals vs us) (h : sp (vs ++ dvs) H Q E) :
    wpAny (model X.prog X.w) X.A (call (.ref f) us) (EP X pins σ Q) X.xe s := by
  have both := r.append hd
  have hl : (us ++ ds).length = ps.length := both.length.symm.trans (F.len _ _ _ _ h)
  have run := F.run X.A X.stack s H ⟨us, []⟩ (us ++ ds) (vs ++ dvs) Q E hr hq I.env0 (hb s us I.kIn hl) both h
  refine wpAny_call (codeAny_mono run fun r s' z => ?_)
  cases r with
  | error e => exact hx pins σ H s e s' I z
  | ok fl => cases fl with
    | ret u => exact I.after z
    | next => exact z.elim
    | brk => exact z.elim
    | cont => exact z.elim
variable {x : Str} {p pos : Pos} {e : Expr} {es : List Expr} {t : TA}
theorem pe_callG (F : OkG X.prog X.w X.K X.mg X.base CX k f fd ps sp) (hr : Room k X.A) (hq : Quiet X.A) (hg : Gl X x) (hm : X.mg x = some (.ref f)) (hk : PySem.W.keepIn X.K (.ref f) = true)
    (hb : Binds X.K fd ps ds) (hd : Vals dvs ds) (hx : Passes CX X E) (ha : PA X (e :: es) t) (hdb : (x == ("__debug__" : Str)) = false := by decide)
    (he : starEach (e :: es) X.env = (false, eval e X.env) :: starEach es X.env := by rfl) (hpl : (backTo pos (starEach es X.env)).any (·.1) = false := by rfl) :
    PE X (.Call (.Name x p) (e :: es) [] pos) (tCall sp dvs E t) :=
  ⟨fun pins s σ H Q I h => wpAny_Call_Name_kw (ld_glob I hg hm (PySem.W.callWith_K (h₀ := X.base) I.ok.mod.kin hk
    (thn (ha.run pos pins s σ H _ I h) fun us s1 ⟨vs, H1, I1, r, q⟩ => ⟨I1.kIn, run_fnG F hr hq hb hd hx I1 r q⟩) he hpl) hdb)⟩
end

/-! ### repr -/
/-- repr of data that can be shown -/
def rRepr (K : PySem.W.Frag) : List V → Hp → VK → Prop := fun xs H Q => ∃ (v : V) (d : PyData), xs = [v] ∧ Dp K H v d ∧ d.showable = true ∧ d.hasDict = false ∧ d.depth ≤ 40 ∧ d.shown.length ≤ sizeLine ∧ Q (.str d.shown) H
theorem call_repr {X : Cx} (hq : Quiet X.A) (hu : X.A.units + 64 < cLine) : CallR X (.builtin "repr") (rRepr X.K) := by
  intro pins s σ H xs us Q I r h
  obtain ⟨v, d, rfl, hd, hs, hn, hp, hz, q⟩ := h
  cases r with
  | cons rv rn =>
    rename_i u us'
    cases rn
    obtain ⟨as, rd⟩ := Dp.reads I d v u hd rv
    cases hd with
    | non => cases rv; exact PySem.P.repr_of_none ⟨.str _, H, I.tok _, ⟨_, rfl⟩, q⟩
    | bl b => cases rv; exact PySem.P.repr_of_bool ⟨.str _, H, I.tok _, ⟨_, rfl⟩, q⟩
    | int i =>
      obtain ⟨t, rfl⟩ := rv
      exact PySem.P.repr_of_int (of_decide_eq_true hs) ⟨.str _, H, I.tok _, ⟨_, rfl⟩, q⟩
    | str x =>
      obtain ⟨t, rfl⟩ := rv
      exact PySem.P.repr_of_str ⟨.str _, H, I.tok _, ⟨_, rfl⟩, q⟩
    | lst a b =>
      cases rv
      exact repr_of_reads' rd hs (PyData.noDict_hsm hn) hq (by omega) (fun _ _ e => e) (fun h' u tk hk => ⟨.str _, H, I.kept hk, ⟨_, rfl⟩, q⟩) hz
    | tup a b =>
      cases rv
      exact repr_of_reads' rd hs (PyData.noDict_hsm hn) hq (by omega) (fun _ _ e => e) (fun h' u tk hk => ⟨.str _, H, I.kept hk, ⟨_, rfl⟩, q⟩) hz

/-! ### values at a heap that stays -/
section
variable {σ : L2.St} {H : Hp} {i : Nat} {v x y z : V} {ta tb te tv : TE} {b : Bool} {K : PySem.W.Frag} {D : Ends} {p : Addr} {kvs : List (Key × V)} {k : Key}
theorem v_I0 {g : Int → Int → V} {i j : Int} (ha : Val ta σ H (.int i)) (hb : Val tb σ H (.int j)) : Val (tOp (rI0 g) ta tb) σ H (g i j) := val_op ha hb fun Q q => ⟨i, j, rfl, rfl, q⟩
theorem v_I {C : Int → Int → Prop} {g : Int → Int → V} {i j : Int} (ha : Val ta σ H (.int i)) (hb : Val tb σ H (.int j)) (hc : C i j) : Val (tOp (rI C g) ta tb) σ H (g i j) := val_op ha hb fun Q q => ⟨i, j, rfl, rfl, hc, q⟩
theorem v_add {i j : Int} (ha : Val ta σ H (.int i)) (hb : Val tb σ H (.int j)) : Val (tOp (rI0 fun i j => .int (i + j)) ta tb) σ H (.int (i + j)) := v_I0 ha hb
theorem v_sub {i j : Int} (ha : Val ta σ H (.int i)) (hb : Val tb σ H (.int j)) : Val (tOp (rI0 fun i j => .int (i - j)) ta tb) σ H (.int (i - j)) := v_I0 ha hb
theorem v_mul {C : Int → Int → Prop} {i j : Int} (ha : Val ta σ H (.int i)) (hb : Val tb σ H (.int j)) (hc : C i j) : Val (tOp (rI C fun i j => .int (i * j)) ta tb) σ H (.int (i * j)) := v_I ha hb hc
theorem v_pow {i j : Int} (ha : Val ta σ H (.int i)) (hb : Val tb σ H (.int j)) (hc : 0 ≤ j ∧ j ≤ 1000000 ∧ i.natAbs < 2 ^ 64) : Val (tOp (rI CPow fun i j => .int (i ^ j.toNat)) ta tb) σ H (.int (i ^ j.toNat)) := v_I ha hb hc
theorem v_mod {C : Int → Int → Prop} {i j : Int} (ha : Val ta σ H (.int i)) (hb : Val tb σ H (.int j)) (hc : C i j) : Val (tOp (rI C fun i j => .int (i % j)) ta tb) σ H (.int (i % j)) := v_I ha hb hc
theorem v_div {C : Int → Int → Prop} {i j : Int} (ha : Val ta σ H (.int i)) (hb : Val tb σ H (.int j)) (hc : C i j) : Val (tOp (rI C fun i j => .int (i / j)) ta tb) σ H (.int (i / j)) := v_I ha hb hc
theorem v_fmod {C : Int → Int → Prop} {i j : Int} (ha : Val ta σ H (.int i)) (hb : Val tb σ H (.int j)) (hc : C i j) : Val (tOp (rI C fun i j => .int (i.fmod j)) ta tb) σ H (.int (i.fmod j)) := v_I ha hb hc
theorem v_fdiv {C : Int → Int → Prop} {i j : Int} (ha : Val ta σ H (.int i)) (hb : Val tb σ H (.int j)) (hc : C i j) : Val (tOp (rI C fun i j => .int (i.fdiv j)) ta tb) σ H (.int (i.fdiv j)) := v_I ha hb hc
theorem v_get (h : Val te σ H (.ref p)) (hp : H p = some (.dK kvs)) (hv : valV kvs k = some v) : Val (tDGet te (tC (kV k))) σ H v := fun Q q => h _ ⟨p, v, rfl, .inl ⟨kvs, k, .inl hp, rfl, hv.symm⟩, q⟩
theorem v_int1 {i : Int} (h : Val te σ H (.int i)) : Val (tCB (fun xs H Q => (∃ i, xs = [.int i] ∧ Q (.int i) H) ∨ ∃ k, xs = [.bl k] ∧ Q (.int (if k then 1 else 0)) H) (tCons te tNil)) σ H (.int i) :=
  fun Q q => h _ (.inl ⟨i, rfl, q⟩)
theorem v_len {xs : List V} (h : Val te σ H (.ref p)) (hx : SqL K H p xs ∨ SqT K H p xs) : Val (tCB (fun xs H Q => ∃ p ys, xs = [.ref p] ∧ (SqL K H p ys ∨ SqT K H p ys) ∧ Q (.int ys.length) H) (tCons te tNil)) σ H (.int (xs.length : Int)) :=
  fun Q q => h _ ⟨p, xs, rfl, hx, q⟩
theorem v_ixL {xs : List V} {n : Nat} (h : Val te σ H (.ref p)) (hi : Val tb σ H (.int (n : Int))) (hx : SqL K H p xs) (he : xs[n]? = some v) : Val (tOp (rIxL K) te tb) σ H v :=
  val_op h hi fun Q q => ⟨p, xs, n, v, rfl, rfl, hx, atI_nat he, q⟩
theorem v_ixT {xs : List V} {n : Nat} (h : Val te σ H (.ref p)) (hi : Val tb σ H (.int (n : Int))) (hx : SqT K H p xs) (he : xs[n]? = some v) : Val (tOp (rIxT K) te tb) σ H v :=
  val_op h hi fun Q q => ⟨p, xs, n, v, rfl, rfl, hx, atI_nat he, q⟩
/-- values of an argument list -/
def VA (ta : TA) (σ : L2.St) (H : Hp) (vs : List V) : Prop := ∀ Q : List V → Hp → Prop, Q vs H → ta σ H Q
theorem va_nil : VA tNil σ H [] := fun _ q => q
theorem va_cons {tr : TA} {vs : List V} (h : Val te σ H v) (hr : VA tr σ H vs) : VA (tCons te tr) σ H (v :: vs) := fun Q q => h _ (hr _ q)
theorem l_lst {ta : TA} {vs : List V} {Q : VK} (h : VA ta σ H vs) (hl : vs.length ≤ 100000) (q : ∀ p, H p = none → Q (.ref p) (upd H p (.lst vs))) : tLst ta σ H Q := h _ ⟨Nat.le_trans hl (by decide), q⟩
theorem l_tup {ta : TA} {vs : List V} {Q : VK} (h : VA ta σ H vs) (hl : vs.length ≤ 100000) (q : ∀ p, H p = none → Q (.ref p) (upd H p (.tup vs))) : tTup ta σ H Q := h _ ⟨Nat.le_trans hl (by decide), q⟩
theorem v_cb {r : List V → Hp → VK → Prop} {ta : TA} {vs : List V} {z : V} (h : VA ta σ H vs) (hr : ∀ Q : VK, Q z H → r vs H Q) : Val (tCB r ta) σ H z := fun Q q => h _ (hr Q q)
theorem c_call {sp : Sp} {E : XK} {ta : TA} {vs : List V} {Q : VK} (h : VA ta σ H vs) (q : sp vs H Q E) : tCall sp [] E ta σ H Q := h _ (by rw [List.append_nil]; exact q)
theorem s_put (h0 : Val te σ H (.ref p)) (h : Val tv σ H v) (hp : H p = some (.dK kvs)) (hl : kvs.length ≤ 100) (q : D.nx σ (upd H p (.dK (putK kvs k v)))) : sDPut te (tC (kV k)) tv D σ H :=
  h _ (h0 _ ⟨p, _, rfl, DPut.k hp (Nat.lt_of_le_of_lt hl (by decide)), q⟩)
theorem a_I {g : Int → Int → Bool} {i j : Int} (ha : Val ta σ H (.int i)) (hb : Val tb σ H (.int j)) : Ans (tTest (tOp (rI0 fun i j => .bl (g i j)) ta tb)) σ H (g i j) := ans_cmp ha hb fun Q q => ⟨i, j, rfl, rfl, q⟩
theorem st_if {t : TT} {t1 t2 : TS} (h : Ans t σ H b) (h1 : b = true → t1 D σ H) (h2 : b = false → t2 D σ H) : tIfS t t1 t2 D σ H := by
  cases b with
  | true => exact st_yes h (h1 rfl)
  | false => exact st_no h (h2 rfl)
end

/-- a walk over enumerate of a list -/
theorem for_enumL {K : PySem.W.Frag} {a : Addr} {xs : List V} {g : TG} {tb : TS} {D : Ends} {σ : L2.St} {H : Hp} (Pv : Nat → L2.St → Hp → Prop) (h0 : Pv 0 σ H) (hq : ∀ i σ H, Pv i σ H → SqL K H a xs)
    (hs : ∀ (i : Nat) (x : V) (T : Addr) (σ : L2.St) (H : Hp), xs[i]? = some x → Pv i σ H → H T = none → g (.ref T) σ (upd H T (.tup [.int (i : Nat), x])) fun σ2 H2 => tb { D with nx := Pv (i + 1), ct := Pv (i + 1), bk := D.nx } σ2 H2)
    (hd : ∀ σ H, Pv xs.length σ H → D.nx σ H) :
    ∃ W : Nat → Nat → L2.St → Hp → Prop, (∃ m, W 0 m σ H) ∧ ∀ i m σ H, W i m σ H →
      ((Ite K a).stop i H ∧ D.nx σ H) ∨ ((Ite K a).go i H ∧ ∃ N : L2.St → Hp → Prop, (∀ σ' H', N σ' H' → ∃ m', m' < m ∧ W (i + 1) m' σ' H') ∧ ∀ v H', (Ite K a).yld i H v H' → g v σ H' fun σ2 H2 => tb { D with nx := N, ct := N, bk := D.nx } σ2 H2) := by
  refine ⟨fun i m σ H => m = xs.length - i ∧ i ≤ xs.length ∧ Pv i σ H, ⟨_, rfl, Nat.zero_le _, h0⟩, ?_⟩
  rintro i m σ H ⟨rfl, hi, p⟩
  have q := hq i σ H p
  rcases Nat.lt_or_ge i xs.length with lt | ge
  · refine .inr ⟨⟨xs, xs[i], q, List.getElem?_eq_getElem lt⟩, Pv (i + 1), fun σ' H' p' => ⟨xs.length - (i + 1), by omega, rfl, lt, p'⟩, ?_⟩
    rintro v H' ⟨T, x, rfl, hT, rfl, f⟩
    exact hs i x T σ H (f xs q) p hT
  · obtain rfl : i = xs.length := by omega
    exact .inl ⟨⟨xs, q, Nat.le_refl _⟩, hd σ H p⟩
theorem Same.new' {H : Hp} {p : Addr} {o : HO} (h : H p = none) : Same H (upd H p o) := fun b u e => by
  rw [upd_ne (ne_of_none e h)]
  exact e
/-- a sum of a list and a list of written items -/
theorem l_catL {σ : L2.St} {H : Hp} {ta : TE} {tb : TA} {Q : VK} {l : Addr} {xs ys : List V} (ha : Val ta σ H (.ref l)) (hl : H l = some (.lst xs)) (hb : VA tb σ H ys) (h1 : xs.length ≤ 1000) (h2 : ys.length ≤ 1000)
    (k : ∀ p H', Same H H' → H' p = some (.lst (xs ++ ys)) → Q (.ref p) H') : tOp rCat ta (tLst tb) σ H Q := by
  refine ha _ (hb _ ⟨Nat.le_trans h2 (by decide), fun b nb => ⟨l, b, xs, ys, rfl, rfl, ?_, upd_same, Nat.le_trans (Nat.add_le_add h1 h2) (by decide), fun p np => k p _ ?_ upd_same⟩⟩)
  · rw [upd_ne (ne_of_none hl nb)]; exact hl
  · exact (Same.new' nb).trans (Same.new' np)
section
variable {σ : L2.St} {H : Hp} {i : Nat} {ta : TE} {tb : TA} {D : Ends} {l : Addr} {xs ys : List V}
theorem s_lst (h : VA tb σ H ys) (hl : ys.length ≤ 100000) (q : ∀ p H', Same H H' → H' p = some (.lst ys) → D.nx (σ.set i (some (.ref p))) H') : tAsg (tLst tb) (gName i) D σ H := h _ ⟨Nat.le_trans hl (by decide), fun p hp => q p _ (Same.new' hp) upd_same⟩
theorem s_catL (ha : Val ta σ H (.ref l)) (hl : H l = some (.lst xs)) (hb : VA tb σ H ys) (h1 : xs.length ≤ 1000) (h2 : ys.length ≤ 1000)
    (k : ∀ p H', Same H H' → H' p = some (.lst (xs ++ ys)) → D.nx (σ.set i (some (.ref p))) H') : tAsg (tOp rCat ta (tLst tb)) (gName i) D σ H := l_catL (Q := fun v H' => gName i v σ H' D.nx) ha hl hb h1 h2 k
theorem r_catL (ha : Val ta σ H (.ref l)) (hl : H l = some (.lst xs)) (hb : VA tb σ H ys) (h1 : xs.length ≤ 1000) (h2 : ys.length ≤ 1000)
    (k : ∀ p H', Same H H' → H' p = some (.lst (xs ++ ys)) → D.rt (.ref p) H') : tRet (tOp rCat ta (tLst tb)) D σ H := l_catL (Q := D.rt) ha hl hb h1 h2 k
end
/-! ### statements in a row: what follows stays as it is written -/
section
variable {σ : L2.St} {H : Hp} {i : Nat} {ta te tv : TE} {tb : TA} {D : Ends} {l p : Addr} {xs ys : List V} {tz t1 t2 : TS} {v : V} {kvs : List (Key × V)} {k : Key} {t : TT} {b : Bool}
theorem q_lst (h : VA tb σ H ys) (hl : ys.length ≤ 100000) (q : ∀ p H', Same H H' → H' p = some (.lst ys) → tz D (σ.set i (some (.ref p))) H') : tSeq (tAsg (tLst tb) (gName i)) tz D σ H := s_lst (D := { D with nx := tz D }) h hl q
theorem q_catL (ha : Val ta σ H (.ref l)) (hl : H l = some (.lst xs)) (hb : VA tb σ H ys) (h1 : xs.length ≤ 1000) (h2 : ys.length ≤ 1000)
    (q : ∀ p H', Same H H' → H' p = some (.lst (xs ++ ys)) → tz D (σ.set i (some (.ref p))) H') : tSeq (tAsg (tOp rCat ta (tLst tb)) (gName i)) tz D σ H := s_catL (D := { D with nx := tz D }) ha hl hb h1 h2 q
theorem q_set (h : Val te σ H v) (q : tz D (σ.set i (some v)) H) : tSeq (tAsg te (gName i)) tz D σ H := h _ q
theorem q_put (h0 : Val te σ H (.ref p)) (h : Val tv σ H v) (hp : H p = some (.dK kvs)) (hl : kvs.length ≤ 100) (q : tz D σ (upd H p (.dK (putK kvs k v)))) : tSeq (sDPut te (tC (kV k)) tv) tz D σ H := s_put (D := { D with nx := tz D }) h0 h hp hl q
/-- any expression that is stored: its own reading, then what follows -/
theorem q_asg (h : te σ H fun v H' => tz D (σ.set i (some v)) H') : tSeq (tAsg te (gName i)) tz D σ H := h
theorem q_if (h : Ans t σ H b) (h1 : b = true → t1 { D with nx := tz D } σ H) (h2 : b = false → t2 { D with nx := tz D } σ H) : tSeq (tIfS t t1 t2) tz D σ H := st_if (D := { D with nx := tz D }) h h1 h2
/-- an if without else -/
theorem q_when (h : Ans t σ H b) (h1 : b = true → t1 { D with nx := tz D } σ H) (h2 : b = false → tz D σ H) : tSeq (tIfS t t1 tNext) tz D σ H := st_if (D := { D with nx := tz D }) h h1 h2
theorem q_unless (h : Ans t σ H false) (q : tz D σ H) : tSeq (tIfS t t1 tNext) tz D σ H := st_no (D := { D with nx := tz D }) h q
theorem r_ret (h : te σ H D.rt) : tRet te D σ H := h
end
/-! ### expressions that make things -/
def EM (te : TE) (σ : L2.St) (H : Hp) (P : V → Hp → Prop) : Prop := ∀ Q : VK, (∀ v H', Same H H' → P v H' → Q v H') → te σ H Q
def VM (tb : TA) (σ : L2.St) (H : Hp) (R : List V → Hp → Prop) : Prop := ∀ Q : List V → Hp → Prop, (∀ vs H', Same H H' → R vs H' → Q vs H') → tb σ H Q
def Stays {α : Type} (R : α → Hp → Prop) : Prop := ∀ x H1 H2, Same H1 H2 → R x H1 → R x H2
/-- a row whose items are of one kind each, by their places from k on -/
def Run (P : Nat → V → Hp → Prop) : Nat → List V → Hp → Prop
  | _, [], _ => True
  | k, v :: r, H => P k v H ∧ Run P (k + 1) r H
theorem Run.keep {P : Nat → V → Hp → Prop} (st : ∀ k, Stays (P k)) : ∀ {k : Nat} {xs : List V} {H1 H2 : Hp}, Same H1 H2 → Run P k xs H1 → Run P k xs H2
  | _, [], _, _, _, _ => trivial
  | _, _ :: _, _, _, s, ⟨a, b⟩ => ⟨st _ _ _ _ s a, Run.keep st s b⟩
theorem Run.app {P : Nat → V → Hp → Prop} {H : Hp} : ∀ {k : Nat} {xs ys : List V}, Run P k xs H → Run P (k + xs.length) ys H → Run P k (xs ++ ys) H
  | _, [], _, _, b => b
  | k, v :: r, ys, ⟨a, c⟩, b => ⟨a, Run.app c (by rw [List.length_cons] at b; rw [show k + 1 + r.length = k + (r.length + 1) by omega]; exact b)⟩
theorem Run.get {P : Nat → V → Hp → Prop} {H : Hp} : ∀ {k : Nat} {xs : List V} {i : Nat} {v : V}, Run P k xs H → xs[i]? = some v → P (k + i) v H
  | _, [], _, _, _, e => by simp at e
  | _, _ :: _, 0, _, ⟨a, _⟩, e => by simp at e; subst e; exact a
  | k, _ :: r, i + 1, v, ⟨_, b⟩, e => by
    have q := Run.get (i := i) (v := v) b (by simpa using e)
    rw [show k + (i + 1) = k + 1 + i by omega]
    exact q
/-- the row's kinds, and how many -/
def Rows (P : Nat → V → Hp → Prop) (k n : Nat) (xs : List V) (H : Hp) : Prop := Run P k xs H ∧ xs.length = n
theorem Rows.stays {P : Nat → V → Hp → Prop} (st : ∀ k, Stays (P k)) {k n : Nat} : Stays (Rows P k n) := fun _ _ _ s h => ⟨Run.keep st s h.1, h.2⟩
section
variable {σ : L2.St} {H : Hp} {i : Nat} {ta te : TE} {tb tr : TA} {D : Ends} {l p : Addr} {xs ys ws : List V} {tz : TS} {P : Nat → V → Hp → Prop} {k n : Nat} {R : List V → Hp → Prop}
theorem vm_nil : VM tNil σ H (Rows P k 0) := fun Q q => q [] H (Same.refl H) ⟨trivial, rfl⟩
theorem vm_cons (st : ∀ k, Stays (P k)) (h : EM te σ H (P k)) (hr : ∀ H1, Same H H1 → VM tr σ H1 (Rows P (k + 1) n)) : VM (tCons te tr) σ H (Rows P k (n + 1)) := fun Q q =>
  h _ fun v H1 s1 p1 => hr H1 s1 _ fun r H2 s2 ⟨r2, e2⟩ => q (v :: r) H2 (s1.trans s2) ⟨⟨st k v H1 H2 s2 p1, r2⟩, by rw [List.length_cons, e2]⟩
theorem em_lst (h : VA tb σ H ws) (hl : ws.length ≤ 100000) : EM (tLst tb) σ H (fun v H' => ∃ q, v = .ref q ∧ H' q = some (.lst ws)) := fun Q q =>
  h _ ⟨Nat.le_trans hl (by decide), fun a ha => q _ _ (Same.new' ha) ⟨a, rfl, upd_same⟩⟩
theorem q_lstM (st : Stays R) (h : VM tb σ H R) (hl : ∀ vs H', R vs H' → vs.length ≤ 1000) (q : ∀ p vs H', Same H H' → H' p = some (.lst vs) → R vs H' → tz D (σ.set i (some (.ref p))) H') : tSeq (tAsg (tLst tb) (gName i)) tz D σ H :=
  h _ fun vs H1 s1 r1 => ⟨Nat.le_trans (hl vs H1 r1) (by decide), fun a ha => q a vs _ (s1.trans (Same.new' ha)) upd_same (st _ _ _ (Same.new' ha) r1)⟩
theorem l_catM {Q : VK} (st : Stays R) (ha : Val ta σ H (.ref l)) (hl : H l = some (.lst xs)) (h1 : xs.length ≤ 1000) (h : VM tb σ H R) (h2 : ∀ vs H', R vs H' → vs.length ≤ 1000)
    (q : ∀ p vs H', Same H H' → H' p = some (.lst (xs ++ vs)) → R vs H' → Q (.ref p) H') : tOp rCat ta (tLst tb) σ H Q :=
  ha _ (h _ fun vs H1 s1 r1 => ⟨Nat.le_trans (h2 vs H1 r1) (by decide), fun b nb => ⟨l, b, xs, vs, rfl, rfl, (Same.new' nb) _ _ (s1 _ _ hl), upd_same, Nat.le_trans (Nat.add_le_add h1 (h2 vs H1 r1)) (by decide),
    fun p np => q p vs _ (s1.trans ((Same.new' nb).trans (Same.new' np))) upd_same (st _ _ _ ((Same.new' nb).trans (Same.new' np)) r1)⟩⟩)
theorem q_catM (st : Stays R) (ha : Val ta σ H (.ref l)) (hl : H l = some (.lst xs)) (h1 : xs.length ≤ 1000) (h : VM tb σ H R) (h2 : ∀ vs H', R vs H' → vs.length ≤ 1000)
    (q : ∀ p vs H', Same H H' → H' p = some (.lst (xs ++ vs)) → R vs H' → tz D (σ.set i (some (.ref p))) H') : tSeq (tAsg (tOp rCat ta (tLst tb)) (gName i)) tz D σ H :=
  l_catM (Q := fun v H' => gName i v σ H' (tz D)) st ha hl h1 h h2 q
theorem r_catM (st : Stays R) (ha : Val ta σ H (.ref l)) (hl : H l = some (.lst xs)) (h1 : xs.length ≤ 1000) (h : VM tb σ H R) (h2 : ∀ vs H', R vs H' → vs.length ≤ 1000)
    (q : ∀ p vs H', Same H H' → H' p = some (.lst (xs ++ vs)) → R vs H' → D.rt (.ref p) H') : tRet (tOp rCat ta (tLst tb)) D σ H := l_catM (Q := D.rt) st ha hl h1 h h2 q
end
/-! ### walks, what follows stays as it is written -/
section
variable {K : PySem.W.Frag} {σ : L2.St} {H : Hp} {g : TG} {ta : TA} {te : TE} {tb tz : TS} {D : Ends} {a b : Addr} {xs ys : List V}
theorem q_forR1 {n : Nat} (h : VA ta σ H [.int (n : Int)]) (hn : n ≤ 100000) (Pv : Nat → L2.St → Hp → Prop) (h0 : Pv 0 σ H)
    (hs : ∀ i σ H, i < n → Pv i σ H → g (.int (i : Int)) σ H fun σ2 H2 => tb { D with nx := Pv (i + 1), ct := Pv (i + 1), bk := tz D } σ2 H2) (hd : ∀ σ H, Pv n σ H → tz D σ H) : tSeq (tFor (iRng1 ta) g tb) tz D σ H :=
  h _ ⟨(n : Int), rfl, by omega, by omega, for_range (lo := 0) (n := (n : Int).toNat) (D := { D with nx := tz D }) Pv h0 (fun i σ H hi p => by rw [Int.zero_add]; exact hs i σ H (by omega) p) (fun σ H p => hd σ H (by rw [Int.toNat_natCast] at p; exact p))⟩
theorem q_forL (h : Val te σ H (.ref a)) (hx : SqL K H a xs) (Pv : Nat → L2.St → Hp → Prop) (h0 : Pv 0 σ H) (hl : ∀ i σ H, i ≤ xs.length → Pv i σ H → SqL K H a xs)
    (hs : ∀ i x σ H, xs[i]? = some x → Pv i σ H → g x σ H fun σ2 H2 => tb { D with nx := Pv (i + 1), ct := Pv (i + 1), bk := tz D } σ2 H2) (hd : ∀ σ H, Pv xs.length σ H → tz D σ H) : tSeq (tFor (iList K te) g tb) tz D σ H :=
  h _ ⟨a, rfl, ⟨_, hx⟩, for_list (K := K) (a := a) (xs := xs) (D := { D with nx := tz D }) Pv h0 hl hs hd⟩
theorem q_forE (h : VA ta σ H [.ref a]) (hx : SqL K H a xs) (Pv : Nat → L2.St → Hp → Prop) (h0 : Pv 0 σ H) (hq : ∀ i σ H, Pv i σ H → SqL K H a xs)
    (hs : ∀ (i : Nat) (x : V) (T : Addr) (σ : L2.St) (H : Hp), xs[i]? = some x → Pv i σ H → H T = none → g (.ref T) σ (upd H T (.tup [.int (i : Nat), x])) fun σ2 H2 => tb { D with nx := Pv (i + 1), ct := Pv (i + 1), bk := tz D } σ2 H2)
    (hd : ∀ σ H, Pv xs.length σ H → tz D σ H) : tSeq (tFor (iEnum K ta) g tb) tz D σ H :=
  h _ ⟨a, xs, rfl, hx, for_enumL (D := { D with nx := tz D }) Pv h0 hq hs hd⟩
/-- two names from a pair -/
theorem g_two {i j : Nat} {x y : V} {T : Addr} {K' : L2.St → Hp → Prop} (hT : SqT K H T [x, y]) (q : K' ((σ.set i (some x)).set j (some y)) H) : gTup K 2 (gCons (gName i) (gCons (gName j) gNil)) (.ref T) σ H K' :=
  ⟨T, _, rfl, hT, rfl, x, _, rfl, y, _, rfl, rfl, q⟩
end
section
variable {K : PySem.W.Frag} {σ : L2.St} {H : Hp} {t1 te to : TE} {tb : TA} {D : Ends} {l : Addr} {xs : List V} {v x : V} {i : Nat} {R : List V → Hp → Prop}
theorem g_name {K' : L2.St → Hp → Prop} (q : K' (σ.set i (some v)) H) : gName i v σ H K' := q
/-- xs.append(e) -/
theorem s_app (h : Val to σ H (.ref l)) (hl : H l = some (.lst xs)) (he : te σ H fun v H1 => ∃ ys, H1 l = some (.lst ys) ∧ ys.length ≤ 1000 ∧ D.nx σ (upd H1 l (.lst (ys ++ [v])))) (mono : ∀ {R S : VK}, (∀ v H', R v H' → S v H') → te σ H R → te σ H S) :
    tDrop (tBM K "list" rAppend to (tCons te tNil)) D σ H :=
  h _ ⟨.inl ⟨rfl, _, SqL.of hl⟩, mono (fun v H1 ⟨ys, h1, h2, q⟩ => ⟨l, ys, v, rfl, rfl, h1, Nat.lt_of_le_of_lt h2 (by decide), q⟩) he⟩
theorem s_appC (h : Val to σ H (.ref l)) (hl : H l = some (.lst xs)) (he : te σ H fun v H1 => rAppend (.ref l) [v] H1 fun _ H2 => D.nx σ H2) : tDrop (tBM K "list" rAppend to (tCons te tNil)) D σ H := h _ ⟨.inl ⟨rfl, _, SqL.of hl⟩, he⟩
/-- f(x, [e, ..]) -/
theorem c_callL {sp : Sp} {E : XK} {Q : VK} (h1 : Val t1 σ H x) (st : Stays R) (h2 : VM tb σ H R) (hl : ∀ vs H', R vs H' → vs.length ≤ 1000) (q : ∀ l vs H', Same H H' → H' l = some (.lst vs) → R vs H' → sp [x, .ref l] H' Q E) :
    tCall sp [] E (tCons t1 (tCons (tLst tb) tNil)) σ H Q :=
  h1 _ (h2 _ fun vs H1 s1 r1 => ⟨Nat.le_trans (hl vs H1 r1) (by decide), fun a ha => q a vs _ (s1.trans (Same.new' ha)) upd_same (st _ _ _ (Same.new' ha) r1)⟩)
theorem v_neg {n : Int} (h : Val te σ H (.int n)) : Val (tUn (rU fun i => .int (-i)) te) σ H (.int (-n)) := fun Q q => h _ ⟨n, rfl, q⟩
theorem v_str {n : Int} (h : Val te σ H (.int n)) (hz : n.natAbs.log2 < 1920) : Val (tCB (fun xs H Q => ∃ i, xs = [.int i] ∧ i.natAbs.log2 < 1920 ∧ Q (.str (toString i)) H) (tCons te tNil)) σ H (.str (toString n)) := fun Q q => h _ ⟨n, rfl, hz, q⟩
theorem v_cats {a b : Str} (h1 : Val t1 σ H (.str a)) (h2 : Val te σ H (.str b)) (hz : a.length + b.length ≤ 100000) : Val (tOp (fun x y H Q => ∃ i j, x = .str i ∧ y = .str j ∧ i.length + j.length ≤ sizeLine ∧ Q (.str (i ++ j)) H) t1 te) σ H (.str (a ++ b)) :=
  fun Q q => h1 _ (h2 _ ⟨a, b, rfl, rfl, Nat.le_trans hz (by decide), q⟩)
theorem em_tup {ws : List V} {P : V → Hp → Prop} (h : VA tb σ H ws) (hl : ws.length ≤ 100000) (q : ∀ a H', H' a = some (.tup ws) → P (.ref a) H') : EM (tTup tb) σ H P := fun Q k => l_tup h hl fun a ha => k _ _ (Same.new' ha) (q a _ upd_same)
theorem em_lst' {ws : List V} {P : V → Hp → Prop} (h : VA tb σ H ws) (hl : ws.length ≤ 100000) (q : ∀ a H', H' a = some (.lst ws) → P (.ref a) H') : EM (tLst tb) σ H P := fun Q k => l_lst h hl fun a ha => k _ _ (Same.new' ha) (q a _ upd_same)
/-- {k: e} -/
theorem em_dic1 {key : Key} {P : V → Hp → Prop} (h : ∀ H1, Val te σ H1 v) (q : ∀ a H', H' a = some (.dK [(key, v)]) → P (.ref a) H') : EM (tDisp [(tC (kV key), te)]) σ H P := fun Q k a ha =>
  h _ _ ⟨upd_same, [(key, v)], rfl, by show 1 ≤ 15; decide, k _ _ (by
    have e : mergeK [] [(key, v)] = [(key, v)] := rfl
    rw [e, upd_upd]
    exact Same.new' ha) (q a _ upd_same)⟩
end
section
variable {K : PySem.W.Frag} {σ : L2.St} {H : Hp} {t1 t2 te to : TE} {ta tb : TA} {tu tw tz : TS} {D : Ends} {a b l : Addr} {xs ys : List V} {x y v w : V} {i j : Nat} {r : R2} {Q : VK}
theorem q_lst0 (h : VA tb σ H ys) (hl : ys.length ≤ 100000) (q : ∀ p, H p = none → tz D (σ.set i (some (.ref p))) (upd H p (.lst ys))) : tSeq (tAsg (tLst tb) (gName i)) tz D σ H := h _ ⟨Nat.le_trans hl (by decide), q⟩
theorem Val.is (h : Val te σ H v) (e : v = w) : Val te σ H w := e ▸ h
/-- an if over a comparison, part by part -/
theorem st_cmp (h : t1 σ H fun x H1 => t2 σ H1 fun y H2 => r x y H2 fun z H3 => ∃ b, z = .bl b ∧ if b = true then tu D σ H3 else tw D σ H3) : tIfS (tTest (tOp r t1 t2)) tu tw D σ H := h
theorem q_cmp (h : t1 σ H fun x H1 => t2 σ H1 fun y H2 => r x y H2 fun z H3 => ∃ b, z = .bl b ∧ if b = true then tu { D with nx := tz D } σ H3 else tw { D with nx := tz D } σ H3) : tSeq (tIfS (tTest (tOp r t1 t2)) tu tw) tz D σ H := h
theorem ta_two {Q : List V → Hp → Prop} (h : t1 σ H fun v H1 => t2 σ H1 fun w H2 => Q [v, w] H2) : tCons t1 (tCons t2 tNil) σ H Q := h
theorem cb_one {r : List V → Hp → VK → Prop} (h : te σ H fun v H1 => r [v] H1 Q) : tCB r (tCons te tNil) σ H Q := h
theorem l_slHi (h : Val te σ H (.ref a)) (hx : SqL K H a xs) {n : Int} (hi : Val t1 σ H (.int n)) (q : ∀ p H', Same H H' → H' p = some (.lst (cutV xs none (some n))) → Q (.ref p) H') : tSl (rSlL K) te tNoPart (tPart t1) σ H Q :=
  h _ (hi _ ⟨n, rfl, a, xs, rfl, hx, fun p hp => q p _ (Same.new' hp) upd_same⟩)
theorem v_eq (h1 : Val t1 σ H x) (h2 : Val t2 σ H y) (hs : scal x y = true) : Val (tOp rEq t1 t2) σ H (.bl (decide (x = y))) := val_op h1 h2 fun Q q => ⟨hs, q⟩
/-- [e for x in range(n)] -/
theorem l_lcR1 {n : Nat} {vs : List Nat} (h : VA ta σ H [.int (n : Int)]) (hn : n ≤ 10000) (f : Nat → V) (hw : ∀ x, wipe ((wipe σ vs).set j (some x)) vs = wipe σ vs)
    (hv : ∀ i H1, i < n → Same H H1 → Val te ((wipe σ vs).set j (some (.int (i : Int)))) H1 (f i)) (q : ∀ p H', Same H H' → H' p = some (.lst ((List.range n).map f)) → Q (.ref p) H') : tLc (iRng1 ta) (gName j) tYes te vs σ H Q := by
  refine h _ ⟨(n : Int), rfl, by omega, by omega, fun D hD => lc_range (lo := 0) (n := (n : Int).toNat) (fun i H' => Same H H' ∧ H' D = some (.lst ((List.range i).map f)) ∧ H D = none) ⟨Same.new' hD, upd_same, hD⟩ (fun i H1 hi ⟨s, e, nD⟩ => ?_) (fun H1 ⟨s, e, _⟩ => q D H1 s (by rw [Int.toNat_natCast] at e; exact e))⟩
  refine g_name ⟨hw _, ?_⟩
  show (if true = true then te _ _ _ else (Same H H1 ∧ H1 D = some (.lst ((List.range (i + 1)).map f)) ∧ H D = none))
  rw [if_pos rfl]
  have hv0 : Val te ((wipe σ vs).set j (some (.int (0 + (i : Int))))) H1 (f i) := by
    rw [Int.zero_add]
    exact hv i H1 (by omega) s
  refine hv0 _ ⟨_, e, by rw [List.length_map, List.length_range]; exact Nat.lt_of_lt_of_le (show i < 10000 by omega) (by decide), ?_, ?_, nD⟩
  · intro b o z
    rw [upd_ne (ne_of_none z nD)]
    exact s b o z
  · rw [upd_same, List.range_succ, List.map_append]
    rfl
/-- for a, b in zip(xs, ys) -/
theorem q_forZ {g : TG} (h : ta σ H fun vs H1 => ∃ a b xs ys, vs = [.ref a, .ref b] ∧ SqL K H1 a xs ∧ SqL K H1 b ys ∧ xs.length = ys.length ∧ ∃ Pv : Nat → L2.St → Hp → Prop, Pv 0 σ H1 ∧ (∀ i σ H, Pv i σ H → SqL K H a xs ∧ SqL K H b ys) ∧
      (∀ (i : Nat) (x y : V) (T : Addr) (σ : L2.St) (H : Hp), xs[i]? = some x → ys[i]? = some y → Pv i σ H → H T = none → g (.ref T) σ (upd H T (.tup [x, y])) fun σ2 H2 => tu { D with nx := Pv (i + 1), ct := Pv (i + 1), bk := tz D } σ2 H2) ∧ ∀ σ H, Pv xs.length σ H → tz D σ H)
    (mono : ∀ {R S : List V → Hp → Prop}, (∀ v H', R v H' → S v H') → ta σ H R → ta σ H S) : tSeq (tFor (iZip K ta) g tu) tz D σ H :=
  mono (fun vs H1 ⟨a, b, xs, ys, e, h1, h2, hl, Pv, p0, hq, hs, hd⟩ => ⟨a, b, xs, ys, e, h1, h2, RZ.for_zipL (D := { D with nx := tz D }) hl Pv p0 hq hs hd⟩) h
theorem zipW {g : TG} (hl : xs.length = ys.length) (Pv : Nat → L2.St → Hp → Prop) (p0 : Pv 0 σ H) (hq : ∀ i σ H, Pv i σ H → SqL K H a xs ∧ SqL K H b ys)
    (hs : ∀ (i : Nat) (x y : V) (T : Addr) (σ : L2.St) (H : Hp), xs[i]? = some x → ys[i]? = some y → Pv i σ H → H T = none → g (.ref T) σ (upd H T (.tup [x, y])) fun σ2 H2 => tu { D with nx := Pv (i + 1), ct := Pv (i + 1), bk := tz D } σ2 H2) (hd : ∀ σ H, Pv xs.length σ H → tz D σ H) :
    ∃ W : Nat → Nat → L2.St → Hp → Prop, (∃ m, W 0 m σ H) ∧ ∀ i m σ H, W i m σ H →
      ((Itz K a b).stop i H ∧ tz D σ H) ∨ ((Itz K a b).go i H ∧ ∃ N : L2.St → Hp → Prop, (∀ σ' H', N σ' H' → ∃ m', m' < m ∧ W (i + 1) m' σ' H') ∧ ∀ v H', (Itz K a b).yld i H v H' → g v σ H' fun σ2 H2 => tu { D with nx := N, ct := N, bk := tz D } σ2 H2) :=
  RZ.for_zipL (D := { D with nx := tz D }) hl Pv p0 hq hs hd
/-- .. where the row of both is known -/
theorem q_forZ' {g : TG} (h : ta σ H fun vs H1 => ∃ a b xs ys, vs = [.ref a, .ref b] ∧ SqL K H1 a xs ∧ SqL K H1 b ys ∧ ∃ W : Nat → Nat → L2.St → Hp → Prop, (∃ m, W 0 m σ H1) ∧ ∀ i m σ H, W i m σ H →
      ((Itz K a b).stop i H ∧ tz D σ H) ∨ ((Itz K a b).go i H ∧ ∃ N : L2.St → Hp → Prop, (∀ σ' H', N σ' H' → ∃ m', m' < m ∧ W (i + 1) m' σ' H') ∧ ∀ v H', (Itz K a b).yld i H v H' → g v σ H' fun σ2 H2 => tu { D with nx := N, ct := N, bk := tz D } σ2 H2)) : tSeq (tFor (iZip K ta) g tu) tz D σ H := h
end
/-! ### what the top has written, by names -/
@[irreducible] def fA (mg : Str → Option Value) (x : Str) : Addr := match mg x with
  | some (.ref a) => a
  | _ => 0
@[irreducible] def fDat (K : PySem.W.Frag) (f : Addr) : FuncData := match K.lookup f with
  | some ⟨_, _, .func fd, _⟩ => fd
  | _ => default
/-- the def x of the text -/
structure Df (K : PySem.W.Frag) (mg : Str → Option Value) (x : Str) (st : Stmt) (ps : List Str) : Prop where
  g : mg x = some (.ref (fA mg x))
  F : Fun K x x st (fA mg x) (fDat K (fA mg x))
  b : Binds K (fDat K (fA mg x)) ps []
theorem fA_of {mg : Str → Option Value} {x : Str} {a : Addr} (h : mg x = some (.ref a)) : fA mg x = a := by
  unfold fA
  rw [h]
theorem fDat_of {K : PySem.W.Frag} {f : Addr} {oc : Value} {od : Option Addr} {fd : FuncData} {sl : Array (Option Value)} (h : K.lookup f = some ⟨oc, od, .func fd, sl⟩) : fDat K f = fd := by
  unfold fDat
  rw [h]
theorem Df.mk' {K : PySem.W.Frag} {mg : Str → Option Value} {x : Str} {st : Stmt} {ps : List Str} {h : Heap} {f : Addr} {oc : Value} {od an : Option Addr} {osl : Array (Option Value)} {kV doc pm cdv ct : Value} (X : K.In h) (G : h.Ns mainGlobals mg)
    (a : PySem.W.nsIn K mainGlobals x = some (some (.ref f))) (l : K.lookup f = some ⟨oc, od, .func (PySem.W.fnOf x x (defArgs st) (defBody st) (defScope st) .none kV doc pm an cdv ct), osl⟩)
    (c : PySem.W.codeIn K cdv x = true) (k : PySem.W.keepIn K (.ref f) = true)
    (bi : ∀ (kV doc pm : Value) (an : Option Addr) (cdv ct : Value) (us : List Value), us.length = ps.length → bindArgs (PySem.W.fnOf x x (defArgs st) (defBody st) (defScope st) .none kV doc pm an cdv ct) ⟨us, []⟩ = pure (ps.zip us)) : Df K mg x st ps := by
  have e := PySem.W.mg_of X G a
  have F := fun_mk (st := st) l c k
  have e1 := fA_of e
  have e2 := fDat_of l
  refine ⟨by rw [e1]; exact e, ?_, ?_⟩
  · rw [e1, e2]; exact F
  · rw [e1, e2]; exact F.binds bi
/-- the law's own argument -/
theorem bind_one {x : Str} {st : Stmt} {p : Str} {kV doc pm cdv ct : Value} {an : Option Addr} (h : ∀ u : Value, bindArgs (PySem.W.fnOf x x (defArgs st) (defBody st) (defScope st) .none kV doc pm an cdv ct) ⟨[u], []⟩ = pure [(p, u)]) (s : Shared) (u : Value) :
    BindsTo s (PySem.W.fnOf x x (defArgs st) (defBody st) (defScope st) .none kV doc pm an cdv ct) ⟨[u], []⟩ [(p, u)] := .of_eq (h u)
section
variable {X : Cx} {k : Nat} {x : Str} {st : Stmt} {ps : List Str} {sp : Sp} {p pos : Pos} {e : Expr} {es : List Expr} {t : TA}
/-- a call of the def x -/
theorem pe_c (d : Df X.K X.mg x st ps) (G : FnOk X.prog X.w X.K X.mg X.base CX0 k (fA X.mg x) (fDat X.K (fA X.mg x)) ps sp) (hr : Room k X.A) (ha : PA X (e :: es) t) (hg : Gl X x := by rfl) (hdb : (x == ("__debug__" : Str)) = false := by decide)
    (he : starEach (e :: es) X.env = (false, eval e X.env) :: starEach es X.env := by rfl) (hpl : (backTo pos (starEach es X.env)).any (·.1) = false := by rfl) : PE X (.Call (.Name x p) (e :: es) [] pos) (tCall sp [] E0 t) :=
  pe_call G hr hg d.g d.F.kp d.b .nil pass0 ha hdb he hpl
theorem pe_cG (d : Df X.K X.mg x st ps) (G : OkG X.prog X.w X.K X.mg X.base CX0 k (fA X.mg x) (fDat X.K (fA X.mg x)) ps sp) (hr : Room k X.A) (hq : Quiet X.A) (ha : PA X (e :: es) t) (hg : Gl X x := by rfl) (hdb : (x == ("__debug__" : Str)) = false := by decide)
    (he : starEach (e :: es) X.env = (false, eval e X.env) :: starEach es X.env := by rfl) (hpl : (backTo pos (starEach es X.env)).any (·.1) = false := by rfl) : PE X (.Call (.Name x p) (e :: es) [] pos) (tCall sp [] E0 t) :=
  pe_callG G hr hq hg d.g d.F.kp d.b .nil pass0 ha hdb he hpl
/-- a class's name as a value -/
theorem pe_cls {C : Addr} (hm : X.mg x = some (.ref C)) (hg : Gl X x := by rfl) (hd : (x == ("__debug__" : Str)) = false := by decide) : PE X (.Name x pos) (tC (.ref C)) := pe_glob hg hm rfl hd
end
theorem hu64 {A : Around} {k : Nat} (hr : Room k A) : A.units + 64 < cLine := hr.units

/-! ### the law's end, where nothing is being shown -/
section
variable {P : Program} {w : World} {K : PySem.W.Frag} {mg mb : Str → Option Value} {k : Nat} {fa a : Addr} {fd : FuncData} {x : Str} {sp : Sp} {s₁ : Shared} {vs : List Value} {ns : List Int}
/-- what the law's call must do -/
abbrev Law (P : Program) (w : World) (fa a : Addr) (s₁ : Shared) : Prop :=
  codeAny (model P w) callerA (.call (.ref fa) ⟨[.ref a], []⟩) (fun r s' => r = .ok (.ret (.bool true)) ∧ OldK s₁.heap s'.heap ∧ s'.os = s₁.os ∧ AllBare s'.gens) s₁
/-- from one abstract heap that knows the script at most -/
theorem law_from (KX : K.In s₁.heap) (hns : s₁.heap.Ns mainGlobals mg) (hb : s₁.heap.Ns builtinsNs mb) (hbb : ∀ x : Str, x ≠ "__name__" → mb x = bootBuiltins x) (hlim : s₁.heap.NoLimit) (hg : s₁.gens = #[])
    (ha : s₁.heap.get? a = some { cls := .type "list", data := .seq vs.toArray }) (hr : Room k callerA)
    (F : ∀ base : Heap, K.In base → base.Ns mainGlobals mg → OkG P w K mg base CX0 k fa fd [x] sp) (hbind : ∀ (s : Shared) (u : Value), BindsTo s fd ⟨[u], []⟩ [(x, u)])
    {H : Hp} (hO : Only H) (hsp : sp [.ref a] H (fun v _ => v = .bl true) fun _ _ _ => False) (hok : HOk P w H s₁.heap) (hA : ∀ b, H b ≠ none → b = a) (hK : H a ≠ none → K.lookup a = none) : Law P w fa a s₁ := by
  have off : ∀ {b : Addr}, b ≠ a → H b = none := fun {b} nb => Decidable.byContradiction fun z => nb (hA b z)
  have kOff : ∀ {b : Addr} {o : Obj}, K.lookup b = some o → H b = none := fun {b o} e => Decidable.byContradiction fun z => by
    have q := hA b z
    subst q
    rw [hK z] at e
    cases e
  have dOff : ∀ {b : Addr} {o : Obj} {es : Array DictEntry} {ep : Nat}, s₁.heap.get? b = some o → o.data = .dict es ep → H b = none := fun {b o es ep} e d => by
    by_cases q : b = a
    · subst q
      rw [ha] at e
      cases e
      cases d
    · exact off q
  have ns' : ∀ {b : Addr} {m : Str → Option Value}, s₁.heap.Ns b m → (hidT s₁.heap H).Ns b m := fun {b m} z => by
    obtain ⟨o, es, ep, e, d, r⟩ := z
    exact ⟨o, es, ep, hidT_get e (dOff e d), d, r⟩
  have kIn' : K.In (hidT s₁.heap H) := fun b o e => hidT_get (KX b o e) (kOff e)
  obtain ⟨mc, l1, l2⟩ := hlim
  have e0 : Env0 P w K mg (hidT s₁.heap H) callerA [] s₁ H := ⟨rfl, ⟨kIn', ns' hns, ⟨mb, ns' hb, hbb⟩, ⟨mc, ns' l1, l2⟩⟩, fun b o e => of_hidT e, Nat.le_of_eq (hidT_size _ _), trivial, (fun b z => nomatch z), hok, .of_eq hg⟩
  have run := (F _ kIn' (ns' hns)).run callerA [] s₁ H ⟨[.ref a], []⟩ [.ref a] [.ref a] _ _ hr rfl e0 (hbind s₁ (.ref a)) (.cons rfl .nil) hsp
  refine codeAny_mono run fun r s' z => ?_
  cases r with
  | error e => exact z.elim
  | ok fl => cases fl with
    | next => exact z.elim
    | brk => exact z.elim
    | cont => exact z.elim
    | ret u =>
      obtain ⟨v, H', os, bare, un, hok', rv, ev⟩ := z
      have ev' : v = .bl true := ev
      subst ev'
      cases (show u = Value.bool true from rv)
      refine ⟨rfl, OldK.of_keep fun b o e => ?_, os, bare⟩
      rcases hO b with q | ⟨ob, xs, q⟩
      · exact un.keep b o e q (fun z => nomatch z) (fun z => nomatch z)
      · obtain ⟨e1, _⟩ := hok b _ q
        obtain ⟨e2, _⟩ := hok' b _ (un.frzs b ob _ q)
        rw [e] at e1
        cases e1
        exact e2
theorem law_callG (KX : K.In s₁.heap) (hns : s₁.heap.Ns mainGlobals mg) (hb : s₁.heap.Ns builtinsNs mb) (hbb : ∀ x : Str, x ≠ "__name__" → mb x = bootBuiltins x) (hlim : s₁.heap.NoLimit) (hg : s₁.gens = #[])
    (ha : s₁.heap.get? a = some { cls := .type "list", data := .seq vs.toArray }) (hi : IntsAre vs ns) (hl : ns.length ≤ sizeLine) (hr : Room k callerA)
    (F : ∀ base : Heap, K.In base → base.Ns mainGlobals mg → OkG P w K mg base CX0 k fa fd [x] sp) (hbind : ∀ (s : Shared) (u : Value), BindsTo s fd ⟨[u], []⟩ [(x, u)])
    (hsp : ∀ H : Hp, Only H → SqL K H a (ns.map V.int) → sp [.ref a] H (fun v _ => v = .bl true) fun _ _ _ => False) : Law P w fa a s₁ := by
  have rv := vals_ints hi
  cases hk : K.lookup a with
  | some o =>
    have e := KX a o hk
    rw [ha] at e
    cases e
    have hS : SqL K (fun _ => none) a (ns.map V.int) := .inr ⟨_, vs.toArray, _, hk, rfl, rfl, rfl, by rw [List.size_toArray, hi.length]; exact hl, by simpa using rv⟩
    exact law_from KX hns hb hbb hlim hg ha hr F hbind (H := fun _ => none) (fun _ => .inl rfl) (hsp _ (fun _ => .inl rfl) hS) (fun b u z => nomatch z) (fun b z => (z rfl).elim) (fun z => (z rfl).elim)
  | none =>
    have h0 : ∀ b, b ≠ a → upd (fun _ => none) a (.frz { cls := .type "list", data := .seq vs.toArray } (.lst (ns.map V.int))) b = none := fun b z => upd_ne z
    have hO : Only (upd (fun _ => none) a (.frz { cls := .type "list", data := .seq vs.toArray } (.lst (ns.map V.int)))) := fun b => by
      by_cases q : b = a
      · rw [q]; exact .inr ⟨_, _, upd_same⟩
      · exact .inl (h0 b q)
    refine law_from KX hns hb hbb hlim hg ha hr F hbind hO (hsp _ hO (.inl (.inr ⟨_, upd_same⟩))) (fun b u z => ?_) (fun b z => ?_) (fun _ => hk)
    · by_cases q : b = a
      · subst q
        rw [upd_same] at z
        cases z
        exact ⟨ha, by rw [List.length_map]; exact hl, vs, _, rv, ha⟩
      · rw [h0 b q] at z
        cases z
    · by_cases q : b = a
      · exact q
      · exact (z (h0 b q)).elim
end
/-- the law's row, from its def's promise -/
theorem walk_G {l : PySem.W.OpenLaw} {n k : Nat} {q : Program} {loose : List Str} {XP : (Str → Option Value) → Heap → Prop} {YP : World → Heap → Prop} {d : DefRec} {K : Params → PySem.W.Frag} {sp : PySem.W.Frag → Sp} {x : Str}
    (hn : l.most = some n) (hn2 : n ≤ sizeLine) (hdf : d.params.defaults = []) (hr : Room k callerA) (hY : ∀ (w : World) (h : Heap), YP w h → (K w.params).In h)
    (F : ∀ (w : World) (mg : Str → Option Value) (fa : Addr) (h : Heap), (K w.params).In h → h.Ns mainGlobals mg → mg d.name = some (.ref fa) →
      ∃ fd : FuncData, (∀ (s : Shared) (u : Value), BindsTo s fd ⟨[u], []⟩ [(x, u)]) ∧ ∀ base : Heap, (K w.params).In base → base.Ns mainGlobals mg → OkG l.prog w (K w.params) mg base CX0 k fa fd [x] (sp (K w.params)))
    (hsp : ∀ (K : PySem.W.Frag) (H : Hp) (a : Addr) (ns : List Int), ns.length ≤ n → Only H → SqL K H a (ns.map V.int) → sp K [.ref a] H (fun v _ => v = .bl true) fun _ _ _ => False) :
    PySem.W.WalkO q loose XP YP l.row.toRowW d [] (fun f vs => PySem.call f vs) := by
  refine Att.attach_call hn hdf fun w s₀ s₁ mg mb fa o pm cd doc a vs ns G Y ho hd hcd hmg hobj hints hlen hg => ?_
  have KX := hY w _ Y
  obtain ⟨fd, hb, hF⟩ := F w mg fa _ KX G.T.g hmg
  exact law_callG KX G.T.g G.T.b G.T.builtins G.T.nolimit hg hobj hints (Nat.le_trans hlen hn2) hr hF hb fun H hO hS => hsp _ H a ns hlen hO hS
end GL

/-! Exceptions of the program's own as values: made, asked for their class, their fields read. -/
namespace GL
open PySem PySem.Spec PyProof.Rows L2

/-- an exception of the class at C stands at a, with these fields (none: it has no dict of its own) -/
inductive IsEx (H : Hp) (a C : Addr) : List (Str × V) → Prop
  | bare (e : H a = some (ExO (.ref C) a)) : IsEx H a C []
  | full {dx : Addr} {fs : List (Str × V)} (e : H a = some (exo a C (some dx))) (ed : H dx = some (exd dx fs)) : IsEx H a C fs
theorem IsEx.keep {H H' : Hp} {a C : Addr} {fs : List (Str × V)} (x : IsEx H a C fs) (s : Same H H') : IsEx H' a C fs := by
  cases x with
  | bare e => exact .bare (s _ _ e)
  | full e ed => exact .full (s _ _ e) (s _ _ ed)
section
variable {X : Cx} {pins : List (Addr × Obj)} {σ : L2.St} {H : Hp} {s : Shared} {a C : Addr} {fs : List (Str × V)}
theorem IsEx.inst (I : Inv X pins σ H s) (x : IsEx H a C fs) : ∃ ox od, PySem.W.InstAt s.heap a ox C od := by
  cases x with
  | bare e =>
    have y : ObjOk X.prog X.w H s.heap a (ExO (.ref C) a) := I.hok a _ e
    obtain ⟨⟨oe, vs, h1, ⟨z1, z2⟩, h2, _⟩, _⟩ := y
    refine ⟨oe, none, h1, z1, ?_, ?_⟩
    · unfold PySem.W.notCls; rw [h2] <;> rfl
    · rw [z2]; trivial
  | full e ed =>
    obtain ⟨t1, h1⟩ := exo_at I.hok e
    obtain ⟨mA, hns, _⟩ := exd_at I.hok ed
    obtain ⟨o, es, ep, ho, _⟩ := hns
    exact ⟨_, some o, h1, rfl, rfl, ho⟩

/-! ### isinstance -/
def rIsX (K : PySem.W.Frag) : List V → Hp → VK → Prop := fun xs H Q => ∃ (a C : Addr) (fs : List (Str × V)) (c : V) (cv : Value) (b : Bool), xs = [.ref a, c] ∧ IsEx H a C fs ∧ ExcC K C ∧ (∀ u, RelV c u → u = cv) ∧
  PySem.W.kitOne K (.ref C) cv = some b ∧ Q (.bl b) H
theorem call_isX : CallR X (.builtin "isinstance") (rIsX X.K) := by
  intro pins s σ H xs us Q I r h
  obtain ⟨a, C, fs, c, cv, b, rfl, hx, T, hcv, e, q⟩ := h
  obtain ⟨ox, od, J⟩ := hx.inst I
  cases r with
  | cons ra r1 => cases r1 with
    | cons rc r2 =>
      cases r2
      cases ra
      have ec := hcv _ rc
      subst ec
      have cl : (PySem.W.clsIn X.K C).isSome = true := by
        obtain ⟨cd, h1, _⟩ := PySem.W.any_some T.hd
        rw [h1] <;> rfl
      exact PySem.W.kia_one (PySem.W.kitx_exc cl T.hg T.hk T.hs T.ha T.hn T.ht T.hm) I.kIn J e (fun z => nomatch z) fun tk => ⟨.bl b, H, I.kept (t' := tk) fun _ _ z => z, rfl, q⟩

/-! ### a field -/
def tFldX (K : PySem.W.Frag) (f : Str) (te : TE) : TE := fun σ H Q => te σ H fun x H1 => ∃ (a C dx : Addr) (fs : List (Str × V)) (v : V), x = .ref a ∧ H1 a = some (exo a C (some dx)) ∧ H1 dx = some (exd dx fs) ∧ ExcC K C ∧
  PySem.W.findIn K (.ref C) f = some none ∧ fs.lookup f = some v ∧ Q v H1
theorem pe_fldX {e : Expr} {te : TE} {f : Str} {pos : Pos} (he : PE X e te) (hb : attributeBase e f X.env (eval e X.env) = eval e X.env := by rfl) : PE X (.Attribute e f pos) (tFldX X.K f te) := by
  refine ⟨fun pins s σ H Q I h => attr_of hb (thn (he.run pins s σ H _ I h) fun u s1 hh => ?_)⟩
  obtain ⟨x, H1, I1, rx, a, C, dx, fs, v, ex, ea, ed, T, hno, l, q⟩ := hh
  subst ex
  obtain rfl : u = Value.ref a := rx
  obtain ⟨t1, h1⟩ := exo_at I1.hok ea
  obtain ⟨mA, hns, rel⟩ := exd_at I1.hok ed
  obtain ⟨od, ho, hl⟩ := lookIn_ns hns
  obtain ⟨u, hu, ru⟩ := RelO.some_of (v := v) (o := mA f) (by rw [← l]; exact rel f)
  have J : PySem.W.InstAt s1.heap a _ C (some od) := ⟨h1, rfl, rfl, ho⟩
  exact HandSPX.exc_get I1.kIn J T.hg T.hk T.hs (PySem.W.findObj_own T.hd hno rfl (by rw [hl, hu])) (handed_of ru) ⟨v, H1, I1.tok _, ru, q⟩

/-! ### made: by an __init__ of its own, by none -/
def tExV (C : Addr) (sp : Sp) (ta : TA) : TE := fun σ H Q => ta σ H fun vs H1 => vs.length ≤ 1000 ∧ ∀ a, H1 a = none → sp (.ref a :: vs) (upd H1 a (exo a C none)) (fun v H2 => v = .non ∧ Q (.ref a) H2) (fun _ _ _ => False)
theorem pe_exV {x : Str} {C fI : Addr} {k : Nat} {fd : FuncData} {ps : List Str} {sp : Sp} {p pos : Pos} {e : Expr} {es : List Expr} {ta : TA} (T : OexC X.K C) (iC : PySem.W.findIn X.K (.ref C) "__init__" = some (some (.ref fI)))
    (tI : PySem.W.typeIn X.K (.ref fI) = some (.type "function")) (F1 : FnOk X.prog X.w X.K X.mg X.base CX0 k fI fd ps sp) (hr : Room (k + 1) X.A) (hb : Binds X.K fd ps []) (hg : Gl X x) (hm : X.mg x = some (.ref C)) (ha : PA X (e :: es) ta)
    (hdb : (x == ("__debug__" : Str)) = false := by decide) (he : starEach (e :: es) X.env = (false, eval e X.env) :: starEach es X.env := by rfl) (hpl : (backTo pos (starEach es X.env)).any (·.1) = false := by rfl) :
    PE X (.Call (.Name x p) (e :: es) [] pos) (tExV C sp ta) := by
  refine ⟨fun pins s σ H Q I h => wpAny_Call_Name_kw (ld_glob I hg hm ?_ hdb)⟩
  obtain ⟨nm, q, N, bs, bm, sn, sub, ab, col, dd, k0, k1, k2, k3, k5, hC, hbm⟩ := T.cls
  refine PySem.W.callWith_K (h₀ := X.base) I.ok.mod.kin T.kC (thn (ha.run pos pins s σ H _ I h) fun us s1 ⟨vs, H1, I1, r1, hz, q1⟩ => ⟨I1.kIn, ?_⟩) he hpl
  obtain ⟨hp, g, dr, tk, os⟩ := s1
  show wpAny _ _ (call (.ref C) us) _ _ _
  have le1 : hp.objs.size ≤ hp.objs.size + 1 := Nat.le_succ _
  have q2 := q1 (hp.objs.size + 1) (I1.hok.fresh le1)
  have grown : ∀ b o, hp.get? b = some o → ((hp.push (PySem.W.kdv_tup us)).push (PySem.HandSPX.excO C hp.objs.size)).get? b = some o := fun b o e => Heap.get?_push_of_some _ (Heap.get?_push_of_some _ e)
  have there : ((hp.push (PySem.W.kdv_tup us)).push (PySem.HandSPX.excO C hp.objs.size)).get? (hp.objs.size + 1) = some (PySem.HandSPX.excO C hp.objs.size) := by heap_get
  have I2 : Inv X pins σ (upd H1 (hp.objs.size + 1) (exo (hp.objs.size + 1) C none)) ⟨(hp.push (PySem.W.kdv_tup us)).push (PySem.HandSPX.excO C hp.objs.size), g, dr, tk, os⟩ := I1.laid (t' := tk) grown le1 (exo_ok there)
  have r2 : Vals (V.ref (hp.objs.size + 1) :: vs) (Value.ref (hp.objs.size + 1) :: us) := .cons rfl r1
  have hl : (Value.ref (hp.objs.size + 1) :: us ++ []).length = ps.length := by
    rw [List.append_nil, ← r2.length]
    exact F1.len _ _ _ _ q2
  have bb := hb _ (Value.ref (hp.objs.size + 1) :: us) I2.kIn hl
  rw [List.append_nil] at bb
  have hus : us.length ≤ sizeLine := by
    rw [← r1.length, sizeLine_eq]
    omega
  refine wpAny_call (PySem.HandSPX.call_own F.excBase_ValueError (fun Y => PySem.HandSPX.refsVE_contains Y bm hbm) (I1.kIn _ _ hC) (PySem.W.looks_findIn I1.kIn iC) (fun self => PySem.W.bind_fn I1.kIn self tI) hus
    (codeAny_mono (F1.run _ X.stack _ _ _ _ _ _ _ (hr.make C us []) (I2.env0.make C us []) bb r2 q2) fun r s' z => ?_))
  cases r with
  | error er => exact z.elim
  | ok fl => cases fl with
    | ret u =>
      obtain ⟨v, H', I3, rv, ev, q3⟩ := I2.after z
      subst ev
      exact ⟨rv, ⟨V.ref (hp.objs.size + 1), H', I3, rfl, q3⟩⟩
    | next => exact z.elim
    | brk => exact z.elim
    | cont => exact z.elim
theorem pe_exV0 {C : Addr} {bmB : List Value} {B newId initId : String} {x : Str} {p pos : Pos} (F : ExcBaseFacts B newId initId bmB) (q : PySem.W.excIn X.K C bmB newId = true) (gC : X.mg x = some (.ref C)) (kC : PySem.W.keepIn X.K (.ref C) = true) (hg : Gl X x)
    (hdb : (x == ("__debug__" : Str)) = false := by decide) : PE X (.Call (.Name x p) [] [] pos) (fun σ H Q => ∀ a, H a = none → Q (.ref a) (upd H a (ExO (.ref C) a))) := by
  refine ⟨fun pins s σ H Q I h => wpAny_Call_Name_kw (ld_glob I hg gC (PySem.W.callWith_K0 I.kIn kC ?_) hdb)⟩
  obtain ⟨bm, N, nm, qn, bs, hdct, sn, sub, ab, col, dd, k0, k1, k2, k3, k5, mN, hC, hN, hni, T⟩ := exc_obj I.kIn q
  refine wpAny_call_exc_subT F T hC hN hni (fun h' a hm => ?_) (by show 0 ≤ sizeLine; rw [sizeLine_eq]; omega)
  have hn : H a = none := I.hok.gone hm.new
  obtain ⟨t, ht, _, _⟩ := hm.there
  exact ⟨.ref a, upd H a (ExO (.ref C) a), I.laidN hm.keeps hm.new hn (exO_ok ht ⟨rfl, rfl⟩ rfl rfl rfl (show 4 < 6 by decide)), rfl, h a hn⟩
end

/-! ### the classes, by names -/
@[irreducible] def iA (K : PySem.W.Frag) (C : Addr) : Addr := match PySem.W.findIn K (.ref C) "__init__" with
  | some (some (.ref f)) => f
  | _ => 0
/-- what is asked of a class without an __init__ -/
structure Cl0 (K : PySem.W.Frag) (mg : Str → Option Value) (x : Str) : Prop where
  g : mg x = some (.ref (fA mg x))
  k : PySem.W.keepIn K (.ref (fA mg x)) = true
  e : ExcC K (fA mg x)
  q : PySem.W.excIn K (fA mg x) [.type "ValueError", .type "Exception", .type "BaseException", .type "object"] "ValueError.__new__" = true
/-- .. of one with an __init__ that stores the fields fs -/
structure ClI (K : PySem.W.Frag) (mg : Str → Option Value) (x qual : Str) (st : Stmt) (ps fs : List Str) : Prop where
  g : mg x = some (.ref (fA mg x))
  e : ExcC K (fA mg x)
  o : OexC K (fA mg x)
  i : PySem.W.findIn K (.ref (fA mg x)) "__init__" = some (some (.ref (iA K (fA mg x))))
  t : PySem.W.typeIn K (.ref (iA K (fA mg x))) = some (.type "function")
  F : Fun K "__init__" qual st (iA K (fA mg x)) (fDat K (iA K (fA mg x)))
  b : Binds K (fDat K (iA K (fA mg x))) ps []
  n : ∀ f ∈ fs, PySem.W.findIn K (.ref (fA mg x)) f = some none
theorem iA_of {K : PySem.W.Frag} {C f : Addr} (h : PySem.W.findIn K (.ref C) "__init__" = some (some (.ref f))) : iA K C = f := by
  unfold iA
  rw [h]
theorem Cl0.mk' {K : PySem.W.Frag} {mg : Str → Option Value} {x : Str} {h : Heap} {C : Addr} (X : K.In h) (G : h.Ns mainGlobals mg) (a : PySem.W.nsIn K mainGlobals x = some (some (.ref C))) (k : PySem.W.keepIn K (.ref C) = true) (e : ExcC K C)
    (q : PySem.W.excIn K C [.type "ValueError", .type "Exception", .type "BaseException", .type "object"] "ValueError.__new__" = true) : Cl0 K mg x := by
  have m := PySem.W.mg_of X G a
  have c := fA_of m
  exact ⟨by rw [c]; exact m, by rw [c]; exact k, by rw [c]; exact e, by rw [c]; exact q⟩
theorem ClI.mk' {K : PySem.W.Frag} {mg : Str → Option Value} {x qual : Str} {st : Stmt} {ps fs : List Str} {h : Heap} {C f : Addr} {oc : Value} {od an : Option Addr} {osl : Array (Option Value)} {kV doc pm cdv ct : Value} (X : K.In h) (G : h.Ns mainGlobals mg)
    (a : PySem.W.nsIn K mainGlobals x = some (some (.ref C))) (e : ExcC K C) (o : OexC K C) (i : PySem.W.findIn K (.ref C) "__init__" = some (some (.ref f))) (t : PySem.W.typeIn K (.ref f) = some (.type "function"))
    (l : K.lookup f = some ⟨oc, od, .func (PySem.W.fnOf "__init__" qual (defArgs st) (defBody st) (defScope st) .none kV doc pm an cdv ct), osl⟩) (c : PySem.W.codeIn K cdv qual = true) (k : PySem.W.keepIn K (.ref f) = true)
    (bi : ∀ (kV doc pm : Value) (an : Option Addr) (cdv ct : Value) (us : List Value), us.length = ps.length → bindArgs (PySem.W.fnOf "__init__" qual (defArgs st) (defBody st) (defScope st) .none kV doc pm an cdv ct) ⟨us, []⟩ = pure (ps.zip us))
    (n : ∀ f ∈ fs, PySem.W.findIn K (.ref C) f = some none) : ClI K mg x qual st ps fs := by
  have m := PySem.W.mg_of X G a
  have c1 := fA_of m
  have c2 : iA K (fA mg x) = f := by rw [c1]; exact iA_of i
  have c3 := fDat_of l
  have F := fun_mk (st := st) l c k
  refine ⟨by rw [c1]; exact m, by rw [c1]; exact e, by rw [c1]; exact o, by rw [c2, c1]; exact i, by rw [c2]; exact t, by rw [c2, c3]; exact F, by rw [c2, c3]; exact F.binds bi, by rw [c1]; exact n⟩
def spI1 (C : Addr) (f : Str) : Sp := fun vs H Q _ => ∃ a v, vs = [.ref a, v] ∧ H a = some (exo a C none) ∧ ∀ dx, H dx = none → dx ≠ a → Q .non (upd (upd H dx (exd dx [(f, v)])) a (exo a C (some dx)))
def spI2 (C : Addr) (f g : Str) : Sp := fun vs H Q _ => ∃ a v u, vs = [.ref a, v, u] ∧ H a = some (exo a C none) ∧ ∀ dx, H dx = none → dx ≠ a → Q .non (upd (upd (upd H dx (exd dx [(f, v)])) a (exo a C (some dx))) dx (exd dx [(g, u), (f, v)]))
section
variable {K : PySem.W.Frag} {σ : L2.St} {H : Hp} {D : Ends} {a C dx : Addr} {f g : Str} {v u : V} {ta : TA} {Q : VK}
theorem s_ost1 (T : OexC K C) (n : PySem.W.findIn K (.ref C) f = some none) (h : H a = some (exo a C none)) (h0 : σ[0]? = some (some (.ref a))) {i : Nat} (h1 : σ[i]? = some (some v))
    (q : ∀ dx, H dx = none → dx ≠ a → D.nx σ (upd (upd H dx (exd dx [(f, v)])) a (exo a C (some dx)))) : tOst K f (tVar 0) (tVar i) D σ H := ⟨v, h1, _, h0, a, C, rfl, T, n, .inl ⟨h, q⟩⟩
theorem s_ost2 (T : OexC K C) (n : PySem.W.findIn K (.ref C) g = some none) (h : H a = some (exo a C (some dx))) (hd : H dx = some (exd dx [(f, v)])) (h0 : σ[0]? = some (some (.ref a))) {i : Nat} (h1 : σ[i]? = some (some u))
    (q : D.nx σ (upd H dx (exd dx [(g, u), (f, v)]))) : tOst K g (tVar 0) (tVar i) D σ H := ⟨u, h1, _, h0, a, C, rfl, T, n, .inr ⟨dx, _, h, hd, by show 1 ≤ 900; decide, q⟩⟩
/-- what the making of one hands on -/
theorem made1 (h : VA ta σ H [v]) (k : ∀ a H', Same H H' → IsEx H' a C [(f, v)] → Q (.ref a) H') : tExV C (spI1 C f) ta σ H Q :=
  h _ ⟨by show 1 ≤ 1000; decide, fun a ha => ⟨a, v, rfl, upd_same, fun dx hd ne => ⟨rfl, k a _ (fun b o e => by
    have hb : b ≠ a := ne_of_none e ha
    rw [upd_ne ne] at hd
    rw [upd_ne hb, upd_ne (ne_of_none e hd), upd_ne hb]
    exact e) (.full upd_same (by rw [upd_ne ne, upd_same]))⟩⟩⟩
theorem made2 (h : VA ta σ H [v, u]) (k : ∀ a H', Same H H' → IsEx H' a C [(g, u), (f, v)] → Q (.ref a) H') : tExV C (spI2 C f g) ta σ H Q :=
  h _ ⟨by show 2 ≤ 1000; decide, fun a ha => ⟨a, v, u, rfl, upd_same, fun dx hd ne => ⟨rfl, k a _ (fun b o e => by
    have hb : b ≠ a := ne_of_none e ha
    rw [upd_ne ne] at hd
    have hb2 : b ≠ dx := ne_of_none e hd
    rw [upd_ne hb2, upd_ne hb, upd_ne hb2, upd_ne hb]
    exact e) (.full (by rw [upd_ne (Ne.symm ne), upd_same]) upd_same)⟩⟩⟩
theorem made0 (k : ∀ a H', Same H H' → IsEx H' a C [] → Q (.ref a) H') : (fun (σ : L2.St) (H : Hp) (Q : VK) => ∀ a, H a = none → Q (.ref a) (upd H a (ExO (.ref C) a))) σ H Q :=
  fun a ha => k a _ (Same.new' ha) (.bare upd_same)
/-- isinstance of one -/
theorem v_isx {te : TE} {fs : List (Str × V)} {c : V} {cv : Value} {b : Bool} (h : Val te σ H (.ref a)) (x : IsEx H a C fs) (e : ExcC K C) (r : ∀ w, RelV c w → w = cv) (k : PySem.W.kitOne K (.ref C) cv = some b) :
    Val (tCB (rIsX K) (tCons te (tCons (tC c) tNil))) σ H (.bl b) := v_cb (va_cons h (va_cons val_c va_nil)) fun Q q => ⟨a, C, fs, c, cv, b, rfl, x, e, r, k, q⟩
theorem v_fldx {te : TE} {fs : List (Str × V)} (h : Val te σ H (.ref a)) (x : IsEx H a C fs) (hf : fs.lookup f = some v) (e : ExcC K C) (n : PySem.W.findIn K (.ref C) f = some none) : Val (tFldX K f te) σ H v := by
  intro Q q
  cases x with
  | bare _ => cases hf
  | full e1 e2 => exact h _ ⟨a, C, _, fs, v, rfl, e1, e2, e, n, hf, q⟩
end
end GL

/-! What data the heap holds, dicts among it, and what repr tells of it. -/
namespace GL
open PySem PySem.Spec PyProof.Rows L2

def keyD : Key → PyData
  | .inl i => .int i
  | .inr x => .str x
mutual
/-- the data of a value: as Dp, dicts too -/
inductive Dd (K : PySem.W.Frag) (H : Hp) : V → PyData → Prop
  | non : Dd K H .non .none
  | bl (b : Bool) : Dd K H (.bl b) (.bool b)
  | int (i : Int) : Dd K H (.int i) (.int i)
  | str (x : Str) : Dd K H (.str x) (.str x)
  | lst {a : Addr} {xs : List V} {ds : List PyData} : SqL K H a xs → DdAll K H xs ds → Dd K H (.ref a) (.list ds)
  | tup {a : Addr} {xs : List V} {ds : List PyData} : SqT K H a xs → DdAll K H xs ds → Dd K H (.ref a) (.tuple ds)
  | dic {a : Addr} {kvs : List (Key × V)} {ps : List (PyData × PyData)} : H a = some (.dK kvs) → DdKv K H kvs ps → Dd K H (.ref a) (.dict ps)
inductive DdAll (K : PySem.W.Frag) (H : Hp) : List V → List PyData → Prop
  | nil : DdAll K H [] []
  | cons {v : V} {vs : List V} {d : PyData} {ds : List PyData} : Dd K H v d → DdAll K H vs ds → DdAll K H (v :: vs) (d :: ds)
inductive DdKv (K : PySem.W.Frag) (H : Hp) : List (Key × V) → List (PyData × PyData) → Prop
  | nil : DdKv K H [] []
  | cons {k : Key} {v : V} {r : List (Key × V)} {d : PyData} {ps : List (PyData × PyData)} : Dd K H v d → DdKv K H r ps → DdKv K H ((k, v) :: r) ((keyD k, d) :: ps)
end
theorem sqt_same {K : PySem.W.Frag} {H H' : Hp} {a : Addr} {xs : List V} (e : Same H H') (h : SqT K H a xs) : SqT K H' a xs := by
  rcases h with (h | ⟨o, h⟩) | h
  · exact .inl (.inl (e _ _ h))
  · exact .inl (.inr ⟨o, e _ _ h⟩)
  · exact .inr h
mutual
theorem Dd.same {K : PySem.W.Frag} {H H' : Hp} (s : Same H H') : ∀ (d : PyData) (v : V), Dd K H v d → Dd K H' v d
  | .none, _, h => by cases h; exact .non
  | .bool _, _, h => by cases h; exact .bl _
  | .int _, _, h => by cases h; exact .int _
  | .str _, _, h => by cases h; exact .str _
  | .list ds, _, h => by
    cases h with
    | lst a b => exact .lst (s.seq a) (Dd.sameAll s ds _ b)
  | .tuple ds, _, h => by
    cases h with
    | tup a b => exact .tup (sqt_same s a) (Dd.sameAll s ds _ b)
  | .dict ps, _, h => by
    cases h with
    | dic a b => exact .dic (s _ _ a) (Dd.sameKv s ps _ b)
theorem Dd.sameAll {K : PySem.W.Frag} {H H' : Hp} (s : Same H H') : ∀ (ds : List PyData) (vs : List V), DdAll K H vs ds → DdAll K H' vs ds
  | [], _, h => by cases h; exact .nil
  | d :: ds, _, h => by
    cases h with
    | cons a b => exact .cons (Dd.same s d _ a) (Dd.sameAll s ds _ b)
theorem Dd.sameKv {K : PySem.W.Frag} {H H' : Hp} (s : Same H H') : ∀ (ps : List (PyData × PyData)) (kvs : List (Key × V)), DdKv K H kvs ps → DdKv K H' kvs ps
  | [], _, h => by cases h; exact .nil
  | (_, d) :: ps, _, h => by
    cases h with
    | cons a b => exact .cons (Dd.same s d _ a) (Dd.sameKv s ps _ b)
end
section
variable {X : Cx} {pins : List (Addr × Obj)} {σ : L2.St} {H : Hp} {s : Shared}
/-- what repr tells of a value whose data are known -/
def Shows (X : Cx) (h : Heap) (d : PyData) (u : Value) : Prop := (∃ as, Reads h u d as) ∧ ∃ bs, ReadAtMost h d.depth bs ∧ ReprK X.prog X.w bs h d.depth u d.shown
def ShowsAll (X : Cx) (h : Heap) (ds : List PyData) (us : List Value) : Prop := (∃ as, ReadsAll h us ds as) ∧ ∃ bs, ReadAtMost h (PyData.depthAll ds) bs ∧ ReprAllK X.prog X.w bs h (PyData.depthAll ds) us (PyData.shownAll ds)
theorem ShowsAll.nil {h : Heap} : ShowsAll X h [] [] := ⟨⟨_, .nil⟩, [], (fun _ z => nomatch z), .nil⟩
theorem ShowsAll.cons {h : Heap} {d : PyData} {ds : List PyData} {u : Value} {us : List Value} (a : Shows X h d u) (b : ShowsAll X h ds us) : ShowsAll X h (d :: ds) (u :: us) := by
  obtain ⟨⟨as1, r1⟩, b1, h1, k1⟩ := a
  obtain ⟨⟨as2, r2⟩, b2, h2, k2⟩ := b
  have m1 : d.depth ≤ PyData.depthAll (d :: ds) := Nat.le_max_left _ _
  have m2 : PyData.depthAll ds ≤ PyData.depthAll (d :: ds) := Nat.le_max_right _ _
  exact ⟨⟨_, .cons r1 r2⟩, b1 ++ b2, (h1.mono m1).append (h2.mono m2), .cons ((k1.more fun _ z => List.mem_append_left _ z).level_le m1) (k2.more_le (fun _ z => List.mem_append_right _ z) m2)⟩
theorem Shows.lst {h : Heap} {ds : List PyData} {us : List Value} {a : Addr} {o : Obj} {n : Nat} (ha : h.get? a = some o) (hc : o.cls = .type "list") (hd : o.data = .seq us.toArray n) (b : ShowsAll X h ds us) : Shows X h (.list ds) (.ref a) := by
  obtain ⟨⟨as, r⟩, bs, hb, k⟩ := b
  have R : Reads h (.ref a) (.list ds) _ := .list ha hc hd r
  have off : a ∉ bs := not_mem_of_deeper R (by simp only [PyData.depth]; omega) hb
  refine ⟨⟨_, R⟩, a :: bs, ReadAtMost.cons R (by simp only [PyData.depth]; omega) hb, ?_⟩
  cases us with
  | nil =>
    cases r
    exact ReprK.listEmpty ha hc hd
  | cons u us => exact ReprK.list ha hc hd off (by simpa using k.length_eq) fun i y e => k.item i y (by simpa using e)
theorem Shows.tup {h : Heap} {ds : List PyData} {us : List Value} {a : Addr} (ha : IsTup h a us.toArray) (b : ShowsAll X h ds us) : Shows X h (.tuple ds) (.ref a) := by
  obtain ⟨⟨as, r⟩, bs, hb, k⟩ := b
  obtain ⟨o, ho, hc, n, hd⟩ := ha
  have R : Reads h (.ref a) (.tuple ds) _ := .tuple ho hc hd r
  exact ⟨⟨_, R⟩, a :: bs, ReadAtMost.cons R (by simp only [PyData.depth]; omega) hb, ReprK.tuple ho hc hd (not_mem_of_deeper R (by simp only [PyData.depth]; omega) hb) k⟩
theorem shows_key {h : Heap} {k : Key} {u : Value} (e : keyIs k u = true) (hs : (keyD k).showable = true) (hz : (keyD k).shown.length ≤ sizeLine) : Shows X h (keyD k) u := by
  rcases keyIs_shape e with ⟨i, t, rfl, rfl⟩ | ⟨x, t, rfl, rfl⟩
  · exact ⟨⟨_, .int i t⟩, [], (fun _ z => nomatch z), .of_is (ReprIs.int t (of_decide_eq_true hs)) _ _ _⟩
  · exact ⟨⟨_, .str x t⟩, [], (fun _ z => nomatch z), .of_is (ReprIs.str x t hz) _ _ _⟩
theorem Shows.dic {h : Heap} {ps : List (PyData × PyData)} {es : Array DictEntry} {a : Addr} {o : Obj} {n : Nat} (ho : h.get? a = some o) (hc : o.cls = .type "dict") (hd : o.data = .dict es n) (hsys : (a == sysModules) = false)
    (b1 : ShowsAll X h (ps.map (·.1)) (es.toList.map (·.key))) (b2 : ShowsAll X h (ps.map (·.2)) (es.toList.map (·.val))) : Shows X h (.dict ps) (.ref a) := by
  obtain ⟨⟨as1, r1⟩, c1, h1, k1⟩ := b1
  obtain ⟨⟨as2, r2⟩, c2, h2, k2⟩ := b2
  have R : Reads h (.ref a) (.dict ps) _ := .dict ho hc hd r1 r2
  have hb : ReadAtMost h (PyData.depthKv ps) (c1 ++ c2) := (h1.mono (PyData.depthAll_keys_le ps)).append (h2.mono (PyData.depthAll_vals_le ps))
  refine ⟨⟨_, R⟩, a :: (c1 ++ c2), ReadAtMost.cons R (by simp only [PyData.depth]; omega) hb, ?_⟩
  simp only [PyData.depth, PyData.shown, PyData.shownKv_eq]
  exact ReprK.dict ho hc hd hsys (not_mem_of_deeper R (by simp only [PyData.depth]; omega) hb) (ReprEntriesK.of_two es.toList _ _
    (k1.more_le (fun _ z => List.mem_append_left _ z) (PyData.depthAll_keys_le ps)) (k2.more_le (fun _ z => List.mem_append_right _ z) (PyData.depthAll_vals_le ps)))
theorem all_le {ds : List PyData} {d : PyData} (hd : d ∈ ds) : d.shown ∈ PyData.shownAll ds := by
  induction ds with
  | nil => cases hd
  | cons x xs ih =>
    simp only [PyData.shownAll]
    rcases List.mem_cons.mp hd with e | e
    · rw [e]; exact List.mem_cons_self ..
    · exact List.mem_cons_of_mem _ (ih e)
mutual
theorem Dd.shows (I : Inv X pins σ H s) : ∀ (d : PyData) (v : V) (u : Value), Dd X.K H v d → RelV v u → d.showable = true → d.shown.length ≤ sizeLine → Shows X s.heap d u
  | .none, _, _, h, r, _, _ => by
    cases h; cases r
    exact ⟨⟨_, .none⟩, [], (fun _ z => nomatch z), .of_is ReprIs.none _ _ _⟩
  | .bool b, _, _, h, r, _, _ => by
    cases h; cases r
    exact ⟨⟨_, .bool b⟩, [], (fun _ z => nomatch z), .of_is (ReprIs.bool b) _ _ _⟩
  | .int i, _, _, h, r, hs, _ => by
    cases h
    obtain ⟨t, rfl⟩ := r
    exact ⟨⟨_, .int i t⟩, [], (fun _ z => nomatch z), .of_is (ReprIs.int t (of_decide_eq_true hs)) _ _ _⟩
  | .str x, _, _, h, r, _, hz => by
    cases h
    obtain ⟨t, rfl⟩ := r
    exact ⟨⟨_, .str x t⟩, [], (fun _ z => nomatch z), .of_is (ReprIs.str x t hz) _ _ _⟩
  | .list ds, _, _, h, r, hs, hz => by
    cases h with
    | lst hq ha =>
      cases r
      obtain ⟨its, rv, ⟨o, n, ho, hc, _, hd⟩, _⟩ := I.list hq
      have hz' : (listText (PyData.shownAll ds)).length ≤ sizeLine := by simpa only [PyData.shown] using hz
      exact Shows.lst ho hc hd (Dd.showsAll I ds _ its ha rv (by simpa [PyData.showable] using hs) fun t ht => Nat.le_trans (listText_mem_le ht) hz')
  | .tuple ds, _, _, h, r, hs, hz => by
    cases h with
    | tup hq ha =>
      cases r
      obtain ⟨its, rv, ⟨o, ho, hc, n, hd⟩, _⟩ := I.tuple hq
      have hz' : (tupleText (PyData.shownAll ds)).length ≤ sizeLine := by simpa only [PyData.shown] using hz
      exact Shows.tup ⟨o, ho, hc, n, hd⟩ (Dd.showsAll I ds _ its ha rv (by simpa [PyData.showable] using hs) fun t ht => Nat.le_trans (tupleText_mem_le ht) hz')
  | .dict ps, _, _, h, r, hs, hz => by
    cases h with
    | dic hq ha =>
      cases r
      obtain ⟨_, hsys, vs, kv, o, es, ep, ho, ⟨hc, _, _⟩, hd, _, pr, _⟩ := I.hok _ _ hq
      have hz' : (dictText (PyData.shownKv ps)).length ≤ sizeLine := by simpa only [PyData.shown] using hz
      obtain ⟨b1, b2⟩ := Dd.showsKv I ps _ vs es.toList ha kv pr (by simpa [PyData.showable] using hs) (fun t ht => Nat.le_trans (dictText_mem_le ht) hz')
      exact Shows.dic ho hc hd hsys b1 b2
theorem Dd.showsAll (I : Inv X pins σ H s) : ∀ (ds : List PyData) (vs : List V) (us : List Value), DdAll X.K H vs ds → Vals vs us → PyData.showableAll ds = true → (∀ t ∈ PyData.shownAll ds, t.length ≤ sizeLine) → ShowsAll X s.heap ds us
  | [], _, _, h, r, _, _ => by
    cases h; cases r
    exact .nil
  | d :: ds, _, _, h, r, hs, hz => by
    cases h with
    | cons h1 h2 => cases r with
      | cons r1 r2 =>
        have hs' : d.showable = true ∧ PyData.showableAll ds = true := by simpa [PyData.showableAll] using hs
        exact .cons (Dd.shows I d _ _ h1 r1 hs'.1 (hz _ (by simp only [PyData.shownAll]; exact List.mem_cons_self ..))) (Dd.showsAll I ds _ _ h2 r2 hs'.2 fun t ht => hz t (by simp only [PyData.shownAll]; exact List.mem_cons_of_mem _ ht))
theorem Dd.showsKv (I : Inv X pins σ H s) : ∀ (ps : List (PyData × PyData)) (kvs : List (Key × V)) (vs : List (Key × Value)) (es : List DictEntry), DdKv X.K H kvs ps → KV kvs vs → Pairs (mixKind X.prog X.w) es vs → PyData.showableKv ps = true →
    (∀ t ∈ PyData.shownKv ps, t.length ≤ sizeLine) → ShowsAll X s.heap (ps.map (·.1)) (es.map (·.key)) ∧ ShowsAll X s.heap (ps.map (·.2)) (es.map (·.val))
  | [], _, _, _, h, kv, pr, _, _ => by
    cases h; cases kv; cases pr
    exact ⟨.nil, .nil⟩
  | (k, d) :: ps, _, _, _, h, kv, pr, hs, hz => by
    cases h with
    | cons h1 h2 => cases kv with
      | cons e kv2 => cases pr with
        | cons p1 p2 p3 =>
          rename_i k0 v0 _ q _ en _
          have hs' : ((keyD k0).showable = true ∧ d.showable = true) ∧ PyData.showableKv ps = true := by simpa [PyData.showableKv] using hs
          have z0 := hz _ (by simp only [PyData.shownKv]; exact List.mem_cons_self ..)
          obtain ⟨e1, e2⟩ := e
          have z1 : (keyD k0).shown.length ≤ sizeLine := Nat.le_trans (by simp only [Str.length_append]; omega) z0
          have z2 : d.shown.length ≤ sizeLine := Nat.le_trans (by simp only [Str.length_append]; omega) z0
          obtain ⟨i1, i2⟩ := Dd.showsKv I ps _ _ _ h2 kv2 p3 hs'.2 fun t ht => hz t (by simp only [PyData.shownKv]; exact List.mem_cons_of_mem _ ht)
          have q1 : k0 = q.1 := e1
          have ky : keyIs k0 en.key = true := by rw [q1]; exact p1
          refine ⟨.cons (shows_key ky hs'.1.1 z1) i1, .cons (Dd.shows I d v0 _ h1 ?_ hs'.1.2 z2) i2⟩
          show RelV v0 en.val
          rw [p2]; exact e2
end
/-- repr of any such data -/
def rShow (K : PySem.W.Frag) : List V → Hp → VK → Prop := fun xs H Q => ∃ (v : V) (d : PyData), xs = [v] ∧ Dd K H v d ∧ d.showable = true ∧ d.depth ≤ 40 ∧ d.shown.length ≤ sizeLine ∧ Q (.str d.shown) H
theorem call_show (hq : Quiet X.A) (hu : X.A.units + 64 < cLine) : CallR X (.builtin "repr") (rShow X.K) := by
  intro pins s σ H xs us Q I r h
  obtain ⟨v, d, rfl, hd, hs, hp, hz, q⟩ := h
  cases r with
  | cons rv rn =>
    rename_i u us'
    cases rn
    have done : ∀ h' tk, (∀ b o, s.heap.get? b = some o → h'.get? b = some o) → ∀ z, EP X pins σ Q (.str d.shown z) { s with heap := h', toks := tk } := fun h' tk hk z => ⟨.str _, H, I.kept hk, ⟨z, rfl⟩, q⟩
    cases hd with
    | non => cases rv; exact PySem.P.repr_of_none ⟨.str _, H, I.tok _, ⟨_, rfl⟩, q⟩
    | bl b => cases rv; exact PySem.P.repr_of_bool ⟨.str _, H, I.tok _, ⟨_, rfl⟩, q⟩
    | int i =>
      obtain ⟨t, rfl⟩ := rv
      exact PySem.P.repr_of_int (of_decide_eq_true hs) ⟨.str _, H, I.tok _, ⟨_, rfl⟩, q⟩
    | str x =>
      obtain ⟨t, rfl⟩ := rv
      exact PySem.P.repr_of_str ⟨.str _, H, I.tok _, ⟨_, rfl⟩, q⟩
    | @lst a xs ds hq2 ha =>
      cases rv
      obtain ⟨its, rv2, ⟨o, n, ho, hc, _, hd2⟩, _⟩ := I.list hq2
      have hz' : (listText (PyData.shownAll ds)).length ≤ sizeLine := by simpa only [PyData.shown] using hz
      have hp' : PyData.depthAll ds + 1 ≤ 40 := by simpa only [PyData.depth] using hp
      obtain ⟨⟨as, r⟩, bs, hb, k⟩ := Dd.showsAll I ds _ its ha rv2 (by simpa [PyData.showable] using hs) fun t ht => Nat.le_trans (listText_mem_le ht) hz'
      have R : Reads s.heap (.ref a) (.list ds) _ := .list ho hc hd2 r
      have off : a ∉ bs := not_mem_of_deeper R (by simp only [PyData.depth]; omega) hb
      refine call_repr_slot (by omega) ⟨o, ho, hc⟩ F.slot_list_repr.toG ?_
      simp only [PyData.shown] at done
      cases its with
      | nil =>
        cases r
        simp only [PyData.shownAll, listText_nil] at done
        exact call_list_repr_empty ⟨o, ho, hc⟩ ho hd2 ⟨_, _, rfl, done s.heap _ (fun _ _ e => e) _⟩
      | cons u us => exact call_list_reprK ho hc hd2 off (by simpa using k.length_eq) (fun i y e => k.item i y (by simpa using e)) hq (fun b _ => Clear.nil b) (by show X.A.units + 1 + (PyData.depthAll ds + 1) < cLine; omega) (fun _ _ e => e) (fun h' u tk hk => ⟨_, _, rfl, done h' tk hk u⟩) hz'
    | @tup a xs ds hq2 ha =>
      cases rv
      obtain ⟨its, rv2, ⟨o, ho, hc, n, hd2⟩, _⟩ := I.tuple hq2
      have hz' : (tupleText (PyData.shownAll ds)).length ≤ sizeLine := by simpa only [PyData.shown] using hz
      have hp' : PyData.depthAll ds + 1 ≤ 40 := by simpa only [PyData.depth] using hp
      obtain ⟨⟨as, r⟩, bs, hb, k⟩ := Dd.showsAll I ds _ its ha rv2 (by simpa [PyData.showable] using hs) fun t ht => Nat.le_trans (tupleText_mem_le ht) hz'
      have R : Reads s.heap (.ref a) (.tuple ds) _ := .tuple ho hc hd2 r
      have off : a ∉ bs := not_mem_of_deeper R (by simp only [PyData.depth]; omega) hb
      simp only [PyData.shown] at done
      exact call_repr_slot (by omega) ⟨o, ho, hc⟩ F.slot_tuple_repr (call_tuple_reprK ho hc hd2 off k hq (fun b _ => Clear.nil b) (by show X.A.units + 1 + (PyData.depthAll ds + 1) < cLine; omega) (fun _ _ e => e) (fun h' u tk hk => ⟨_, _, rfl, done h' tk hk u⟩) hz')
    | @dic a kvs ps hq2 ha =>
      cases rv
      obtain ⟨_, hsys, vs, kv, o, es, ep, ho, ⟨hc, _, _⟩, hd2, _, pr, _⟩ := I.hok _ _ hq2
      have hz' : (dictText (PyData.shownKv ps)).length ≤ sizeLine := by simpa only [PyData.shown] using hz
      have hp' : PyData.depthKv ps + 1 ≤ 40 := by simpa only [PyData.depth] using hp
      obtain ⟨⟨⟨as1, r1⟩, c1, h1, k1⟩, ⟨as2, r2⟩, c2, h2, k2⟩ := Dd.showsKv I ps _ vs es.toList ha kv pr (by simpa [PyData.showable] using hs) (fun t ht => Nat.le_trans (dictText_mem_le ht) hz')
      have R : Reads s.heap (.ref a) (.dict ps) _ := .dict ho hc hd2 r1 r2
      have hb : ReadAtMost s.heap (PyData.depthKv ps) (c1 ++ c2) := (h1.mono (PyData.depthAll_keys_le ps)).append (h2.mono (PyData.depthAll_vals_le ps))
      have off : a ∉ c1 ++ c2 := not_mem_of_deeper R (by simp only [PyData.depth]; omega) hb
      simp only [PyData.shown] at done
      exact call_repr_slot (by omega) ⟨o, ho, hc⟩ F.slot_dict_repr (call_dict_reprK ho hc hd2 hsys off (ReprEntriesK.of_two es.toList _ _
        (k1.more_le (fun _ z => List.mem_append_left _ z) (PyData.depthAll_keys_le ps)) (k2.more_le (fun _ z => List.mem_append_right _ z) (PyData.depthAll_vals_le ps)) |> fun z => by rw [← PyData.shownKv_eq] at z; exact z)
        hq (fun b _ => Clear.nil b) (by show X.A.units + 1 + (PyData.depthKv ps + 1) < cLine; omega) (fun _ _ e => e) (fun h' u tk hk => ⟨_, _, rfl, done h' tk hk u⟩) hz')
end
section
variable {K : PySem.W.Frag} {σ : L2.St} {H : Hp} {te : TE} {v : V} {d : PyData}
theorem v_show (h : Val te σ H v) (hd : Dd K H v d) (hs : d.showable = true) (hp : d.depth ≤ 40) (hz : d.shown.length ≤ 100000) : Val (tCB (rShow K) (tCons te tNil)) σ H (.str d.shown) := v_cb (va_cons h va_nil) fun Q q => ⟨v, d, rfl, hd, hs, hp, Nat.le_trans hz (by decide), q⟩
end
end GL

/-! several clauses 'except X as e' in one try -/
namespace TM
open PySem PySem.Spec PyProof.Rows L2
abbrev Cl := Value × Nat × (Addr → Value → Option Addr → TS)
/-- what the clauses wish of an exception, the first one first -/
def wNames (K : PySem.W.Frag) (Wout : WX) (D : Ends) (l : List Cl) : WX := l.foldr (fun q W => wAs K q.1 q.2.1 q.2.2 W D) Wout
/-- asked only of states that hold every name -/
def wLen (n : Nat) (W : WX) : WX := fun cls d σ H => σ.length = n → W cls d σ H
inductive Clauses (X : Cx) : List ExceptHandler → List Cl → Prop
  | nil : Clauses X [] []
  | cons {x n : Str} {c : Value} {i : Nat} {ts : Addr → Value → Option Addr → TS} {b : Stmt} {r : List Stmt} {np hp : Pos} {hds : List ExceptHandler} {l : List Cl} (hi : X.N[i]? = some n) (hn : X.env.kindOf n = some .local) (hc : Names X x c)
      (suite : ∀ (a : Addr) (oe : Obj) (cls : Value) (d : Option Addr) (pn : List (Addr × Obj)), Zc cls d oe → (∃ vs, oe.data = .fields vs) → PSs (X.suite a ((a, oe) :: pn)) (b :: r) (ts a cls d)) (more : Clauses X hds l) :
      Clauses X (.ExceptHandler (some (.Name x np)) (some n) (b :: r) hp :: hds) ((c, i, ts) :: l)
section
variable {X : Cx} {body : List Stmt} {h₀ : ExceptHandler} {hds : List ExceptHandler} {l : List Cl} {pos : Pos} {tb : WX → TS} {Wout : WX}
theorem ps_try_names (hs : X.stack = X.env :: X.outer) (hf : X.env.frame = some X.env.locals) (hN : X.N.Nodup) (tk : Takes X Wout)
    (hb : ∀ (W : WX) (pn : List (Addr × Obj)) (xe : Value → Shared → Prop), Takes (X.tr pn xe) W → PassesOwn (model X.prog X.w) X.A X.env xe → PSs (X.tr pn xe) body (tb W))
    (cl : Clauses X (h₀ :: hds) l) : PS X (.Try body (h₀ :: hds) [] [] pos) (fun D σ H => tb (wLen X.N.length (wNames X.K Wout D l)) D σ H) := by
  refine ⟨fun pins s σ H D I h => ?_⟩
  have ok := I.ok
  have frames : X.A.frames = some (X.env :: X.outer) := by rw [ok.frames, hs]
  refine wpAny_Try_except ?_
  have run := (hb (wLen X.N.length (wNames X.K Wout D l)) (X.pn ++ pins) (fun e t => wpAny (model X.prog X.w) X.A (noteFrame e X.env) (fun _ t2 => wpAny (model X.prog X.w) X.A (setFlight e none) (fun _ t3 =>
    wpAny (model X.prog X.w) X.A (handleBy e X.env (h₀ :: hds)) (SP X pins D) X.xe t3) X.xe t2) X.xe t) (fun u s' xx => ?_) PassesOwn.looking).run [] s σ H D (I.toTry _) h
  · refine wpAny_mono run (fun f s1 e => ?_) (fun e s1 he => he)
    cases f with
    | next =>
      obtain ⟨σ', H', J', q⟩ := e
      exact wpAny_execs_nil ⟨σ', H', J'.ofTry ok, q⟩
    | brk =>
      obtain ⟨σ', H', J', q⟩ := e
      exact ⟨σ', H', J'.ofTry ok, q⟩
    | cont =>
      obtain ⟨σ', H', J', q⟩ := e
      exact ⟨σ', H', J'.ofTry ok, q⟩
    | ret u =>
      obtain ⟨v, σ', H', J', r, q⟩ := e
      exact ⟨v, σ', H', J'.ofTry ok, r, q⟩
  · obtain ⟨a, B, sI, pins', σ', H', cls, d, rfl, J', nb, up, sky, na, os, ag, w⟩ := xx
    have J : Inv X pins σ' H' sI := J'.ofTry ok
    have sky' : Sky B (X.env :: X.outer) a (Zc cls d) X.env.locals s'.heap := by rw [← hs]; exact sky
    show wpAny (model X.prog X.w) X.A (noteFrame (.ref a) X.env) _ _ _
    refine Sky.land Zc.steady frames hf sky' fun h3 fl3 up3 => ?_
    have J3 : Inv X pins σ' H' { s' with heap := h3 } := J.landed nb fl3.1 (up.trans up3) os ag
    obtain ⟨oe, vs, he, hz, hd⟩ := fl3.there
    have away : a ∉ frs (X.env :: X.outer) := fun hm => by
      obtain ⟨_, o', e', no⟩ := fl3.2.2.1.mem hm
      rw [he] at e'; cases e'
      exact no _ hd
    have nL : a ≠ X.env.locals := fun z => away (List.mem_filterMap.mpr ⟨X.env, List.mem_cons_self, by rw [hf, z]⟩)
    have nF : a ∉ X.fs := fun hm => by
      obtain ⟨e, m, q⟩ := List.mem_filterMap.mp hm
      exact away (List.mem_filterMap.mpr ⟨e, List.mem_cons_of_mem _ m, q⟩)
    have S3 := J3.suite he hd na nL nF
    have looks : PySem.W.Looks (model X.prog X.w) h3 (typeOf (.ref a)) cls := fun A Q E s k q => wpAny_typeOf_ref (k _ _ he) (by rw [hz.1]; exact q)
    suffices go : ∀ {hs' : List ExceptHandler} {l' : List Cl}, Clauses X hs' l' → wNames X.K Wout D l' cls d σ' H' → wpAny (model X.prog X.w) X.A (handleBy (.ref a) X.env hs') (SP X pins D) X.xe { s' with heap := h3 } from go cl (w J.len)
    intro hs' l' k
    induction k with
    | nil =>
      intro w
      refine wpAny_handleBy_nil ?_
      obtain ⟨k1, k2, k3, oe2, vs2, T, oT, ts', he2, hz2, hd2, h1, hr⟩ := id fl3
      unfold PySem.passOn
      refine wpAny_bind (wpAny_field he2 hd2 h1 ?_)
      rw [if_neg (show ¬ ((Value.ref T == Value.none) = true) from by simp)]
      have out : wpAny (model X.prog X.w) X.A (setFlight (.ref a) X.env.frame) (fun _ s4 => wpAny (model X.prog X.w) X.A (throw (.ref a) : Sem Flow) (SP X pins D) X.xe s4) X.xe { s' with heap := h3 } := by
        rw [hf]
        refine HandSPX.setFlight_upZ fl3 fun h4 hh4 up4 => wpAny_throw (tk _ _ ?_)
        exact ⟨a, B, sI, pins, σ', H', cls, d, rfl, J, nb, (up.trans up3).trans up4, .inr (.inr (by rw [hs]; exact hh4)), na, os, ag, w⟩
      first
        | exact wpAny_bind (wpAny_pure (wpAny_bind out))
        | exact wpAny_bind out
    | @cons x n c i ts b r np hp hds2 l2 hi hn hc suite more ih =>
      intro w
      obtain ⟨t, ht, yes, no⟩ := w
      refine wpAny_handleBy_cons (codeAny_handlers_test ?_) (by intro q; cases q)
      have LM := PySem.W.exm_one (M := model X.prog X.w) (J3.kIn) looks ht
      have test : ∀ {Q : Value → Shared → Prop} {E : Value → Shared → Prop}, Q c { s' with heap := h3 } → wpAny (model X.prog X.w) (X.A.mark (some (.ref a))) (eval (.Name x np) X.env) Q E { s' with heap := h3 } := fun {Q E} q => by
        obtain ⟨g, db, hm | ⟨hm, hv, nn⟩⟩ := hc
        · exact ld_glob (X := X.suite a ((a, oe) :: (X.pn ++ pins))) S3 g hm q db
        · exact ld_blt (X := X.suite a ((a, oe) :: (X.pn ++ pins))) S3 g hm hv q nn db
      refine test (LM.here ?_)
      cases t with
      | false => exact ih (no rfl)
      | true =>
        refine codeAny_handlers_suite_as ?_
        refine HandSPX.lands_againZ fl3 fun h4 fl4 up4 => ?_
        have J4 : Inv X pins σ' H' { s' with heap := h4 } := J.landed nb fl4.1 ((up.trans up3).trans up4) os ag
        obtain ⟨oe4, vs4, he4, hz4, hd4⟩ := fl4.there
        have S4 := J4.suite he4 hd4 na nL nF
        refine store_ok (X := X.suite a ((a, oe4) :: (X.pn ++ pins))) (v := .ref a) S4 hN hi (.inl hn) rfl (fun s5 S5 => ?_) (.inr hn)
        refine wpAny_mono ((suite a oe4 cls d (X.pn ++ pins) hz4 ⟨_, hd4⟩).run [] s5 _ H' _ S5 (yes rfl a na)) (fun f s6 e => ?_) (fun _ _ z => False.elim z)
        cases f with
        | next =>
          obtain ⟨σ6, H6, S6, q6⟩ := e
          exact gone_ok (S6.unsuite ok) hN hi hn fun s7 J7 => ⟨_, _, J7, q6⟩
        | brk =>
          obtain ⟨σ6, H6, S6, q6⟩ := e
          exact gone_ok (S6.unsuite ok) hN hi hn fun s7 J7 => ⟨_, _, J7, q6⟩
        | cont =>
          obtain ⟨σ6, H6, S6, q6⟩ := e
          exact gone_ok (S6.unsuite ok) hN hi hn fun s7 J7 => ⟨_, _, J7, q6⟩
        | ret u =>
          obtain ⟨v6, σ6, H6, S6, r6, q6⟩ := e
          exact gone_ok (S6.unsuite ok) hN hi hn fun s7 J7 => ⟨_, _, _, J7, r6, q6⟩
end
end TM

/-! list(zip(a, b)) of two lists, or of two tuples, of one length -/
namespace ZL
open PySem PySem.Spec PyProof.Rows L2
/-- a walk over a sequence -/
structure Cur (It : Heap → Addr → Addr → Nat → Prop) (Src : Heap → Addr → Array Value → Prop) : Prop where
  item : ∀ {prog : Program} {w : World} {A : Around} {E : Value → Shared → Prop} {s : Shared} {it l : Addr} {i : Nat} {xs : Array Value} {x : Value} {Q : Value → Shared → Prop}, It s.heap it l i → Src s.heap l xs → xs[i]? = some x →
    (∀ h', It h' it l (i + 1) → Heap.SameBut it s.heap h' → Q x { s with heap := h' }) → wpAny (model prog w) A (Builtin.SmallTypes.nextOf (.ref it)) Q E s
  stop : ∀ {prog : Program} {w : World} {A : Around} {E : Value → Shared → Prop} {s : Shared} {it l : Addr} {i : Nat} {xs : Array Value} {Q : Value → Shared → Prop}, A.handled = none → It s.heap it l i → Src s.heap l xs → xs[i]? = none →
    (∀ h' e, Heap.ExtBut it s.heap h' → (∃ o, h'.get? e = some o ∧ o.cls = .type "StopIteration") → E (.ref e) { s with heap := h' }) → wpAny (model prog w) A (Builtin.SmallTypes.nextOf (.ref it)) Q E s
  itk : ∀ {h h' : Heap} {it l : Addr} {k : Nat}, It h it l k → (∀ o, h.get? it = some o → h'.get? it = some o) → It h' it l k
  srk : ∀ {h h' : Heap} {l : Addr} {xs : Array Value}, Src h l xs → (∀ o, h.get? l = some o → h'.get? l = some o) → Src h' l xs
  first : ∀ {prog : Program} {w : World} {A : Around} {E : Value → Shared → Prop} {s : Shared} {z TI TO i1 i2 l1 l2 : Addr} {k1 k2 : Nat} {xs ys : Array Value} {x y a b : Value} {Q : Option Value → Shared → Prop}, ZipApart z TI TO i1 i2 l1 l2 →
    IsZip s.heap z TI TO .none → IsPair s.heap TI (.ref i1) (.ref i2) → IsPair s.heap TO a b → It s.heap i1 l1 k1 → It s.heap i2 l2 k2 → Src s.heap l1 xs → Src s.heap l2 ys → xs[k1]? = some x → ys[k2]? = some y →
    (∀ h', IsZip h' z TI TO (rawInt s.heap.objs.size) → IsPair h' TO x y → It h' i1 l1 (k1 + 1) → It h' i2 l2 (k2 + 1) → IsPair h' s.heap.objs.size x y → h'.objs.size = s.heap.objs.size + 1 →
      (∀ c o, c ≠ z → c ≠ TO → c ≠ i1 → c ≠ i2 → s.heap.get? c = some o → h'.get? c = some o) → Q (some (.ref s.heap.objs.size)) { s with heap := h' }) → wpAny (model prog w) A (pyNext (.ref z)) Q E s
  none : ∀ {prog : Program} {w : World} {A : Around} {E : Value → Shared → Prop} {s : Shared} {z TI TO i1 i2 l1 l2 : Addr} {k1 k2 : Nat} {xs ys : Array Value} {a b : Value} {Q : Option Value → Shared → Prop}, A.handled = none → ZipApart z TI TO i1 i2 l1 l2 →
    IsZip s.heap z TI TO .none → IsPair s.heap TI (.ref i1) (.ref i2) → IsPair s.heap TO a b → It s.heap i1 l1 k1 → It s.heap i2 l2 k2 → Src s.heap l1 xs → Src s.heap l2 ys → xs[k1]? = none ∨ ys[k2]? = none →
    (∀ h', (∀ c o, c ≠ z → c ≠ TO → c ≠ i1 → c ≠ i2 → s.heap.get? c = some o → h'.get? c = some o) → Q none { s with heap := h' }) → wpAny (model prog w) A (pyNext (.ref z)) Q E s
theorem curL : Cur (fun h a l i => h.IsListIter a l i) (fun h l xs => h.IsList l xs) where
  item := wpAny_nextOf_list_item
  stop := wpAny_nextOf_list_end
  itk := fun x e => x.at e
  srk := fun x e => x.at e
  first := wpAny_pyNext_zip_item
  none := wpAny_pyNext_zip_end
theorem curT : Cur (fun h a l i => h.IsTupleIter a l i) (fun h l xs => h.IsTuple l xs) where
  item := RZ.nextOf_tuple_item
  stop := RZ.nextOf_tuple_end
  itk := fun x e => x.at e
  srk := fun ⟨o, ho, r⟩ e => ⟨o, e _ ho, r⟩
  first := RZ.pyNext_zipT_item
  none := RZ.pyNext_zipT_end
section
variable {It : Heap → Addr → Addr → Nat → Prop} {Src : Heap → Addr → Array Value → Prop} {prog : Program} {w : World} {A : Around} {E : Value → Shared → Prop} {s : Shared}
variable {z TI TO T i1 i2 l1 l2 : Addr} {f : Bool} {oT : Obj} {k1 k2 : Nat} {xs ys : Array Value}
/-- a further pair: the one ahead is still in use -/
theorem more {x y : Value} {Q : Option Value → Shared → Prop} (C : Cur It Src) (D : ZipApart z TI TO i1 i2 l1 l2) (hz : IsZipHeld s.heap z TI TO T f) (hT : s.heap.get? T = some oT) (hI : IsPair s.heap TI (.ref i1) (.ref i2))
    (a1 : It s.heap i1 l1 k1) (a2 : It s.heap i2 l2 k2) (m1 : Src s.heap l1 xs) (m2 : Src s.heap l2 ys) (hx : xs[k1]? = some x) (hy : ys[k2]? = some y)
    (q : ∀ h', IsZipHeld h' z TI TO T true → It h' i1 l1 (k1 + 1) → It h' i2 l2 (k2 + 1) → IsPair h' s.heap.objs.size x y → h'.objs.size = s.heap.objs.size + 1 →
      (∀ c o, c ≠ z → c ≠ i1 → c ≠ i2 → s.heap.get? c = some o → h'.get? c = some o) → Q (some (.ref s.heap.objs.size)) { s with heap := h' }) : wpAny (model prog w) A (pyNext (.ref z)) Q E s := by
  have ty : s.TypeIs (.ref z) "zip" := ⟨_, hz, rfl⟩
  unfold pyNext
  refine wpAny_bind (wpAny_attempt (wpAny_callSpecial?_slot (name := Str.ofString "__next__") ty F.slot_zip_next (wpAny_call_entry F.slot_zip_next ty F.entry_zip_next ?_ (F.args_zip_next_1 _))))
  show wpAny _ _ (field (.ref z) 2 >>= _) _ _ _
  refine wpAny_bind (wpAny_field hz rfl (x := .bool false) rfl ?_)
  show wpAny _ _ (field (.ref z) 3 >>= _) _ _ _
  refine wpAny_bind (wpAny_field hz rfl (x := .ref TI) rfl ?_)
  refine wpAny_bind (wpAny_seqItems hI rfl ?_)
  show wpAny _ _ (Builtin.SmallTypes.ownedTupleIsFree (.ref z) >>= _) _ _ _
  refine wpAny_bind (wpAny_tupleHeld_zip hz hT fun g1 z1 e1 => ?_)
  rw [if_neg Bool.false_ne_true]
  refine wpAny_bind ?_
  rw [← Array.forIn_toList]
  simp only [List.forIn_cons, List.forIn_nil]
  refine wpAny_bind (wpAny_bind (wpAny_holding ?_))
  show wpAny _ _ (Builtin.SmallTypes.nextOf (.ref i1) >>= _) _ _ _
  refine wpAny_bind (C.item (s := { s with heap := g1 }) (C.itk a1 fun o => e1.extBut _ _ D.i1z) (C.srk m1 fun o => e1.extBut _ _ D.l1z) hx fun g2 b1 e2 => wpAny_pure (wpAny_pure ?_))
  refine wpAny_bind (wpAny_bind (wpAny_holding ?_))
  show wpAny _ _ (Builtin.SmallTypes.nextOf (.ref i2) >>= _) _ _ _
  refine wpAny_bind (C.item (s := { s with heap := g2 }) (C.itk a2 fun o q => e2.extBut _ _ D.i12.symm (e1.extBut _ _ D.i2z q)) (C.srk m2 fun o q => e2.extBut _ _ D.l2i1 (e1.extBut _ _ D.l2z q)) hy fun g3 b2 e3 => wpAny_pure (wpAny_pure (wpAny_pure ?_)))
  show wpAny _ _ (newTuple [x, y] >>= _) _ _ _
  have sz : g3.objs.size = s.heap.objs.size := by rw [e3.1, e2.1, e1.1]
  have kp : ∀ c o, c ≠ z → c ≠ i1 → c ≠ i2 → s.heap.get? c = some o → g3.get? c = some o := fun c o n0 n1 n2 e => e3.extBut _ _ n2 (e2.extBut _ _ n1 (e1.extBut _ _ n0 e))
  have z3 : IsZipHeld g3 z TI TO T true := e3.extBut _ _ D.i2z.symm (e2.extBut _ _ D.i1z.symm z1)
  refine wpAny_bind (wpAny_newTuple (wpAny_pure ⟨_, rfl, wpAny_pure ?_⟩))
  have pr : IsPair (g3.push { cls := .type "tuple", data := .seq #[x, y] }) g3.objs.size x y := Heap.get?_push_size _ rfl
  have sz4 : (g3.push { cls := .type "tuple", data := .seq #[x, y] }).objs.size = g3.objs.size + 1 := Heap.size_push ..
  rw [sz] at pr sz4
  show Q (some (.ref g3.objs.size)) _
  rw [sz]
  exact q _ (Heap.get?_push_of_some _ z3) (C.itk b1 fun o q => Heap.get?_push_of_some _ (e3.extBut _ _ D.i12 q)) (C.itk b2 fun o q => Heap.get?_push_of_some _ q) pr sz4 fun c o n0 n1 n2 e => Heap.get?_push_of_some _ (kp c o n0 n1 n2 e)
/-- no further pair -/
theorem over {Q : Option Value → Shared → Prop} (C : Cur It Src) (hh : A.handled = Option.none) (D : ZipApart z TI TO i1 i2 l1 l2) (hz : IsZipHeld s.heap z TI TO T f) (hT : s.heap.get? T = some oT) (hI : IsPair s.heap TI (.ref i1) (.ref i2))
    (a1 : It s.heap i1 l1 k1) (m1 : Src s.heap l1 xs) (hx : xs[k1]? = none)
    (q : ∀ h', (∀ c o, c ≠ z → c ≠ i1 → c ≠ i2 → s.heap.get? c = some o → h'.get? c = some o) → Q none { s with heap := h' }) : wpAny (model prog w) A (pyNext (.ref z)) Q E s := by
  have ty : s.TypeIs (.ref z) "zip" := ⟨_, hz, rfl⟩
  unfold pyNext
  refine wpAny_bind (wpAny_attempt (wpAny_callSpecial?_slot (name := Str.ofString "__next__") ty F.slot_zip_next (wpAny_call_entry F.slot_zip_next ty F.entry_zip_next ?_ (F.args_zip_next_1 _))))
  show wpAny _ _ (field (.ref z) 2 >>= _) _ _ _
  refine wpAny_bind (wpAny_field hz rfl (x := .bool false) rfl ?_)
  show wpAny _ _ (field (.ref z) 3 >>= _) _ _ _
  refine wpAny_bind (wpAny_field hz rfl (x := .ref TI) rfl ?_)
  refine wpAny_bind (wpAny_seqItems hI rfl ?_)
  show wpAny _ _ (Builtin.SmallTypes.ownedTupleIsFree (.ref z) >>= _) _ _ _
  refine wpAny_bind (wpAny_tupleHeld_zip hz hT fun g1 z1 e1 => ?_)
  rw [if_neg Bool.false_ne_true]
  refine wpAny_bind ?_
  rw [← Array.forIn_toList]
  simp only [List.forIn_cons, List.forIn_nil]
  refine wpAny_bind (wpAny_bind (wpAny_holding ?_))
  show wpAny _ _ (Builtin.SmallTypes.nextOf (.ref i1) >>= _) _ _ _
  refine wpAny_bind (C.stop (s := { s with heap := g1 }) hh (C.itk a1 fun o => e1.extBut _ _ D.i1z) (C.srk m1 fun o => e1.extBut _ _ D.l1z) hx fun g2 e x2 he => ?_)
  obtain ⟨o, ho, hc⟩ := he
  refine wpAny_bind (wpAny_isInstance (T := "StopIteration") (b := true) ⟨o, ho, hc⟩ isSubtype_stop ?_)
  exact wpAny_pure (q _ fun c o n0 n1 n2 e => x2 _ _ n1 (e1.extBut _ _ n0 e))
end
/-- a list object -/
abbrev lob (acc : Array Value) (c : Nat) : Obj := { cls := .type "list", dict := none, data := .seq acc c, slots := #[] }
theorem gt_ne {a b c : Addr} (h : a < b) (k : b < c) : c ≠ a := Nat.ne_of_gt (Nat.lt_trans h k)
/-- the pairs so far -/
structure Prs (S : Addr) (xs ys : Array Value) (i : Nat) (h : Heap) (acc : Array Value) : Prop where
  sz : acc.size = i
  pr : ∀ (j : Nat) (x y : Value), j < i → xs[j]? = some x → ys[j]? = some y → ∃ T, acc[j]? = some (.ref T) ∧ S < T ∧ IsPair h T x y
  inc : ∀ (j k : Nat) (T T' : Addr), j < k → acc[j]? = some (.ref T) → acc[k]? = some (.ref T') → T < T'
  lt : ∀ (j : Nat) (T : Addr), acc[j]? = some (.ref T) → T < h.objs.size
  ge : ∀ (j : Nat) (T : Addr), acc[j]? = some (.ref T) → S < T
structure Zst (It : Heap → Addr → Addr → Nat → Prop) (Src : Heap → Addr → Array Value → Prop) (h0 : Heap) (S z TI TO i1 i2 l1 l2 : Addr) (xs ys : Array Value) (i : Nat) (h : Heap) (acc : Array Value) : Prop where
  zf : (IsZip h z TI TO .none ∧ ∃ a b, IsPair h TO a b) ∨ ∃ T f oT, IsZipHeld h z TI TO T f ∧ h.get? T = some oT ∧ S < T
  ti : IsPair h TI (.ref i1) (.ref i2)
  a1 : It h i1 l1 i
  a2 : It h i2 l2 i
  m1 : Src h l1 xs
  m2 : Src h l2 ys
  ps : Prs S xs ys i h acc
  kp : ∀ b o, b ≠ z → b ≠ TO → b ≠ i1 → b ≠ i2 → b ≠ S → h0.get? b = some o → h.get? b = some o
theorem loop {It : Heap → Addr → Addr → Nat → Prop} {Src : Heap → Addr → Array Value → Prop} {prog : Program} {w : World} {A : Around} {R : Result → Shared → Prop} {h0 : Heap} {S z TI TO i1 i2 l1 l2 : Addr} {xs ys : Array Value}
    (C : Cur It Src) (hh : A.handled = none) (D : ZipApart z TI TO i1 i2 l1 l2) (u : z < S ∧ TI < S ∧ TO < S ∧ i1 < S ∧ i2 < S ∧ l1 < S ∧ l2 < S) (hl : xs.size = ys.size) (hn : xs.size ≤ 100000) :
    ∀ (k i : Nat) (s : Shared) (acc : Array Value) (c : Nat), xs.size - i = k → i ≤ xs.size → Zst It Src h0 S z TI TO i1 i2 l1 l2 xs ys i s.heap acc → s.heap.get? S = some (lob acc c) →
      (∀ h' acc' c', (∀ b o, b ≠ z → b ≠ TO → b ≠ i1 → b ≠ i2 → b ≠ S → h0.get? b = some o → h'.get? b = some o) → h'.get? S = some (lob acc' c') → Prs S xs ys xs.size h' acc' → R (.ok (.ret .none)) { s with heap := h' }) →
      codeAny (model prog w) A (.builtin "list.extend.loop" ⟨[.ref S, .ref z, .none], []⟩) R s := by
  obtain ⟨uz, uI, uO, u1, u2, u3, u4⟩ := u
  have line : sizeLine = 16777216 := rfl
  intro k
  induction k with
  | zero =>
    intro i s acc c hk hi st hS q
    have ei : i = xs.size := by omega
    subst ei
    refine codeAny_builtin F.entry_extend_loop ?_
    rw [Around.under_plainId F.plain_extend_loop _]
    show wpAny _ A.in1 (pyNext (.ref z) >>= _) _ _ s
    have hend : xs[xs.size]? = none := by simp
    have fin : ∀ h', (∀ c o, c ≠ z → c ≠ TO → c ≠ i1 → c ≠ i2 → s.heap.get? c = some o → h'.get? c = some o) → R (.ok (.ret .none)) { s with heap := h' } := fun h' kp => by
      have hS' : h'.get? S = some (lob acc c) := kp S _ (Nat.ne_of_gt uz) (Nat.ne_of_gt uO) (Nat.ne_of_gt u1) (Nat.ne_of_gt u2) hS
      have big : ∀ T, S < T → T ≠ z ∧ T ≠ TO ∧ T ≠ i1 ∧ T ≠ i2 := fun T h => ⟨gt_ne uz h, gt_ne uO h, gt_ne u1 h, gt_ne u2 h⟩
      refine q h' acc c (fun b o n0 n1 n2 n3 n4 e => kp b o n0 n1 n2 n3 (st.kp b o n0 n1 n2 n3 n4 e)) hS' ⟨st.ps.sz, fun j x y hj hx hy => ?_, st.ps.inc, fun j T e => ?_, st.ps.ge⟩
      · obtain ⟨T, e1, e2, e3⟩ := st.ps.pr j x y hj hx hy
        obtain ⟨n0, n1, n2, n3⟩ := big T e2
        exact ⟨T, e1, e2, kp T _ n0 n1 n2 n3 e3⟩
      · have hjs : j < acc.size := (Array.getElem?_eq_some_iff.mp e).1
        have hj : j < xs.size := by rw [← st.ps.sz]; exact hjs
        obtain ⟨T', e1, e2, e3⟩ := st.ps.pr j xs[j] ys[j] hj (by simp [hj]) (by simp [hl ▸ hj])
        rw [e] at e1
        cases e1
        obtain ⟨n0, n1, n2, n3⟩ := big T e2
        exact Heap.lt_size (kp T _ n0 n1 n2 n3 e3)
    rcases st.zf with ⟨z0, a, b, p0⟩ | ⟨T, f, oT, z0, hT, hlt⟩
    · exact wpAny_bind (C.none (A := A.in1) hh D z0 st.ti p0 st.a1 st.a2 st.m1 st.m2 (.inl hend) fun h' kp => wpAny_pure (fin h' kp))
    · exact wpAny_bind (over (A := A.in1) C hh D z0 hT st.ti st.a1 st.m1 hend fun h' kp => wpAny_pure (fin h' fun c o n0 _ n2 n3 e => kp c o n0 n2 n3 e))
  | succ k ih =>
    intro i s acc c hk hi st hS q
    have hlt : i < xs.size := by omega
    have hlt2 : i < ys.size := by omega
    have gx : xs[i]? = some xs[i] := by simp [hlt]
    have gy : ys[i]? = some ys[i] := by simp [hlt2]
    refine codeAny_builtin F.entry_extend_loop ?_
    rw [Around.under_plainId F.plain_extend_loop _]
    show wpAny _ A.in1 (pyNext (.ref z) >>= _) _ _ s
    have hSlt : S < s.heap.objs.size := Heap.lt_size hS
    have step : ∀ h', (IsZipHeld h' z TI TO s.heap.objs.size false ∨ ∃ T f oT, IsZipHeld h' z TI TO T f ∧ h'.get? T = some oT ∧ S < T) → It h' i1 l1 (i + 1) → It h' i2 l2 (i + 1) → IsPair h' s.heap.objs.size xs[i] ys[i] → h'.objs.size = s.heap.objs.size + 1 →
        (∀ c o, c ≠ z → c ≠ TO → c ≠ i1 → c ≠ i2 → s.heap.get? c = some o → h'.get? c = some o) →
        wpAny (model prog w) A.in1 (updateSeq S (·.push (.ref s.heap.objs.size)) >>= fun _ => again (.builtin "list.extend.loop" ⟨[.ref S, .ref z, .none], []⟩))
          (fun fin s' => match fin with | .done f => R (.ok f) s' | .again c' => c'.quiet = true ∧ codeAny (model prog w) A c' R s') (fun e s' => R (.error e) s') { s with heap := h' } := fun h' zz b1 b2 pr sz kp => by
      have hS' : h'.get? S = some (lob acc c) := kp S _ (Nat.ne_of_gt uz) (Nat.ne_of_gt uO) (Nat.ne_of_gt u1) (Nat.ne_of_gt u2) hS
      have asz := st.ps.sz
      refine wpAny_bind (wpAny_updateSeq (s := { s with heap := h' }) hS' rfl (wpAny_pure ⟨plainId_quiet F.plain_extend_loop _, ?_⟩) (by rw [asz, line]; omega) (by show (acc.push _).size ≤ _; rw [Array.size_push, asz, line]; omega))
      have oth : ∀ b o, b ≠ S → h'.get? b = some o → (h'.update S (Obj.mapSeq (·.push (.ref s.heap.objs.size)))).get? b = some o := fun b o n e => (Heap.get?_update_other _ _ (Ne.symm n)).trans e
      have own : (h'.update S (Obj.mapSeq (·.push (.ref s.heap.objs.size)))).get? S = some (Obj.mapSeq (·.push (.ref s.heap.objs.size)) (lob acc c)) := Heap.get?_update_self _ hS' rfl
      have usz : (h'.update S (Obj.mapSeq (·.push (.ref s.heap.objs.size)))).objs.size = h'.objs.size := (Heap.SameBut.update ..).1
      refine ih (i + 1) { s with heap := h'.update S (Obj.mapSeq (·.push (.ref s.heap.objs.size))) } (acc.push (.ref s.heap.objs.size)) _ (by omega) (by omega) ?_ own (fun h2 acc' c' k2 e2 p2 => q h2 acc' c' k2 e2 p2)
      have nS : ∀ {b : Addr}, b < S → b ≠ S := fun h => Nat.ne_of_lt h
      have at1 : ∀ {j : Nat} {T : Addr}, (acc.push (.ref s.heap.objs.size))[j]? = some (.ref T) → (j < i ∧ acc[j]? = some (.ref T)) ∨ (j = i ∧ T = s.heap.objs.size) := fun {j T} e => by
        rw [Array.getElem?_push] at e
        by_cases hj : j = acc.size
        · rw [if_pos hj] at e
          cases e
          exact .inr ⟨by omega, rfl⟩
        · rw [if_neg hj] at e
          have := (Array.getElem?_eq_some_iff.mp e).1
          exact .inl ⟨by omega, e⟩
      refine ⟨?_, oth _ _ (nS uI) (kp _ _ D.TIz D.TITO D.TIi1 D.TIi2 st.ti), C.itk b1 fun o e => oth _ o (nS u1) e, C.itk b2 fun o e => oth _ o (nS u2) e,
        C.srk st.m1 fun o e => oth _ o (nS u3) (kp _ o D.l1z D.l1TO D.l1i1 D.l1i2 e), C.srk st.m2 fun o e => oth _ o (nS u4) (kp _ o D.l2z D.l2TO D.l2i1 D.l2i2 e), ⟨by rw [Array.size_push, asz], fun j x y hj hx hy => ?_, fun j k T T' hjk e1 e2 => ?_, fun j T e => ?_, fun j T e => ?_⟩,
        fun b o n0 n1 n2 n3 n4 e => oth b o n4 (kp b o n0 n1 n2 n3 (st.kp b o n0 n1 n2 n3 n4 e))⟩
      · rcases zz with zz | ⟨T, f, oT, zz, hT, hgt⟩
        · exact .inr ⟨_, false, _, oth _ _ (nS uz) zz, oth _ _ (Nat.ne_of_gt hSlt) pr, hSlt⟩
        · exact .inr ⟨T, f, oT, oth _ _ (nS uz) zz, oth _ _ (Nat.ne_of_gt hgt) hT, hgt⟩
      · rcases Nat.lt_or_ge j i with h | h
        · obtain ⟨T, e1, e2, e3⟩ := st.ps.pr j x y h hx hy
          refine ⟨T, by rw [Array.getElem?_push, if_neg (by omega)]; exact e1, e2, oth _ _ (Nat.ne_of_gt e2) (kp T _ (gt_ne uz e2) (gt_ne uO e2) (gt_ne u1 e2) (gt_ne u2 e2) e3)⟩
        · obtain rfl : j = i := by omega
          rw [gx] at hx
          rw [gy] at hy
          cases hx
          cases hy
          exact ⟨s.heap.objs.size, by rw [Array.getElem?_push, if_pos asz.symm], hSlt, oth _ _ (Nat.ne_of_gt hSlt) pr⟩
      · rcases at1 e1 with ⟨h1, q1⟩ | ⟨h1, q1⟩ <;> rcases at1 e2 with ⟨h2, q2⟩ | ⟨h2, q2⟩
        · exact st.ps.inc j k T T' hjk q1 q2
        · rw [q2]; exact st.ps.lt j T q1
        · exact absurd (Nat.lt_trans hjk h2) (by rw [h1]; exact Nat.lt_irrefl _)
        · exact absurd hjk (by rw [h1, h2]; exact Nat.lt_irrefl _)
      · rw [usz, sz]
        rcases at1 e with ⟨h1, q1⟩ | ⟨h1, q1⟩
        · exact Nat.lt_succ_of_lt (st.ps.lt j T q1)
        · rw [q1]; exact Nat.lt_succ_self _
      · rcases at1 e with ⟨h1, q1⟩ | ⟨h1, q1⟩
        · exact st.ps.ge j T q1
        · rw [q1]; exact hSlt
    rcases st.zf with ⟨z0, a, b, p0⟩ | ⟨T, f, oT, z0, hT, hgt⟩
    · exact wpAny_bind (C.first (A := A.in1) D z0 st.ti p0 st.a1 st.a2 st.m1 st.m2 gx gy fun h' zz pO b1 b2 pr sz kp => step h' (.inl zz) b1 b2 pr sz kp)
    · exact wpAny_bind (more (A := A.in1) C D z0 hT st.ti st.a1 st.a2 st.m1 st.m2 gx gy fun h' zz b1 b2 pr sz kp => step h' (.inr ⟨T, true, oT, zz, kp T _ (gt_ne uz hgt) (gt_ne u1 hgt) (gt_ne u2 hgt) hT, hgt⟩) b1 b2 pr sz fun c o n0 _ n2 n3 e => kp c o n0 n2 n3 e)
theorem zip_no_len : typeLookup (.type "zip") "__len__" = pure none := am_miss_of_fast (by decide +kernel)
theorem zip_no_hint : typeLookup (.type "zip") "__length_hint__" = pure none := am_miss_of_fast (by decide +kernel)
/-- list(z) of a zip that nobody has walked -/
theorem call_list_zip {It : Heap → Addr → Addr → Nat → Prop} {Src : Heap → Addr → Array Value → Prop} {prog : Program} {w : World} {A : Around} {E Q : Value → Shared → Prop} {s : Shared} {z TI TO i1 i2 l1 l2 : Addr} {xs ys : Array Value} {a b : Value}
    (C : Cur It Src) (hh : A.handled = none) (D : ZipApart z TI TO i1 i2 l1 l2) (hz : IsZip s.heap z TI TO .none) (hI : IsPair s.heap TI (.ref i1) (.ref i2)) (hO : IsPair s.heap TO a b)
    (a1 : It s.heap i1 l1 0) (a2 : It s.heap i2 l2 0) (m1 : Src s.heap l1 xs) (m2 : Src s.heap l2 ys) (u : z < s.heap.objs.size ∧ TI < s.heap.objs.size ∧ TO < s.heap.objs.size ∧ i1 < s.heap.objs.size ∧ i2 < s.heap.objs.size ∧ l1 < s.heap.objs.size ∧ l2 < s.heap.objs.size)
    (hl : xs.size = ys.size) (hn : xs.size ≤ 100000)
    (q : ∀ h' acc c, (∀ b o, b ≠ z → b ≠ TO → b ≠ i1 → b ≠ i2 → s.heap.get? b = some o → h'.get? b = some o) → h'.get? s.heap.objs.size = some (lob acc c) → Prs s.heap.objs.size xs ys xs.size h' acc → Q (.ref s.heap.objs.size) { s with heap := h' }) :
    wpAny (model prog w) A (call (.type "list") [.ref z]) Q E s := by
  generalize hSz : s.heap.objs.size = S at *
  have nz : S ≠ z := Nat.ne_of_gt u.1
  refine callType_codes (Q₁ := fun obj t => obj = .ref S ∧ t = { s with heap := s.heap.push { cls := .type "list", data := .seq #[] } }) F.called_list (F.typeCall_list_1 _) F.entry_list_init (code_list_new _ ⟨by rw [hSz], rfl⟩) fun obj t ht => ?_
  obtain ⟨rfl, rfl⟩ := ht
  have g0 : (s.heap.push { cls := .type "list", data := .seq #[] }).get? S = some { cls := .type "list", data := .seq #[] } := by rw [← hSz]; exact Heap.get?_push_size _ rfl
  refine ⟨⟨_, g0, rfl⟩, F.args_list_init_2 _ _, ?_⟩
  show wpAny _ A.in1.in1 (do let old ← Builtin.List.listItems (.ref S); Builtin.List.listUpdate (.ref S) (fun _ => #[]); letGo old.toList.reverse; Builtin.List.listExtendWith (.ref S) (.ref z) .none) _ _ _
  refine wpAny_bind ?_
  unfold Builtin.List.listItems
  refine wpAny_bind (wpAny_seqItems g0 rfl (wpAny_pure ?_))
  show wpAny _ A.in1.in1 (updateSeq S (fun _ => #[]) >>= fun _ => letGo (#[] : Array Value).toList.reverse >>= fun _ => Builtin.List.listExtendWith (.ref S) (.ref z) .none) _ _ _
  refine wpAny_bind (wpAny_updateSeq g0 rfl ?_)
  have g1 := Heap.get?_update_self (Obj.mapSeq (fun _ => (#[] : Array Value))) g0 rfl
  refine wpAny_bind (wpAny_letGo ?_)
  unfold Builtin.List.listExtendWith
  have up : ∀ (h : Heap) (f : Obj → Obj), (∀ b o, b ≠ S → s.heap.get? b = some o → h.get? b = some o) → ∀ b o, b ≠ S → s.heap.get? b = some o → (h.update S f).get? b = some o := fun h f k b o n e => (Heap.get?_update_other _ _ (Ne.symm n)).trans (k b o n e)
  have k1 : ∀ b o, b ≠ S → s.heap.get? b = some o → (s.heap.push { cls := .type "list", data := .seq #[] }).get? b = some o := fun b o _ e => Heap.get?_push_of_some _ e
  have k2 := up _ (Obj.mapSeq (fun _ => (#[] : Array Value))) k1
  have zty : ∀ {h : Heap}, (∀ b o, b ≠ S → s.heap.get? b = some o → h.get? b = some o) → IsZip h z TI TO .none := fun {h} k => k z _ (Ne.symm nz) hz
  refine wpAny_bind (wpAny_typeOf (T := "zip") ⟨_, zty k2, rfl⟩ ?_)
  have h1 : Builtin.List.listSameRef (.ref S) (.ref z) = false := by simp [Builtin.List.listSameRef, nz]
  have h2 : (Value.type "zip" == Value.type "list") = false := by decide
  have h3 : (Value.type "zip" == Value.type "tuple") = false := by decide
  simp only [h1, h2, h3, Bool.or_false, Bool.false_eq_true, if_false]
  refine wpAny_bind (wpAny_pyIter_zip (s := { s with heap := _ }) (zty k2) ?_)
  refine wpAny_bind (wpAny_holding ?_)
  unfold Builtin.List.listLengthHint
  refine wpAny_bind (wpAny_specialOf (T := "zip") ⟨_, zty k2, rfl⟩ zip_no_len ?_)
  show wpAny _ A.in1.in1 (specialOf (Value.ref z) (Str.ofString "__length_hint__") >>= _) _ _ _
  refine wpAny_bind (wpAny_specialOf (T := "zip") ⟨_, zty k2, rfl⟩ zip_no_hint ?_)
  refine wpAny_pure ?_
  show wpAny _ A.in1.in1 (rule "list.extend.makes-room" >>= fun _ => Builtin.List.listTouch (.ref S) >>= fun _ => again (.builtin "list.extend.loop" ⟨[.ref S, .ref z, .none], []⟩)) _ _ _
  refine wpAny_bind (wpAny_rule ?_)
  refine wpAny_bind ?_
  show wpAny _ A.in1.in1 (updateSeq S (·.push .none) >>= fun _ => updateSeq S (·.pop)) _ _ _
  refine wpAny_bind (wpAny_updateSeq g1 rfl ?_)
  have g2 := Heap.get?_update_self (Obj.mapSeq (·.push Value.none)) g1 rfl
  refine wpAny_updateSeq (hz := by seq_fits) g2 rfl ?_
  have g3 := Heap.get?_update_self (Obj.mapSeq (·.pop)) g2 rfl
  have k4 := up _ (Obj.mapSeq (·.pop)) (up _ (Obj.mapSeq (·.push Value.none)) k2)
  refine wpAny_pure ⟨plainId_quiet F.plain_extend_loop _, ?_⟩
  have nS : ∀ {b : Addr}, b < S → b ≠ S := fun h => Nat.ne_of_lt h
  obtain ⟨uz, uI, uO, u1, u2, u3, u4⟩ := id u
  refine loop (A := A.in1) (h0 := s.heap) C hh D u hl hn xs.size 0 _ #[] _ (by omega) (Nat.zero_le _) ⟨.inl ⟨zty k4, a, b, k4 _ _ (nS uO) hO⟩, k4 _ _ (nS uI) hI, C.itk a1 fun o e => k4 _ o (nS u1) e, C.itk a2 fun o e => k4 _ o (nS u2) e, C.srk m1 fun o e => k4 _ o (nS u3) e, C.srk m2 fun o e => k4 _ o (nS u4) e,
    ⟨rfl, fun j _ _ hj => absurd hj (Nat.not_lt_zero _), fun _ _ _ _ _ e => by simp at e, fun _ _ e => by simp at e, fun _ _ e => by simp at e⟩, fun b o _ _ _ _ n e => k4 b o n e⟩ g3 fun h' acc' c' kp hS' ps => ⟨rfl, ?_⟩
  exact q h' acc' c' (fun b o n0 n1 n2 n3 e => kp b o n0 n1 n2 n3 (Nat.ne_of_lt (by rw [← hSz]; exact Heap.lt_size e)) e) hS' ps
/-- what list(zip(..)) holds -/
def Zs (H1 H2 : Hp) (xs ys zs : List V) : Prop := zs.length = xs.length ∧ ∀ (i : Nat) (x y : V), xs[i]? = some x → ys[i]? = some y → ∃ T, zs[i]? = some (.ref T) ∧ H1 T = none ∧ H2 T = some (.tup [x, y])
def tLz (K : PySem.W.Frag) (ta : TA) : TE := fun σ H Q => ta σ H fun vs H1 => ∃ (a b : Addr) (xs ys : List V), vs = [.ref a, .ref b] ∧ ((SqL K H1 a xs ∧ SqL K H1 b ys) ∨ (SqT K H1 a xs ∧ SqT K H1 b ys)) ∧ xs.length = ys.length ∧ xs.length ≤ 100000 ∧
  ∀ (d : Addr) (zs : List V) (H2 : Hp), L2.Same H1 H2 → H1 d = none → H2 d = some (.lst zs) → Zs H1 H2 xs ys zs → Q (.ref d) H2
theorem refs_of : ∀ l : List Value, (∀ v ∈ l, ∃ T, v = .ref T) → ∃ zs : List V, Vals zs l ∧ ∀ (j : Nat) (T : Addr), l[j]? = some (.ref T) → zs[j]? = some (.ref T)
  | [], _ => ⟨[], .nil, fun j T e => by simp at e⟩
  | v :: l, h => by
    obtain ⟨T, rfl⟩ := h v (List.mem_cons_self ..)
    obtain ⟨zs, h1, h2⟩ := refs_of l fun v hv => h v (List.mem_cons_of_mem _ hv)
    refine ⟨.ref T :: zs, .cons rfl h1, fun j U e => ?_⟩
    cases j with
    | zero => simp at e; subst e; rfl
    | succ j => simp at e; simpa using h2 j U e
theorem grow {P : Program} {w : World} {H1 : Hp} {h3 : Heap} {acc : Array Value} {S : Addr} {xs ys : List V} {us vs : List Value} (rx : Vals xs us) (ry : Vals ys vs) (hl : xs.length = ys.length) (ps : Prs S us.toArray vs.toArray us.length h3 acc)
    (fresh : ∀ T, S < T → H1 T = none) (old : HOk P w H1 h3) : ∀ m, m ≤ xs.length → ∃ H2 : Hp, L2.Same H1 H2 ∧ (∀ (j : Nat) (x y : V) (T : Addr), j < m → xs[j]? = some x → ys[j]? = some y → acc[j]? = some (.ref T) → H2 T = some (.tup [x, y])) ∧
      (∀ b, H1 b = none → (∀ j, j < m → acc[j]? ≠ some (.ref b)) → H2 b = none) ∧ HOk P w H2 h3 := by
  intro m
  induction m with
  | zero => exact fun _ => ⟨H1, L2.Same.refl H1, fun j _ _ _ h => absurd h (Nat.not_lt_zero _), fun b e _ => e, old⟩
  | succ m ih =>
    intro hm
    obtain ⟨H2, s2, g2, f2, o2⟩ := ih (by omega)
    have mx : xs[m]? = some xs[m] := List.getElem?_eq_getElem (by omega)
    have my : ys[m]? = some ys[m] := List.getElem?_eq_getElem (by omega)
    obtain ⟨u, hu, ru⟩ := rx.get mx
    obtain ⟨v, hv, rv⟩ := ry.get my
    obtain ⟨T, eT, gT, pT⟩ := ps.pr m u v (by rw [← rx.length]; omega) (by simpa using hu) (by simpa using hv)
    have nT : H2 T = none := f2 T (fresh T gT) fun j hj e => absurd (ps.inc j m T T hj e eT) (Nat.lt_irrefl _)
    refine ⟨upd H2 T (.tup [xs[m], ys[m]]), s2.trans (GL.Same.new' nT), fun j x y U hj hx hy e => ?_, fun b e hb => ?_, o2.laidN (fun _ _ q => q) nT ⟨by show 2 ≤ sizeLine; decide, [u, v], .cons ru (.cons rv .nil), ⟨_, pT, rfl, _, rfl⟩⟩⟩
    · rcases Nat.lt_or_ge j m with h | h
      · rw [upd_ne (Nat.ne_of_lt (ps.inc j m U T h e eT))]
        exact g2 j x y U h hx hy e
      · obtain rfl : j = m := by omega
        rw [mx] at hx
        rw [my] at hy
        rw [eT] at e
        cases hx
        cases hy
        cases e
        exact upd_same
    · have nb : b ≠ T := fun z => hb m (Nat.lt_succ_self m) (by rw [z]; exact eT)
      rw [upd_ne nb]
      exact f2 b e fun j hj => hb j (by omega)
theorem pe_listZip {X : Cx} {e e2 : Expr} {ta : TA} {p p' pos pos' : Pos} (hc : X.calm = true) (hg : Gl X "zip") (hm : X.mg "zip" = none) (hg' : Gl X "list") (hm' : X.mg "list" = none) (ha : PA X [e, e2] ta)
    (hs : starEach [e, e2] X.env = (false, eval e X.env) :: starEach [e2] X.env := by rfl) (hpl : (backTo pos (starEach [e2] X.env)).any (·.1) = false := by rfl)
    (hs' : starEach [Expr.Call (.Name "zip" p) [e, e2] [] pos] X.env = (false, eval (Expr.Call (.Name "zip" p) [e, e2] [] pos) X.env) :: starEach [] X.env := by rfl) :
    PE X (.Call (.Name "list" p') [.Call (.Name "zip" p) [e, e2] [] pos] [] pos') (tLz X.K ta) := by
  refine ⟨fun pins s σ H Q I h => ?_⟩
  refine wpAny_Call_Name_kw (ld_blt I hg' hm' PyProof.Rows.boot_list ?_)
  refine PyProof.Rows.callWith_type1 ?_ hs' rfl
  rw [hs']
  show wpAny _ _ (spliced ((false, eval (Expr.Call (.Name "zip" p) [e, e2] [] pos) X.env) :: backTo pos' (starEach [] X.env))) _ _ s
  refine Calls.spliced_cons ?_
  refine wpAny_Call_Name_kw (ld_blt I hg hm PyProof.Rows.boot_zip (PyProof.Rows.callWith_type1 (thn (ha.run pos pins s σ H _ I h) fun us s1 ⟨ws, H1, I1, r1, q1⟩ => ?_) hs hpl))
  obtain ⟨a, b, xs, ys, ex, q1⟩ := q1
  subst ex
  obtain ⟨sq, hl, hn, q⟩ := q1
  cases r1 with
  | cons r rr =>
    cases rr with
    | cons r' rr =>
      cases rr
      cases r
      cases r'
      have main : ∀ {It : Heap → Addr → Addr → Nat → Prop} {Src : Heap → Addr → Array Value → Prop} {us vs : List Value} (C : Cur It Src) (rx : Vals xs us) (ry : Vals ys vs) (m1 : Src s1.heap a us.toArray) (m2 : Src s1.heap b vs.toArray) (la : a < s1.heap.objs.size) (lb : b < s1.heap.objs.size) (h' : Heap),
          IsZip h' (s1.heap.objs.size + 4) (s1.heap.objs.size + 2) (s1.heap.objs.size + 3) .none → IsPair h' (s1.heap.objs.size + 2) (.ref s1.heap.objs.size) (.ref (s1.heap.objs.size + 1)) → IsPair h' (s1.heap.objs.size + 3) .none .none →
          It h' s1.heap.objs.size a 0 → It h' (s1.heap.objs.size + 1) b 0 → h'.objs.size = s1.heap.objs.size + 5 → (∀ c o, s1.heap.get? c = some o → h'.get? c = some o) →
          wpAny (model X.prog X.w) X.A (spliced (backTo pos' (starEach [] X.env))) (fun us2 s2 => wpAny (model X.prog X.w) X.A (call (.type "list") (Value.ref (s1.heap.objs.size + 4) :: us2)) (EP X pins σ Q) X.xe s2) X.xe { s1 with heap := h' } := by
        intro It Src us vs C rx ry m1 m2 la lb h' hz hI hO a1 a2 sz kp
        refine Calls.spliced_nil ?_
        have rl := rx.length
        have rl2 := ry.length
        refine call_list_zip (s := { s1 with heap := h' }) C (I.ok.hd hc) (PySem.W.ktu_apart s1.heap.objs.size a b la lb) hz hI hO a1 a2 (C.srk m1 fun o => kp _ o) (C.srk m2 fun o => kp _ o) ?_ (by simp; omega) (by simp; omega) fun h3 acc c kp3 hS ps => ?_
        · show _ < h'.objs.size ∧ _ < h'.objs.size ∧ _ < h'.objs.size ∧ _ < h'.objs.size ∧ _ < h'.objs.size ∧ _ < h'.objs.size ∧ _ < h'.objs.size
          rw [sz]
          refine ⟨?_, ?_, ?_, ?_, ?_, Nat.lt_of_lt_of_le la (Nat.le_add_right _ _), Nat.lt_of_lt_of_le lb (Nat.le_add_right _ _)⟩
          · exact Nat.lt_succ_self _
          · exact Nat.add_lt_add_left (by decide) _
          · exact Nat.add_lt_add_left (by decide) _
          · exact Nat.lt_add_of_pos_right (by decide)
          · exact Nat.add_lt_add_left (by decide) _
        · have ge : s1.heap.objs.size ≤ h'.objs.size := by rw [sz]; exact Nat.le_add_right _ _
          have k1 : ∀ b o, s1.heap.get? b = some o → h3.get? b = some o := fun b o eb => by
            have lb := Heap.lt_size eb
            exact kp3 b o (Nat.ne_of_lt (Nat.lt_of_lt_of_le lb (Nat.le_add_right _ _))) (Nat.ne_of_lt (Nat.lt_of_lt_of_le lb (Nat.le_add_right _ _))) (Nat.ne_of_lt lb) (Nat.ne_of_lt (Nat.lt_of_lt_of_le lb (Nat.le_add_right _ _))) (kp b o eb)
          have ps' : Prs h'.objs.size us.toArray vs.toArray us.length h3 acc := by
            have := ps
            rw [List.size_toArray] at this
            exact this
          obtain ⟨H2, s2, g2, f2, o2⟩ := grow (P := X.prog) (w := X.w) rx ry hl ps' (fun T hT => I1.hok.fresh (Nat.le_trans ge (Nat.le_of_lt hT))) (I1.hok.kept k1) xs.length (Nat.le_refl _)
          have refs : ∀ v ∈ acc.toList, ∃ T, v = Value.ref T := fun v hv => by
            obtain ⟨j, hj, e⟩ := List.getElem_of_mem hv
            have hj' : j < us.length := by rw [← ps'.sz]; simpa using hj
            obtain ⟨T, eT, _, _⟩ := ps'.pr j us[j] (vs[j]'(by omega)) hj' (by simp [hj']) (by simp)
            have e2 : acc.toList[j]? = some v := by rw [List.getElem?_eq_getElem hj, e]
            rw [Array.getElem?_toList] at e2
            rw [eT] at e2
            exact ⟨T, (Option.some.inj e2).symm⟩
          obtain ⟨zs, hv, hz2⟩ := refs_of acc.toList refs
          have zl : zs.length = xs.length := by rw [hv.length, Array.length_toList, ps'.sz, rl]
          have nS1 : H1 h'.objs.size = none := I1.hok.fresh ge
          have nS : H2 h'.objs.size = none := f2 _ nS1 fun j _ e => absurd (ps'.ge j _ e) (Nat.lt_irrefl _)
          have s3 : L2.Same H1 (upd H2 h'.objs.size (.lst zs)) := s2.trans (GL.Same.new' nS)
          have ok3 : HOk X.prog X.w (upd H2 h'.objs.size (.lst zs)) h3 := o2.laidN (fun _ _ q => q) nS ⟨by rw [zl]; exact Nat.le_trans hn (by decide), acc.toList, c, hv, hS⟩
          refine ⟨.ref h'.objs.size, upd H2 h'.objs.size (.lst zs), I1.un (t' := s1.toks) ⟨fun b o eb _ _ _ => k1 b o eb, fun b o eb _ _ _ => ⟨o.slots, k1 b o eb⟩, fun b o eb nb _ => ?_, fun b o eb _ => ⟨o, k1 b o eb⟩, fun b ws e => s3 _ _ e, fun b o u e => s3 _ _ e, fun b ps e => ⟨#[], by rw [s3 _ _ e]; simp⟩⟩ ok3, rfl, ?_⟩
          · have lb := Nat.lt_of_lt_of_le (Heap.lt_size eb) ge
            rw [upd_ne (Nat.ne_of_lt lb)]
            exact f2 b nb fun j _ e => absurd (Nat.lt_trans (ps'.ge j _ e) lb) (Nat.lt_irrefl _)
          · refine q _ zs _ s3 nS1 upd_same ⟨zl, fun i x y hx hy => ?_⟩
            have hi : i < xs.length := (List.getElem?_eq_some_iff.mp hx).1
            obtain ⟨u, hu, _⟩ := rx.get hx
            obtain ⟨v, hv2, _⟩ := ry.get hy
            obtain ⟨T, eT, gT, _⟩ := ps'.pr i u v (by omega) (by simpa using hu) (by simpa using hv2)
            refine ⟨T, hz2 i T (by rw [Array.getElem?_toList]; exact eT), I1.hok.fresh (Nat.le_trans ge (Nat.le_of_lt gT)), ?_⟩
            rw [upd_ne (Nat.ne_of_gt gT)]
            exact g2 i x y T hi hx hy eT
      rcases sq with ⟨qa, qb⟩ | ⟨qa, qb⟩
      · obtain ⟨us, rv, p1, _⟩ := I1.list qa
        obtain ⟨vs, rv2, p2, _⟩ := I1.list qb
        exact call_zip_2 p1.isList p2.isList fun h' hz hI hO a1 a2 sz kp => main curL rv rv2 p1.isList p2.isList p1.lt p2.lt h' hz hI hO a1 a2 sz kp
      · obtain ⟨us, rv, p1, _⟩ := I1.tuple qa
        obtain ⟨vs, rv2, p2, _⟩ := I1.tuple qb
        have la : a < s1.heap.objs.size := let ⟨_, ho, _⟩ := id p1; Heap.lt_size ho
        have lb : b < s1.heap.objs.size := let ⟨_, ho, _⟩ := id p2; Heap.lt_size ho
        exact RZ.call_zipT (show s1.heap.IsTuple a us.toArray from p1) (show s1.heap.IsTuple b vs.toArray from p2) fun h' hz hI hO a1 a2 sz kp => main curT rv rv2 p1 p2 la lb h' hz hI hO a1 a2 sz kp
end ZL

/-! any(xs) of a list of ints. -/
namespace L2
open PySem PySem.Spec PyProof.Rows
theorem vals_int : ∀ {xs : List Int} {its : List Value} {i : Nat} {v : Value}, Vals (xs.map V.int) its → its[i]? = some v → ∃ x t, xs[i]? = some x ∧ v = .int x t
  | [], _, i, v, r, e => by cases r; simp at e
  | x :: xs, _, 0, v, r, e => by
    cases r with
    | cons a r => 
      obtain ⟨t, rfl⟩ := a
      simp at e
      exact ⟨x, t, rfl, e.symm⟩
  | x :: xs, _, i + 1, v, r, e => by
    cases r with
    | cons a r =>
      rename_i b its'
      have e' : its'[i]? = some v := by simpa using e
      simpa using vals_int r e'
theorem truth_ints {prog : Program} {w : World} {A : Around} {xs : List Int} {its : List Value} (e : Vals (xs.map V.int) its) :
    TruthOf prog w A (fun i v => its.toArray[i]? = some v) (fun i => xs.getD i 0 != 0) := fun i v s Q E hv hq => by
  obtain ⟨x, t, hx, rfl⟩ := vals_int e (show its[i]? = some v by simpa using hv)
  have hg : xs.getD i 0 = x := by rw [List.getD_eq_getElem?_getD, hx]; rfl
  have hq' : Q (xs.getD i 0 != 0) s := hq
  rw [hg] at hq'
  exact truthy_int hq'
theorem anyI_range : ∀ xs : List Int, (List.range xs.length).any (fun i => xs.getD i 0 != 0) = xs.any (· != 0)
  | [] => rfl
  | b :: bs => by
    rw [List.length_cons, List.range_succ_eq_map, List.any_cons, List.any_map, List.any_cons, ← anyI_range bs]
    all_goals rfl
section
variable {X : Cx}
def rAnyI (K : PySem.W.Frag) : List V → Hp → VK → Prop := fun vs H Q => ∃ (a : Addr) (xs : List Int), vs = [V.ref a] ∧ SqL K H a (xs.map V.int) ∧ Q (.bl (xs.any (· != 0))) H
theorem cr_anyI (hc : X.calm = true) : CallR X (.builtin "any") (rAnyI X.K) := by
  intro pins s σ H vs us Q I r h
  obtain ⟨a, xs, rfl, hs, q⟩ := h
  obtain ⟨us', rv, hl, _⟩ := I.list hs
  rw [Vals.ref1 r]
  refine call_any_walk (iter_any hl.isList fun s2 same at0 other => ?_)
  subst same
  refine ⟨_, _, _, _, _, _, _, rfl, Walks.list (A := X.A.in1) (I.ok.hd hc) _ a other us'.toArray, at0, truth_ints rv, fun h' tk hk => ?_⟩
  have keep : ∀ b o, s.heap.get? b = some o → h'.get? b = some o := fun b o eo => hk b o (fun m => Nat.lt_irrefl _ ((List.mem_singleton.mp m) ▸ Heap.lt_size eo)) (Heap.get?_push_of_some _ eo)
  refine ⟨.bl _, H, I.kept keep, congrArg Value.bool ?_, q⟩
  have l : us'.length = xs.length := by
    have := rv.length
    simpa using this.symm
  rw [← anyI_range, List.size_toArray, l]
end
end L2

/-! sorted(d), d a dict whose keys are pairs of ints: a list of the keys, in some order. -/
namespace L2
open PySem PySem.Spec PyProof.Rows
section
variable {X : Cx}
def rSortDT : List V → Hp → VK → Prop := fun xs H Q => ∃ (d : Addr) (kvs : List (List Key × V)), xs = [V.ref d] ∧ Rd H d (.dT kvs) ∧ (∀ p ∈ kvs, ∃ i j : Int, p.1 = [Sum.inl i, Sum.inl j]) ∧ ∀ (p : Addr) (bs cs : List Addr), H p = none → IsKeys H kvs cs → bs.Perm cs → Q (.ref p) (upd H p (.lst (bs.map V.ref)))
theorem cr_sortedDT (hc : X.calm = true) : CallR X (.builtin "sorted") rSortDT := by
  intro pins s σ H xs us Q I r h
  obtain ⟨d, kvs, rfl, hd, hk2, q⟩ := h
  obtain ⟨u, rfl, rx⟩ := r.one
  cases rx
  have there : ObjOk X.prog X.w H s.heap d (.dT kvs) := hd.ok I.hok
  obtain ⟨z, hs, ks, pr, o, es, ep, ho, hx, hdt, he, _⟩ := there
  have len := Paired.length pr
  have kk := isKeys_of pr
  refine Calls.call_function_entry PyProof.Rows.kind_sorted PyProof.Rows.plain_sorted PyProof.Rows.entry_sorted (PyProof.Rows.args_sorted1 _) ?_
  unfold Builtin.«sorted»
  refine wpAny_bind (m := checkCount "sorted" 1 1 _) (wpAny_pure ?_)
  refine wpAny_bind (PySem.W.kdu_collect (A := X.A.in1) (kdl_raw hs hx hdt) (I.ok.hd hc) ho (by rw [size_of_entries he]; omega) fun h' tk acc' kp it => ?_)
  have eb : acc'.toList = (ks.map fun x => x.2.1).map Value.ref := List.ext_getElem? fun j => by
    have same : acc'.toList.length = ks.length := by rw [Array.length_toList, it.1, size_of_entries he]
    rcases Nat.lt_or_ge j ks.length with lt | ge
    · have la : j < acc'.toList.length := by omega
      have got : acc'[j]? = some acc'.toList[j] := by rw [← Array.getElem?_toList, List.getElem?_eq_getElem la]
      obtain ⟨en, there, is⟩ := it.2 j _ got
      have here := entry_at he j
      rw [there, List.getElem?_eq_getElem lt] at here
      rw [List.getElem?_eq_getElem la, is, Option.some.inj here, List.getElem?_map, List.getElem?_map, List.getElem?_eq_getElem lt]
      rfl
    · rw [List.getElem?_eq_none (by omega), List.getElem?_eq_none (by rw [List.length_map, List.length_map]; exact ge)]
  have I1 : Inv X pins σ H { s with heap := h', toks := tk } := I.kept kp
  have ll : acc'.toList.length ≤ sizeLine := by rw [eb, List.length_map, List.length_map]; omega
  refine wpAny_bind (wpAny_newList ?_ ll)
  have hoL : (h'.push (seqObj "list" acc'.toList.toArray 0)).get? h'.objs.size = some (seqObj "list" acc'.toList.toArray 0) := Heap.get?_push_size _ rfl
  show wpAny _ _ _ _ _ { s with heap := h'.push (seqObj "list" acc'.toList.toArray 0), toks := tk }
  have key : ∀ {kvs : List (List Key × V)} {cs : List Addr}, IsKeys H kvs cs → (∀ p ∈ kvs, ∃ i j : Int, p.1 = [Sum.inl i, Sum.inl j]) → ∀ b ∈ cs, ∃ i j : Int, H b = some (.tup [.int i, .int j]) := fun {kvs cs} ik hp => by
    unfold IsKeys at ik
    induction ik with
    | nil => exact fun b hb => nomatch hb
    | @cons p b ps bs h t ih =>
      intro c hc
      rcases List.mem_cons.mp hc with rfl | hc
      · obtain ⟨i, j, e⟩ := hp p (List.mem_cons_self ..)
        rw [e] at h
        exact ⟨i, j, h⟩
      · exact ih (fun p hm => hp p (List.mem_cons_of_mem _ hm)) c hc
  have pairs : ∀ v ∈ acc'.toList, ∃ x y, Srt.IsPair (h'.push (seqObj "list" acc'.toList.toArray 0)) v x y := fun v hv => by
    rw [eb] at hv
    obtain ⟨b, hb, rfl⟩ := List.mem_map.mp hv
    obtain ⟨i, j, e⟩ := key kk hk2 b hb
    obtain ⟨_, its2, r2, o, ho, hc, n, hd⟩ := I1.hok _ _ e
    obtain ⟨u1, u2, rfl, ri, rj⟩ := vals2 r2
    obtain ⟨t1, rfl⟩ := ri
    obtain ⟨t2, rfl⟩ := rj
    exact ⟨i, j, b, o, t1, t2, n, rfl, Heap.get?_push_of_some _ ho, hc, hd⟩
  refine wpAny_bind (wpAny_holding (wpAny_call_entry slot_list_sort ⟨_, hoL, rfl⟩ entry_list_sort (Srt.list_sort_any (s := { s with heap := h'.push (seqObj "list" acc'.toList.toArray 0), toks := tk }) hoL ll (fun h2 => Srt.pairs_sortable (by omega) pairs fun o e => ?_) fun out hp => ⟨_, rfl, ?_⟩) (args_list_sort _)))
  · have e' : some o = some (seqObj "list" acc'.toList.toArray 0) := e.symm.trans hoL
    cases e'
    intro c
    exact absurd (Value.type.inj c) (by decide)
  · let f : Value → Addr := fun v => match v with
      | .ref a => a
      | _ => 0
    have ff : ∀ cs : List Addr, (cs.map Value.ref).map f = cs := fun cs => by
      induction cs with
      | nil => rfl
      | cons c r ih => rw [List.map_cons, List.map_cons, ih]
    have hp2 : (out.map f).Perm (ks.map fun x => x.2.1) := by
      have := hp.map f
      rwa [eb, ff] at this
    have refs : ∀ u ∈ out, ∃ a, u = Value.ref a := fun u hu => by
      have := hp.mem_iff.mp hu
      rw [eb] at this
      obtain ⟨b, _, rfl⟩ := List.mem_map.mp this
      exact ⟨b, rfl⟩
    have eo : ∀ {us : List Value}, (∀ u ∈ us, ∃ a, u = Value.ref a) → us = (us.map f).map Value.ref := fun {us} h => by
      induction us with
      | nil => rfl
      | cons u r ih =>
        obtain ⟨a, rfl⟩ := h u (List.mem_cons_self ..)
        rw [List.map_cons, List.map_cons, ← ih fun x hx => h x (List.mem_cons_of_mem _ hx)]
    have rv : Vals ((out.map f).map V.ref) out := by
      have e := eo refs
      exact Eq.mp (by rw [← e]) (vals_refs (out.map f))
    obtain ⟨e', he'⟩ := PyProof.Rows.sortedHeap_at (vs := acc'.toList) (out := out.toArray) hoL
    have hlen : ((out.map f).map V.ref).length ≤ sizeLine := by
      rw [List.length_map, List.length_map, hp.length_eq]
      exact ll
    refine wpAny_pure ⟨_, rfl, .ref h'.objs.size, upd H h'.objs.size (.lst ((out.map f).map V.ref)), I1.laid (t' := tk) (fun b u e => ?_) (Nat.le_refl _)
      (show ObjOk X.prog X.w _ _ _ (.lst ((out.map f).map V.ref)) from ⟨hlen, out, e', rv, he'⟩), rfl, q _ _ _ (I1.hok.fresh (Nat.le_refl _)) kk hp2⟩
    have before := Heap.lt_size e
    have old := PyProof.Rows.sortedHeap_old (h := h'.push (seqObj "list" acc'.toList.toArray 0)) (vs := acc'.toList) (out := out.toArray) (Nat.ne_of_lt before) (by rw [size_push']; exact Nat.le_succ_of_le before)
    exact old.trans (Heap.get?_push_of_some _ e)
end
end L2

namespace LW
open PySem PySem.Spec PyProof.Rows L2 GL
def top (i : Nat) : Stmt := PySem.Challenge.pw_flowpapers_k38_whole_kinds_of_linear_flo.main.body.getD i (.Pass ⟨0, 0, 0, 0⟩)
abbrev sis_ratio : Stmt := top 7
theorem scis_ratio : FnScope ["value"] ["value"] (defScope sis_ratio) := ⟨rfl, rfl, rfl, by decide +kernel, rfl, by decide +kernel, by decide +kernel⟩
abbrev stold : Stmt := top 8
theorem sctold : FnScope ["value", "what", "top", "bottom"] ["value", "what"] (defScope stold) := ⟨rfl, rfl, rfl, by decide +kernel, rfl, by decide +kernel, by decide +kernel⟩
abbrev splus : Stmt := top 9
theorem scplus : FnScope ["one", "other", "top", "bottom", "other_top", "other_bottom"] ["one", "other"] (defScope splus) := ⟨rfl, rfl, rfl, by decide +kernel, rfl, by decide +kernel, by decide +kernel⟩
abbrev sminus : Stmt := top 10
theorem scminus : FnScope ["one", "other", "top", "bottom", "other_top", "other_bottom"] ["one", "other"] (defScope sminus) := ⟨rfl, rfl, rfl, by decide +kernel, rfl, by decide +kernel, by decide +kernel⟩
abbrev stimes : Stmt := top 11
theorem sctimes : FnScope ["one", "other", "top", "bottom", "other_top", "other_bottom"] ["one", "other"] (defScope stimes) := ⟨rfl, rfl, rfl, by decide +kernel, rfl, by decide +kernel, by decide +kernel⟩
abbrev slower : Stmt := top 12
theorem sclower : FnScope ["one", "other", "top", "bottom", "other_top", "other_bottom"] ["one", "other"] (defScope slower) := ⟨rfl, rfl, rfl, by decide +kernel, rfl, by decide +kernel, by decide +kernel⟩
abbrev sis_integer : Stmt := top 13
theorem scis_integer : FnScope ["value"] ["value"] (defScope sis_integer) := ⟨rfl, rfl, rfl, by decide +kernel, rfl, by decide +kernel, by decide +kernel⟩
abbrev s_parts : Stmt := top 14
theorem sc_parts : FnScope ["value", "what"] ["value", "what"] (defScope s_parts) := ⟨rfl, rfl, rfl, by decide +kernel, rfl, by decide +kernel, by decide +kernel⟩
abbrev s_lowest : Stmt := top 15
theorem sc_lowest : FnScope ["top", "bottom", "divisor"] ["top", "bottom"] (defScope s_lowest) := ⟨rfl, rfl, rfl, by decide +kernel, rfl, by decide +kernel, by decide +kernel⟩
abbrev sis_row : Stmt := top 17
theorem scis_row : FnScope ["value", "number"] ["value"] (defScope sis_row) := ⟨rfl, rfl, rfl, by decide +kernel, rfl, by decide +kernel, by decide +kernel⟩
abbrev sis_row_of : Stmt := top 18
theorem scis_row_of : FnScope ["value", "many"] ["value", "many"] (defScope sis_row_of) := ⟨rfl, rfl, rfl, by decide +kernel, rfl, by decide +kernel, by decide +kernel⟩
abbrev spair_of : Stmt := top 19
theorem scpair_of : FnScope ["value"] ["value"] (defScope spair_of) := ⟨rfl, rfl, rfl, by decide +kernel, rfl, by decide +kernel, by decide +kernel⟩
abbrev sheld : Stmt := top 20
theorem scheld : FnScope ["value"] ["value"] (defScope sheld) := ⟨rfl, rfl, rfl, by decide +kernel, rfl, by decide +kernel, by decide +kernel⟩
abbrev srow_of : Stmt := top 22
theorem scrow_of : FnScope ["value", "many", "number"] ["value", "many"] (defScope srow_of) := ⟨rfl, rfl, rfl, by decide +kernel, rfl, by decide +kernel, by decide +kernel⟩
abbrev strace_of : Stmt := top 23
theorem sctrace_of : FnScope ["matrix"] ["matrix"] (defScope strace_of) := ⟨rfl, rfl, rfl, by decide +kernel, rfl, by decide +kernel, by decide +kernel⟩
abbrev sdeterminant_of : Stmt := top 24
theorem scdeterminant_of : FnScope ["matrix", "a", "b", "c", "d"] ["matrix"] (defScope sdeterminant_of) := ⟨rfl, rfl, rfl, by decide +kernel, rfl, by decide +kernel, by decide +kernel⟩
abbrev sslope_of : Stmt := top 25
theorem scslope_of : FnScope ["matrix", "form", "a", "b", "c", "d", "p", "q", "r"] ["matrix", "form"] (defScope sslope_of) := ⟨rfl, rfl, rfl, by decide +kernel, rfl, by decide +kernel, by decide +kernel⟩
abbrev skind : Stmt := top 28
theorem sckind : FnScope ["matrix", "found", "trace", "determinant"] ["matrix"] (defScope skind) := ⟨rfl, rfl, rfl, by decide +kernel, rfl, by decide +kernel, by decide +kernel⟩
abbrev sslope_of_form : Stmt := top 29
theorem scslope_of_form : FnScope ["matrix", "form", "found", "start"] ["matrix", "form"] (defScope sslope_of_form) := ⟨rfl, rfl, rfl, by decide +kernel, rfl, by decide +kernel, by decide +kernel⟩
abbrev s_word : Stmt := top 30
theorem sc_word : FnScope ["matrix", "trace", "determinant", "way", "top", "_"] ["matrix", "trace", "determinant"] (defScope s_word) := ⟨rfl, rfl, rfl, by decide +kernel, rfl, by decide +kernel, by decide +kernel⟩
abbrev s_law_pen : Stmt := top 32
theorem sc_law_pen : FnScope ["_law_script", "_law_fold", "_law_cell"] ["_law_script"] (defScope s_law_pen) := ⟨rfl, rfl, rfl, by decide +kernel, rfl, by decide +kernel, by decide +kernel⟩
abbrev s_law_draw : Stmt := top 33
theorem sc_law_draw : FnScope ["_law_pen_here", "_law_many", "_law_cell", "_law_digit", "_law_mixed"] ["_law_pen_here", "_law_many"] (defScope s_law_draw) := ⟨rfl, rfl, rfl, by decide +kernel, rfl, by decide +kernel, by decide +kernel⟩
abbrev s_law_pick : Stmt := top 34
theorem sc_law_pick : FnScope ["_law_pen_here", "_law_some_here"] ["_law_pen_here", "_law_some_here"] (defScope s_law_pick) := ⟨rfl, rfl, rfl, by decide +kernel, rfl, by decide +kernel, by decide +kernel⟩
abbrev s_law_gcd : Stmt := top 35
theorem sc_law_gcd : FnScope ["_law_one", "_law_two", "_law_lap"] ["_law_one", "_law_two"] (defScope s_law_gcd) := ⟨rfl, rfl, rfl, by decide +kernel, rfl, by decide +kernel, by decide +kernel⟩
abbrev s_law_q : Stmt := top 36
theorem sc_law_q : FnScope ["_law_top", "_law_bottom", "_law_by"] ["_law_top", "_law_bottom"] (defScope s_law_q) := ⟨rfl, rfl, rfl, by decide +kernel, rfl, by decide +kernel, by decide +kernel⟩
abbrev s_law_plus : Stmt := top 37
theorem sc_law_plus : FnScope ["_law_one", "_law_two"] ["_law_one", "_law_two"] (defScope s_law_plus) := ⟨rfl, rfl, rfl, by decide +kernel, rfl, by decide +kernel, by decide +kernel⟩
abbrev s_law_minus : Stmt := top 38
theorem sc_law_minus : FnScope ["_law_one", "_law_two"] ["_law_one", "_law_two"] (defScope s_law_minus) := ⟨rfl, rfl, rfl, by decide +kernel, rfl, by decide +kernel, by decide +kernel⟩
abbrev s_law_times : Stmt := top 39
theorem sc_law_times : FnScope ["_law_one", "_law_two"] ["_law_one", "_law_two"] (defScope s_law_times) := ⟨rfl, rfl, rfl, by decide +kernel, rfl, by decide +kernel, by decide +kernel⟩
abbrev s_law_passed : Stmt := top 40
theorem sc_law_passed : FnScope ["_law_pen_here", "_law_ratio_here", "_law_by"] ["_law_pen_here", "_law_ratio_here"] (defScope s_law_passed) := ⟨rfl, rfl, rfl, by decide +kernel, rfl, by decide +kernel, by decide +kernel⟩
abbrev s_law_ratio : Stmt := top 41
theorem sc_law_ratio : FnScope ["_law_pen_here", "_law_most", "_law_bottom"] ["_law_pen_here", "_law_most"] (defScope s_law_ratio) := ⟨rfl, rfl, rfl, by decide +kernel, rfl, by decide +kernel, by decide +kernel⟩
abbrev s_law_v_plain : Stmt := top 42
theorem sc_law_v_plain : FnScope ["_law_plane", "_law_found", "_law_spot"] ["_law_plane"] (defScope s_law_v_plain) := ⟨rfl, rfl, rfl, by decide +kernel, rfl, by decide +kernel, by decide +kernel⟩
abbrev s_law_v_plus : Stmt := top 43
theorem sc_law_v_plus : FnScope ["_law_one", "_law_two", "_law_found", "_law_spot"] ["_law_one", "_law_two"] (defScope s_law_v_plus) := ⟨rfl, rfl, rfl, by decide +kernel, rfl, by decide +kernel, by decide +kernel⟩
abbrev s_law_v_times : Stmt := top 44
theorem sc_law_v_times : FnScope ["_law_one", "_law_two", "_law_found", "_law_a", "_law_b", "_law_spot"] ["_law_one", "_law_two"] (defScope s_law_v_times) := ⟨rfl, rfl, rfl, by decide +kernel, rfl, by decide +kernel, by decide +kernel⟩
abbrev s_law_v_slope : Stmt := top 45
theorem sc_law_v_slope : FnScope ["_law_one", "_law_letter", "_law_found", "_law_spot", "_law_lower"] ["_law_one", "_law_letter"] (defScope s_law_v_slope) := ⟨rfl, rfl, rfl, by decide +kernel, rfl, by decide +kernel, by decide +kernel⟩
abbrev s_law_why : Stmt := top 46
theorem sc_law_why : FnScope ["_law_call", "e"] ["_law_call"] (defScope s_law_why) := ⟨rfl, rfl, rfl, by decide +kernel, rfl, by decide +kernel, by decide +kernel⟩
abbrev s_law_any : Stmt := top 47
theorem sc_law_any : FnScope ["_law_pen_here", "_law_some_here"] ["_law_pen_here"] (defScope s_law_any) := ⟨rfl, rfl, rfl, by decide +kernel, rfl, by decide +kernel, by decide +kernel⟩
abbrev s_law_shown : Stmt := top 48
theorem sc_law_shown : FnScope ["_law_pen_here", "_law_row", "_law_passed_here", "_law_ratio_here"] ["_law_pen_here", "_law_row"] (defScope s_law_shown) := ⟨rfl, rfl, rfl, by decide +kernel, rfl, by decide +kernel, by decide +kernel⟩
abbrev s_law_matrix : Stmt := top 49
theorem sc_law_matrix : FnScope ["_law_pen_here", "_law_most", "_law_row", "_law_k"] ["_law_pen_here", "_law_most"] (defScope s_law_matrix) := ⟨rfl, rfl, rfl, by decide +kernel, rfl, by decide +kernel, by decide +kernel⟩
abbrev s_law_trace : Stmt := top 50
theorem sc_law_trace : FnScope ["_law_matrix_here"] ["_law_matrix_here"] (defScope s_law_trace) := ⟨rfl, rfl, rfl, by decide +kernel, rfl, by decide +kernel, by decide +kernel⟩
abbrev s_law_det : Stmt := top 51
theorem sc_law_det : FnScope ["_law_matrix_here"] ["_law_matrix_here"] (defScope s_law_det) := ⟨rfl, rfl, rfl, by decide +kernel, rfl, by decide +kernel, by decide +kernel⟩
abbrev s_law_form_slope : Stmt := top 52
theorem sc_law_form_slope : FnScope ["_law_matrix_here", "_law_form", "_law_plane", "_law_flow", "_law_k", "_law_whole", "_law_middle"] ["_law_matrix_here", "_law_form"] (defScope s_law_form_slope) := ⟨rfl, rfl, rfl, by decide +kernel, rfl, by decide +kernel, by decide +kernel⟩
abbrev s_law_word : Stmt := top 53
theorem sc_law_word : FnScope ["_law_matrix_here", "_law_trace_here", "_law_whole", "_law_one", "_law_half", "_law_square"] ["_law_matrix_here"] (defScope s_law_word) := ⟨rfl, rfl, rfl, by decide +kernel, rfl, by decide +kernel, by decide +kernel⟩
abbrev s_law_some : Stmt := top 54
theorem sc_law_some : FnScope ["_law_pen_here", "_law_row", "_law_way", "_law_by"] ["_law_pen_here"] (defScope s_law_some) := ⟨rfl, rfl, rfl, by decide +kernel, rfl, by decide +kernel, by decide +kernel⟩
abbrev slaw : Stmt := top 55
theorem sclaw : FnScope ["_law_script", "_law_pen_here", "_law_lap", "_law_matrix_here", "_law_form", "_law_k", "_law_told", "_law_slope", "_law_rows", "_law_odd", "_law_bad", "_law_word_here", "_law_row", "_law_one"] ["_law_script"] (defScope slaw) := ⟨rfl, rfl, rfl, by decide +kernel, rfl, by decide +kernel, by decide +kernel⟩
/-! ### the pen -/
abbrev kCe : Key := Sum.inr ("cells" : Str)
abbrev kAt : Key := Sum.inr ("at" : Str)
abbrev kDi : Key := Sum.inr ("digits" : Str)
abbrev kCo : Key := Sum.inr ("count" : Str)
abbrev kFo : Key := Sum.inr ("fold" : Str)
def penK (c : Addr) (a d n f : Int) : List (Key × V) := [(kCe, .ref c), (kAt, .int a), (kDi, .int d), (kCo, .int n), (kFo, .int f)]
theorem sneCeAt : ¬ (("cells" : Str) = "at") := by decide +kernel
theorem neCeAt : ¬ (kCe = kAt) := by decide +kernel
theorem sneCeDi : ¬ (("cells" : Str) = "digits") := by decide +kernel
theorem neCeDi : ¬ (kCe = kDi) := by decide +kernel
theorem sneCeCo : ¬ (("cells" : Str) = "count") := by decide +kernel
theorem neCeCo : ¬ (kCe = kCo) := by decide +kernel
theorem sneCeFo : ¬ (("cells" : Str) = "fold") := by decide +kernel
theorem neCeFo : ¬ (kCe = kFo) := by decide +kernel
theorem sneAtCe : ¬ (("at" : Str) = "cells") := by decide +kernel
theorem neAtCe : ¬ (kAt = kCe) := by decide +kernel
theorem sneAtDi : ¬ (("at" : Str) = "digits") := by decide +kernel
theorem neAtDi : ¬ (kAt = kDi) := by decide +kernel
theorem sneAtCo : ¬ (("at" : Str) = "count") := by decide +kernel
theorem neAtCo : ¬ (kAt = kCo) := by decide +kernel
theorem sneAtFo : ¬ (("at" : Str) = "fold") := by decide +kernel
theorem neAtFo : ¬ (kAt = kFo) := by decide +kernel
theorem sneDiCe : ¬ (("digits" : Str) = "cells") := by decide +kernel
theorem neDiCe : ¬ (kDi = kCe) := by decide +kernel
theorem sneDiAt : ¬ (("digits" : Str) = "at") := by decide +kernel
theorem neDiAt : ¬ (kDi = kAt) := by decide +kernel
theorem sneDiCo : ¬ (("digits" : Str) = "count") := by decide +kernel
theorem neDiCo : ¬ (kDi = kCo) := by decide +kernel
theorem sneDiFo : ¬ (("digits" : Str) = "fold") := by decide +kernel
theorem neDiFo : ¬ (kDi = kFo) := by decide +kernel
theorem sneCoCe : ¬ (("count" : Str) = "cells") := by decide +kernel
theorem neCoCe : ¬ (kCo = kCe) := by decide +kernel
theorem sneCoAt : ¬ (("count" : Str) = "at") := by decide +kernel
theorem neCoAt : ¬ (kCo = kAt) := by decide +kernel
theorem sneCoDi : ¬ (("count" : Str) = "digits") := by decide +kernel
theorem neCoDi : ¬ (kCo = kDi) := by decide +kernel
theorem sneCoFo : ¬ (("count" : Str) = "fold") := by decide +kernel
theorem neCoFo : ¬ (kCo = kFo) := by decide +kernel
theorem sneFoCe : ¬ (("fold" : Str) = "cells") := by decide +kernel
theorem neFoCe : ¬ (kFo = kCe) := by decide +kernel
theorem sneFoAt : ¬ (("fold" : Str) = "at") := by decide +kernel
theorem neFoAt : ¬ (kFo = kAt) := by decide +kernel
theorem sneFoDi : ¬ (("fold" : Str) = "digits") := by decide +kernel
theorem neFoDi : ¬ (kFo = kDi) := by decide +kernel
theorem sneFoCo : ¬ (("fold" : Str) = "count") := by decide +kernel
theorem neFoCo : ¬ (kFo = kCo) := by decide +kernel
theorem pen_cells {c : Addr} {a d n f : Int} : valV (penK c a d n f) kCe = some (.ref c) := by
  unfold penK
  rw [valV_pos rfl]
theorem pen_at {c : Addr} {a d n f : Int} : valV (penK c a d n f) kAt = some (.int a) := by
  unfold penK
  rw [valV_neg neCeAt, valV_pos rfl]
theorem pen_digits {c : Addr} {a d n f : Int} : valV (penK c a d n f) kDi = some (.int d) := by
  unfold penK
  rw [valV_neg neCeDi, valV_neg neAtDi, valV_pos rfl]
theorem pen_count {c : Addr} {a d n f : Int} : valV (penK c a d n f) kCo = some (.int n) := by
  unfold penK
  rw [valV_neg neCeCo, valV_neg neAtCo, valV_neg neDiCo, valV_pos rfl]
theorem pen_fold {c : Addr} {a d n f : Int} : valV (penK c a d n f) kFo = some (.int f) := by
  unfold penK
  rw [valV_neg neCeFo, valV_neg neAtFo, valV_neg neDiFo, valV_neg neCoFo, valV_pos rfl]
theorem put_at {c : Addr} {a d n f x : Int} : putK (penK c a d n f) kAt (.int x) = penK c x d n f := by
  simp [putK, penK, sneCeAt, sneDiAt, sneCoAt, sneFoAt]
theorem put_digits {c : Addr} {a d n f x : Int} : putK (penK c a d n f) kDi (.int x) = penK c a x n f := by
  simp [putK, penK, sneCeDi, sneAtDi, sneCoDi, sneFoDi]
theorem put_count {c : Addr} {a d n f x : Int} : putK (penK c a d n f) kCo (.int x) = penK c a d x f := by
  simp [putK, penK, sneCeCo, sneAtCo, sneDiCo, sneFoCo]
theorem put_fold {c : Addr} {a d n f x : Int} : putK (penK c a d n f) kFo (.int x) = penK c a d n x := by
  simp [putK, penK, sneCeFo, sneAtFo, sneDiFo, sneCoFo]
theorem merge_pen {c : Addr} {f : Int} : mergeK [] (penK c 0 0 0 f) = penK c 0 0 0 f := by
  simp [mergeK, putK, penK, sneCeAt, sneCeDi, sneCeCo, sneCeFo, sneAtDi, sneAtCo, sneAtFo, sneDiCo, sneDiFo, sneCoFo]
/-- a pen stands at p: at most m draws were made -/
def PenAt (H : Hp) (p c : Addr) (m : Nat) : Prop := ∃ (a d n f : Int) (ns : List Int), H p = some (.dK (penK c a d n f)) ∧ H c = some (.lst (ns.map V.int)) ∧
  0 ≤ a ∧ a ≤ ns.length ∧ 0 ≤ d ∧ 0 ≤ n ∧ n ≤ m ∧ 0 ≤ f ∧ f < 2147483587
theorem PenAt.le {H : Hp} {p c : Addr} {m m' : Nat} (h : PenAt H p c m) (l : m ≤ m') : PenAt H p c m' := by
  obtain ⟨a, d, n, f, ns, h1, h2, h3, h4, h5, h6, h7, h8⟩ := h
  exact ⟨a, d, n, f, ns, h1, h2, h3, h4, h5, h6, by omega, h8⟩
/-- all that stood stands, but what the pen's own dict holds -/
def But (p : Addr) (H H' : Hp) : Prop := ∀ b o, H b = some o → b ≠ p → H' b = some o
theorem But.refl {p : Addr} {H : Hp} : But p H H := fun _ _ h _ => h
theorem But.trans {p : Addr} {H H1 H2 : Hp} (a : But p H H1) (b : But p H1 H2) : But p H H2 := fun c o h n => b c o (a c o h n) n
theorem But.of {p : Addr} {H H' : Hp} (a : Same H H') : But p H H' := fun b o h _ => a b o h
/-- a list of its own may change -/
theorem PenAt.off {H H' : Hp} {p c : Addr} {m : Nat} (h : PenAt H p c m) (s1 : ∀ o, H p = some o → H' p = some o) (s2 : ∀ o, H c = some o → H' c = some o) : PenAt H' p c m := by
  obtain ⟨a, d, n, f, ns, h1, h2, h3⟩ := h
  exact ⟨a, d, n, f, ns, s1 _ h1, s2 _ h2, h3⟩
theorem Same.new {H : Hp} {p : Addr} {o : HO} (h : H p = none) : Same H (upd H p o) := fun b u e => by
  rw [upd_ne (ne_of_none e h)]
  exact e
theorem PenAt.same {H H' : Hp} {p c : Addr} {m : Nat} (h : PenAt H p c m) (s : Same H H') : PenAt H' p c m := by
  obtain ⟨a, d, n, f, ns, h1, h2, h3⟩ := h
  exact ⟨a, d, n, f, ns, s _ _ h1, s _ _ h2, h3⟩

/-! ### what they promise -/
def spPen (K : PySem.W.Frag) : Sp := fun vs H Q _ => ∃ (a : Addr) (ns : List Int), vs = [.ref a] ∧ SqL K H a (ns.map V.int) ∧ ns.length ≤ 63 ∧ ∀ (p c : Addr) (H' : Hp), Same H H' → PenAt H' p c 0 → Q (.ref p) H'
/-- the number of draws that may have been made -/
def most : Nat := 1000000000
def spDraw : Sp := fun vs H Q _ => ∃ (p c : Addr) (many : Int) (m : Nat), vs = [.ref p, .int many] ∧ PenAt H p c m ∧ m < most ∧ 0 < many ∧ many < 1000000000 ∧
  ∀ (r : Int) (H' : Hp), 0 ≤ r → r < many → But p H H' → PenAt H' p c (m + 1) → Q (.int r) H'

structure Txt (K : PySem.W.Frag) (mg : Str → Option Value) : Prop where
  int : mg "int" = none
  bool : mg "bool" = none
  list : mg "list" = none
  tuple : mg "tuple" = none
  len : mg "len" = none
  range : mg "range" = none
  isinstance : mg "isinstance" = none
  repr : mg "repr" = none
  abs : mg "abs" = none
  all : mg "all" = none
  any : mg "any" = none
  sorted : mg "sorted" = none
  dict : mg "dict" = none
  gcd : mg "gcd" = some (.builtin "math.gcd")
  is_ratio : Df K mg "is_ratio" sis_ratio ["value"]
  told : Df K mg "told" stold ["value", "what"]
  plus : Df K mg "plus" splus ["one", "other"]
  minus : Df K mg "minus" sminus ["one", "other"]
  times : Df K mg "times" stimes ["one", "other"]
  lower : Df K mg "lower" slower ["one", "other"]
  is_integer : Df K mg "is_integer" sis_integer ["value"]
  _parts : Df K mg "_parts" s_parts ["value", "what"]
  _lowest : Df K mg "_lowest" s_lowest ["top", "bottom"]
  is_row : Df K mg "is_row" sis_row ["value"]
  is_row_of : Df K mg "is_row_of" sis_row_of ["value", "many"]
  pair_of : Df K mg "pair_of" spair_of ["value"]
  held : Df K mg "held" sheld ["value"]
  row_of : Df K mg "row_of" srow_of ["value", "many"]
  trace_of : Df K mg "trace_of" strace_of ["matrix"]
  determinant_of : Df K mg "determinant_of" sdeterminant_of ["matrix"]
  slope_of : Df K mg "slope_of" sslope_of ["matrix", "form"]
  kind : Df K mg "kind" skind ["matrix"]
  slope_of_form : Df K mg "slope_of_form" sslope_of_form ["matrix", "form"]
  _word : Df K mg "_word" s_word ["matrix", "trace", "determinant"]
  _law_pen : Df K mg "_law_pen" s_law_pen ["_law_script"]
  _law_draw : Df K mg "_law_draw" s_law_draw ["_law_pen_here", "_law_many"]
  _law_pick : Df K mg "_law_pick" s_law_pick ["_law_pen_here", "_law_some_here"]
  _law_gcd : Df K mg "_law_gcd" s_law_gcd ["_law_one", "_law_two"]
  _law_q : Df K mg "_law_q" s_law_q ["_law_top", "_law_bottom"]
  _law_plus : Df K mg "_law_plus" s_law_plus ["_law_one", "_law_two"]
  _law_minus : Df K mg "_law_minus" s_law_minus ["_law_one", "_law_two"]
  _law_times : Df K mg "_law_times" s_law_times ["_law_one", "_law_two"]
  _law_passed : Df K mg "_law_passed" s_law_passed ["_law_pen_here", "_law_ratio_here"]
  _law_ratio : Df K mg "_law_ratio" s_law_ratio ["_law_pen_here", "_law_most"]
  _law_v_plain : Df K mg "_law_v_plain" s_law_v_plain ["_law_plane"]
  _law_v_plus : Df K mg "_law_v_plus" s_law_v_plus ["_law_one", "_law_two"]
  _law_v_times : Df K mg "_law_v_times" s_law_v_times ["_law_one", "_law_two"]
  _law_v_slope : Df K mg "_law_v_slope" s_law_v_slope ["_law_one", "_law_letter"]
  _law_why : Df K mg "_law_why" s_law_why ["_law_call"]
  _law_any : Df K mg "_law_any" s_law_any ["_law_pen_here"]
  _law_shown : Df K mg "_law_shown" s_law_shown ["_law_pen_here", "_law_row"]
  _law_matrix : Df K mg "_law_matrix" s_law_matrix ["_law_pen_here", "_law_most"]
  _law_trace : Df K mg "_law_trace" s_law_trace ["_law_matrix_here"]
  _law_det : Df K mg "_law_det" s_law_det ["_law_matrix_here"]
  _law_form_slope : Df K mg "_law_form_slope" s_law_form_slope ["_law_matrix_here", "_law_form"]
  _law_word : Df K mg "_law_word" s_law_word ["_law_matrix_here"]
  _law_some : Df K mg "_law_some" s_law_some ["_law_pen_here"]
  law : Df K mg "law" slaw ["_law_script"]
  BadText : ClI K mg "BadText" "BadText.__init__" (inClass (top 3) 0) ["self", "column"] ["column"]
  BadNumber : ClI K mg "BadNumber" "BadNumber.__init__" (inClass (top 4) 0) ["self", "what", "number"] ["what", "number"]
  BadRow : ClI K mg "BadRow" "BadRow.__init__" (inClass (top 5) 0) ["self", "row"] ["row"]
  xBadNumberBadText : PySem.W.exmOne K (.ref (fA mg "BadNumber")) (.ref (fA mg "BadText")) = some false
  xBadNumberBadNumber : PySem.W.exmOne K (.ref (fA mg "BadNumber")) (.ref (fA mg "BadNumber")) = some true
  xBadRowBadText : PySem.W.exmOne K (.ref (fA mg "BadRow")) (.ref (fA mg "BadText")) = some false
  xBadRowBadNumber : PySem.W.exmOne K (.ref (fA mg "BadRow")) (.ref (fA mg "BadNumber")) = some false
  xBadRowBadRow : PySem.W.exmOne K (.ref (fA mg "BadRow")) (.ref (fA mg "BadRow")) = some true
  lb : ∀ (s : PySem.Shared) (u : PySem.Value), BindsTo s (fDat K (fA mg "law")) ⟨[u], []⟩ [("_law_script", u)]
section
variable {P : Program} {w : World} {K : PySem.W.Frag} {mg : Str → Option Value} {base : Heap}
theorem scI_BadNumber : FnScope ["self", "what", "number"] ["self", "what", "number"] (defScope (inClass (top 4) 0)) := ⟨rfl, rfl, rfl, by decide +kernel, rfl, by decide +kernel, by decide +kernel⟩
theorem init_BadNumber (T : Txt K mg) : FnOk P w K mg base CX0 1 (iA K (fA mg "BadNumber")) (fDat K (iA K (fA mg "BadNumber"))) ["self", "what", "number"] (spI2 (fA mg "BadNumber") "what" "number") := by
  refine T.BadNumber.F.ok scI_BadNumber (fun vs H Q E h => ?_) (fun cdv A outer s H vs Q E hr h => ?_)
  · obtain ⟨a, v, u, rfl, _⟩ := h
    rfl
  · obtain ⟨a, v, u, rfl, ha, k⟩ := h
    refine ⟨_, pss_cons (ps_ost (pv 0) (pv 1)) (pss_one (ps_ost (pv 0) (pv 2))), s_ost1 T.BadNumber.o (T.BadNumber.n _ (by simp)) ha rfl rfl fun dx hd ne => ?_⟩
    exact s_ost2 T.BadNumber.o (T.BadNumber.n _ (by simp)) upd_same (by rw [upd_ne ne, upd_same]) rfl rfl (k dx hd ne)

/-! ### kinds of values -/
def kinds : List String := ["int", "bool", "str", "NoneType", "dict", "list", "tuple"]
theorem kit_int {n : String} (h : n ∈ kinds) : PySem.W.kitOne K (.type n) (.type "int") = some (decide (n = "int") || decide (n = "bool")) := by
  simp only [kinds, List.mem_cons, List.not_mem_nil, or_false] at h
  rcases h with rfl | rfl | rfl | rfl | rfl | rfl | rfl <;> exact kit_ty (by decide +kernel)
theorem kit_bool {n : String} (h : n ∈ kinds) : PySem.W.kitOne K (.type n) (.type "bool") = some (decide (n = "bool")) := by
  simp only [kinds, List.mem_cons, List.not_mem_nil, or_false] at h
  rcases h with rfl | rfl | rfl | rfl | rfl | rfl | rfl <;> exact kit_ty (by decide +kernel)
theorem kit_tuple {n : String} (h : n ∈ kinds) : PySem.W.kitOne K (.type n) (.type "tuple") = some (decide (n = "tuple")) := by
  simp only [kinds, List.mem_cons, List.not_mem_nil, or_false] at h
  rcases h with rfl | rfl | rfl | rfl | rfl | rfl | rfl <;> exact kit_ty (by decide +kernel)
theorem kit_list {n : String} (h : n ∈ kinds) : PySem.W.kitOne K (.type n) (.type "list") = some (decide (n = "list")) := by
  simp only [kinds, List.mem_cons, List.not_mem_nil, or_false] at h
  rcases h with rfl | rfl | rfl | rfl | rfl | rfl | rfl <;> exact kit_ty (by decide +kernel)
theorem kit_seq {n : String} (h : n ∈ kinds) : PySem.W.kitAny K (.type n) [.type "tuple", .type "list"] = some (decide (n = "tuple") || decide (n = "list")) := by
  refine kitAny_cons (kit_tuple h) (fun e => ?_) (fun e => by rw [e]; rfl)
  rw [e]
  exact kitAny_cons (kit_list h) (fun e2 => by rw [e2]; rfl) (fun e2 => by rw [e2]; rfl)
/-- a value's kind, by its name -/
inductive Is (H : Hp) : V → String → Prop
  | int (i : Int) : Is H (.int i) "int"
  | bl (b : Bool) : Is H (.bl b) "bool"
  | str (x : Str) : Is H (.str x) "str"
  | non : Is H .non "NoneType"
  | lst {a : Addr} {xs : List V} (e : H a = some (.lst xs)) : Is H (.ref a) "list"
  | tup {a : Addr} {xs : List V} (e : H a = some (.tup xs)) : Is H (.ref a) "tuple"
  | dic {a : Addr} {kvs : List (Key × V)} (e : H a = some (.dK kvs)) : Is H (.ref a) "dict"
theorem Is.ty {K : PySem.W.Frag} {H : Hp} {v : V} {n : String} (h : Is H v n) : TyX K H v (.type n) ∧ n ∈ kinds := by
  cases h with
  | int i => exact ⟨.base (.int i), by decide⟩
  | bl b => exact ⟨.base (.bl b), by decide⟩
  | str x => exact ⟨.base (.str x), by decide⟩
  | non => exact ⟨.base .non, by decide⟩
  | lst e => exact ⟨.base (.lst e), by decide⟩
  | tup e => exact ⟨.base (.tup e), by decide⟩
  | dic e => exact ⟨.base (.dK e), by decide⟩
theorem Is.same {H H' : Hp} {v : V} {n : String} (h : Is H v n) (s : Same H H') : Is H' v n := by
  cases h with
  | int i => exact .int i
  | bl b => exact .bl b
  | str x => exact .str x
  | non => exact .non
  | lst e => exact .lst (s _ _ e)
  | tup e => exact .tup (s _ _ e)
  | dic e => exact .dic (s _ _ e)
theorem v_isi {σ : L2.St} {H : Hp} {te : TE} {v : V} {n c : String} {b : Bool} (h : Val te σ H v) (ty : TyX K H v (.type n)) (k : PySem.W.kitOne K (.type n) (.type c) = some b) :
    Val (tCB (rIsi K) (tCons te (tCons (tC (.ty c)) tNil))) σ H (.bl b) := v_cb (va_cons h (va_cons val_c va_nil)) fun Q q => ⟨v, _, _, _, b, rfl, .ty c, ty, k, q⟩
def spInt : Sp := fun vs H Q _ => ∃ (v : V) (n : String), vs = [v] ∧ Is H v n ∧ Q (.bl (decide (n = "int"))) H
theorem ok_is_integer (T : Txt K mg) : FnOk P w K mg base CX0 1 (fA mg "is_integer") (fDat K (fA mg "is_integer")) ["value"] spInt := by
  refine T.is_integer.F.ok scis_integer (fun vs H Q E h => ?_) (fun cdv A outer s H vs Q E hr h => ?_)
  · obtain ⟨v, n, rfl, _⟩ := h
    rfl
  · obtain ⟨v, n, rfl, is, k⟩ := h
    obtain ⟨ty, hn⟩ := is.ty (K := K)
    refine ⟨_, (pss_one (ps_ret (pe_and (pe_callB call_isi (by rfl) T.isinstance (by decide +kernel) (pa_cons (pv 0) (pa_cons (pe_bltn (v := .ty "int") (by rfl) T.int (by decide +kernel) rfl) pa_nil))) (pe_one (pe_not (pe_callB call_isi (by rfl) T.isinstance (by decide +kernel) (pa_cons (pv 0) (pa_cons (pe_bltn (v := .ty "bool") (by rfl) T.bool (by decide +kernel) rfl) pa_nil)))))))), ?_⟩
    refine r_ret ?_
    refine (v_isi (val_var rfl) ty (kit_int hn)) _ ?_
    refine ⟨_, rfl, ?_⟩
    by_cases h1 : n = "int"
    · subst h1
      refine iteT ?_
      refine (v_isi (val_var rfl) ty (kit_bool hn)) _ ?_
      exact ⟨_, rfl, k⟩
    · by_cases h2 : n = "bool"
      · subst h2
        refine iteT ?_
        refine (v_isi (val_var rfl) ty (kit_bool hn)) _ ?_
        exact ⟨_, rfl, k⟩
      · have e : (decide (n = "int") || decide (n = "bool")) = false := by simp [h1, h2]
        rw [e]
        refine iteF ?_
        rw [decide_eq_false h1] at k
        exact k

/-! ### is_ratio -/
/-- a list or a tuple stands at a -/
def Sq (H : Hp) (a : Addr) (xs : List V) : Prop := H a = some (.lst xs) ∨ H a = some (.tup xs)
theorem Sq.same {H H' : Hp} {a : Addr} {xs : List V} (h : Sq H a xs) (s : Same H H') : Sq H' a xs := h.elim (fun z => .inl (s _ _ z)) fun z => .inr (s _ _ z)
theorem Sq.is {H : Hp} {a : Addr} {xs : List V} (h : Sq H a xs) : ∃ n, Is H (.ref a) n ∧ (n = "list" ∨ n = "tuple") := by
  rcases h with h | h
  · exact ⟨"list", .lst h, .inl rfl⟩
  · exact ⟨"tuple", .tup h, .inr rfl⟩
theorem Sq.sq {K : PySem.W.Frag} {H : Hp} {a : Addr} {xs : List V} (h : Sq H a xs) : SqL K H a xs ∨ SqT K H a xs := h.elim (fun z => .inl (SqL.of z)) fun z => .inr (SqT.of z)
theorem v_ixS {K : PySem.W.Frag} {σ : L2.St} {H : Hp} {te tb : TE} {a : Addr} {xs : List V} {n : Nat} {v : V} (h : Val te σ H (.ref a)) (hi : Val tb σ H (.int (n : Int))) (hx : Sq H a xs) (he : xs[n]? = some v) : Val (tOp (rIx K) te tb) σ H v :=
  val_op h hi fun Q q => hx.elim (fun z => .inl ⟨a, xs, n, v, rfl, rfl, SqL.of z, atI_nat he, q⟩) fun z => .inr (.inl ⟨a, xs, n, v, rfl, rfl, SqT.of z, atI_nat he, q⟩)
/-- what is_ratio answers -/
inductive RatQ (H : Hp) : V → Bool → Prop
  | int (i : Int) : RatQ H (.int i) true
  | odd {v : V} {n : String} (h : Is H v n) (o : n = "bool" ∨ n = "str" ∨ n = "NoneType" ∨ n = "dict") : RatQ H v false
  | len {a : Addr} {xs : List V} (h : Sq H a xs) (l : xs.length ≠ 2) : RatQ H (.ref a) false
  | fst {a : Addr} {x y : V} {n : String} (h : Sq H a [x, y]) (hx : Is H x n) (o : n ≠ "int") : RatQ H (.ref a) false
  | snd {a : Addr} {i : Int} {y : V} {n : String} (h : Sq H a [.int i, y]) (hx : Is H y n) (o : n ≠ "int") : RatQ H (.ref a) false
  | pair {a : Addr} {i j : Int} (h : Sq H a [.int i, .int j]) : RatQ H (.ref a) (decide (0 < j))
theorem RatQ.same {H H' : Hp} {v : V} {b : Bool} (h : RatQ H v b) (s : Same H H') : RatQ H' v b := by
  cases h with
  | int i => exact .int i
  | odd h o => exact .odd (h.same s) o
  | len h l => exact .len (h.same s) l
  | fst h hx o => exact .fst (h.same s) (hx.same s) o
  | snd h hx o => exact .snd (h.same s) (hx.same s) o
  | pair h => exact .pair (h.same s)
def spRat : Sp := fun vs H Q _ => ∃ (v : V) (b : Bool), vs = [v] ∧ RatQ H v b ∧ ∀ H', Same H H' → Q (.bl b) H'
/-- if not t: .. -/
theorem q_ifNot {σ : L2.St} {H : Hp} {t : TT} {t1 tz : TS} {D : Ends} (h : t σ H fun c H1 => if (!c) = true then t1 { D with nx := tz D } σ H1 else tz D σ H1) : tSeq (tIfS (tNot t) t1 tNext) tz D σ H := h
/-- if not t or u: .. -/
theorem q_ifOrNot {σ : L2.St} {H : Hp} {t u : TT} {t1 tz : TS} {D : Ends} (h : t σ H fun c H1 => if (!c) = true then (if true = true then t1 { D with nx := tz D } σ H1 else tz D σ H1) else
    u σ H1 fun b H2 => if b = true then t1 { D with nx := tz D } σ H2 else tz D σ H2) : tSeq (tIfS (tOr (tNot t) u) t1 tNext) tz D σ H := h
theorem ok_is_ratio (T : Txt K mg) : FnOk P w K mg base CX0 3 (fA mg "is_ratio") (fDat K (fA mg "is_ratio")) ["value"] spRat := by
  have Gis_integer := ok_is_integer (P := P) (w := w) (base := base) T
  refine T.is_ratio.F.ok scis_ratio (fun vs H Q E h => ?_) (fun cdv A outer s H vs Q E hr h => ?_)
  · obtain ⟨v, b, rfl, _⟩ := h
    rfl
  · obtain ⟨v, b, rfl, hR, k⟩ := h
    refine ⟨_, (pss_cons (ps_if (pt_val (pe_c T.is_integer Gis_integer (hr.mono (by decide)) (pa_cons (pv 0) pa_nil))) (pss_one (ps_ret pe_bl)) pss_nil)
  (pss_cons (ps_if (PW.pt (pw_or (pt_not (pt_val (pe_callB call_isiT (by rfl) T.isinstance (by decide +kernel) (pa_cons (pv 0) (pa_cons (pe_tup (pa_cons (pe_bltn (v := .ty "tuple") (by rfl) T.tuple (by decide +kernel) rfl) (pa_cons (pe_bltn (v := .ty "list") (by rfl) T.list (by decide +kernel) rfl) pa_nil))) pa_nil))))) (pw_or1 (pt_cmpR op_ne (pe_callB call_len_seq (by rfl) T.len PySem.boot_len (pa_cons (pv 0) pa_nil)) pe_int (nomark _))))) (pss_one (ps_ret pe_bl)) pss_nil)
  (pss_one (ps_ret (pe_and (pe_c T.is_integer Gis_integer (hr.mono (by decide)) (pa_cons (pe_ix ix_seq (pv 0) pe_int (fun _ _ => rfl)) pa_nil)) (pe_and (pe_c T.is_integer Gis_integer (hr.mono (by decide)) (pa_cons (pe_ix ix_seq (pv 0) pe_int (fun _ _ => rfl)) pa_nil)) (pe_one (pe_cmpR op_gt (pe_ix ix_seq (pv 0) pe_int (fun _ _ => rfl)) pe_int (nomark _))))))))), ?_⟩
    have whole : ∀ {te : TE} {σ : L2.St} {H1 : Hp} {v : V} {n : String}, Val te σ H1 v → Is H1 v n → Val (tCall spInt [] E0 (tCons te tNil)) σ H1 (.bl (decide (n = "int"))) := fun h i Q q => c_call (va_cons h va_nil) ⟨_, _, rfl, i, q⟩
    have no : ∀ {n : String}, n ≠ "int" → decide (n = "int") = false := fun h => decide_eq_false h
    -- isinstance(value, (tuple, list)): a new tuple of both
    have both : ∀ {H1 : Hp} {v : V} {n : String} {Q : Bool → Hp → Prop}, Is H1 v n → (∀ H2, Same H1 H2 → Q (decide (n = "tuple") || decide (n = "list")) H2) →
        tB (tCB (rIsiT K) (tCons (tVar 0) (tCons (tTup (tCons (tC (.ty "tuple")) (tCons (tC (.ty "list")) tNil))) tNil))) [some v] H1 Q := fun {H1 v n Q} i q =>
      ⟨v, rfl, ⟨by show 2 ≤ sizeLine; decide, fun p hp => ⟨v, p, [.ty "tuple", .ty "list"], _, [.type "tuple", .type "list"], _, rfl, upd_same, .cons (.ty _) (.cons (.ty _) .nil), (i.same (Same.new' hp)).ty.1, kit_seq (i.ty (K := K)).2, _, rfl, q _ (Same.new' hp)⟩⟩⟩
    have notI : ∀ {a : Addr} {xs : List V}, Sq H a xs → ∃ n, Is H (.ref a) n ∧ n ≠ "int" ∧ (decide (n = "tuple") || decide (n = "list")) = true := fun {a xs} h => by
      obtain ⟨n, i, o⟩ := h.is
      exact ⟨n, i, by rcases o with rfl | rfl <;> decide, by rcases o with rfl | rfl <;> decide⟩
    have lenOf : ∀ {a : Addr} {xs : List V} {H2 : Hp}, Sq H2 a xs → Val (tCB (fun xs H Q => ∃ p ys, xs = [.ref p] ∧ (SqL K H p ys ∨ SqT K H p ys) ∧ Q (.int ys.length) H) (tCons (tVar 0) tNil)) [some (.ref a)] H2 (.int (xs.length : Int)) := fun h => v_len (val_var rfl) h.sq
    have two : ∀ {a : Addr} {x y : V} {H2 : Hp} {j : Nat} {v : V}, Sq H2 a [x, y] → [x, y][j]? = some v → Val (tOp (rIx K) (tVar 0) (tC (.int (j : Int)))) [some (.ref a)] H2 v := fun h e => v_ixS (val_var rfl) val_c h e
    cases hR with
    | int i => exact q_when (b := true) (ans_val (whole (val_var rfl) (.int i))) (fun _ => st_ret val_c (k H (Same.refl H))) (fun z => nomatch z)
    | @odd _ n h o =>
      have ni : n ≠ "int" := by rcases o with rfl | rfl | rfl | rfl <;> decide
      have ns : (decide (n = "tuple") || decide (n = "list")) = false := by rcases o with rfl | rfl | rfl | rfl <;> decide
      refine q_unless (Ans.to (ans_val (whole (val_var rfl) h)) (no ni)) ?_
      refine q_ifOrNot (both h fun H2 s2 => ?_)
      rw [ns]
      exact iteT (iteT (st_ret val_c (k H2 s2)))
    | @len a xs h l =>
      obtain ⟨n, i, ni, ns⟩ := notI h
      refine q_unless (Ans.to (ans_val (whole (val_var rfl) i)) (no ni)) ?_
      refine q_ifOrNot (both i fun H2 s2 => ?_)
      rw [ns]
      refine iteF ?_
      refine (ans_ne (lenOf (h.same s2)) val_c rfl (b := true) (by simp; omega)) _ ?_
      exact iteT (st_ret val_c (k H2 s2))
    | @fst a x y n h hx o =>
      obtain ⟨m, i, ni, ns⟩ := notI h
      refine q_unless (Ans.to (ans_val (whole (val_var rfl) i)) (no ni)) ?_
      refine q_ifOrNot (both i fun H2 s2 => ?_)
      rw [ns]
      refine iteF ?_
      refine (ans_ne (lenOf (h.same s2)) val_c rfl (b := false) (by simp)) _ ?_
      refine iteF ?_
      refine r_ret ?_
      refine (whole (two (j := 0) (h.same s2) rfl) (hx.same s2)) _ ⟨_, rfl, ?_⟩
      rw [no o]
      exact iteF (k H2 s2)
    | @snd a i y n h hx o =>
      obtain ⟨m, j, ni, ns⟩ := notI h
      refine q_unless (Ans.to (ans_val (whole (val_var rfl) j)) (no ni)) ?_
      refine q_ifOrNot (both j fun H2 s2 => ?_)
      rw [ns]
      refine iteF ?_
      refine (ans_ne (lenOf (h.same s2)) val_c rfl (b := false) (by simp)) _ ?_
      refine iteF ?_
      refine r_ret ?_
      refine (whole (two (j := 0) (h.same s2) rfl) (.int i)) _ ⟨_, rfl, ?_⟩
      refine iteT ?_
      refine (whole (two (j := 1) (h.same s2) rfl) (hx.same s2)) _ ⟨_, rfl, ?_⟩
      rw [no o]
      exact iteF (k H2 s2)
    | @pair a i j h =>
      obtain ⟨m, i2, ni, ns⟩ := notI h
      refine q_unless (Ans.to (ans_val (whole (val_var rfl) i2)) (no ni)) ?_
      refine q_ifOrNot (both i2 fun H2 s2 => ?_)
      rw [ns]
      refine iteF ?_
      refine (ans_ne (lenOf (h.same s2)) val_c rfl (b := false) (by simp)) _ ?_
      refine iteF ?_
      refine r_ret ?_
      refine (whole (two (j := 0) (h.same s2) rfl) (.int i)) _ ⟨_, rfl, ?_⟩
      refine iteT ?_
      refine (whole (two (j := 1) (h.same s2) rfl) (.int j)) _ ⟨_, rfl, ?_⟩
      refine iteT ?_
      refine (two (j := 1) (h.same s2) rfl) _ ?_
      exact ⟨_, _, rfl, rfl, k H2 s2⟩

/-! ### the parts of a ratio -/
inductive Rt (H : Hp) : V → Int → Int → Prop
  | int (i : Int) : Rt H (.int i) i 1
  | pair {a : Addr} {i j : Int} (h : Sq H a [.int i, .int j]) (p : 0 < j) : Rt H (.ref a) i j
theorem Rt.same {H H' : Hp} {v : V} {i j : Int} (h : Rt H v i j) (s : Same H H') : Rt H' v i j := by
  cases h with
  | int i => exact .int i
  | pair h p => exact .pair (h.same s) p
theorem Rt.pos {H : Hp} {v : V} {i j : Int} (h : Rt H v i j) : 0 < j := by
  cases h with
  | int i => decide
  | pair h p => exact p
theorem Rt.yes {H : Hp} {v : V} {i j : Int} (h : Rt H v i j) : RatQ H v true := by
  cases h with
  | int i => exact .int i
  | pair h p =>
    have q := RatQ.pair h
    rw [decide_eq_true p] at q
    exact q
/-- BadNumber(what, number) leaves -/
def Bad (mg : Str → Option Value) (H : Hp) (wh v : V) (E : XK) : Prop := ∀ (d : Addr) (H' : Hp), Same H H' → H d = none → H' d = some (.xd [("number", v), ("what", wh)]) → E (.ref (fA mg "BadNumber")) (some d) H'
theorem Bad.from {mg : Str → Option Value} {H H' : Hp} {wh v : V} {E : XK} (b : Bad mg H wh v E) (s : Same H H') : Bad mg H' wh v E := fun d H2 s2 n e => b d H2 (s.trans s2) (s.free n) e
theorem x_made2 {σ : L2.St} {H : Hp} {ta : TA} {C : Addr} {f g : Str} {v u : V} {Q : XK} (h : VA ta σ H [v, u]) (k : ∀ d H', Same H H' → H d = none → H' d = some (.xd [(g, u), (f, v)]) → Q (.ref C) (some d) H') : tMkO C (spI2 C f g) [] ta σ H Q :=
  h _ ⟨by show 2 ≤ 1000; decide, fun a ha => ⟨a, v, u, rfl, upd_same, fun dx hd ne => by
    rw [upd_ne ne] at hd
    refine ⟨rfl, dx, _, by rw [upd_ne (Ne.symm ne), upd_same], upd_same, hd, k dx _ (fun b o e => ?_) hd upd_same⟩
    have hb : b ≠ a := ne_of_none e ha
    have hb2 : b ≠ dx := ne_of_none e hd
    rw [upd_ne hb2, del_ne hb, upd_ne hb2, upd_ne hb, upd_ne hb2, upd_ne hb]
    exact e⟩⟩
def spParts (mg : Str → Option Value) : Sp := fun vs H Q E => ∃ (v wh : V), vs = [v, wh] ∧ ((∃ i j, Rt H v i j ∧ ∀ (p : Addr) (H' : Hp), Same H H' → H' p = some (.tup [.int i, .int j]) → Q (.ref p) H') ∨ (RatQ H v false ∧ Bad mg H wh v E))
theorem ok_parts (T : Txt K mg) : FnOk P w K mg base (L2.CX P w) 5 (fA mg "_parts") (fDat K (fA mg "_parts")) ["value", "what"] (spParts mg) := by
  have Gis_ratio := ok_is_ratio (P := P) (w := w) (base := base) T
  have Gi_BadNumber := init_BadNumber (P := P) (w := w) (base := base) T
  refine T._parts.F.okX sc_parts (fun vs H Q E h => ?_) (fun cdv A outer s H vs Q E hr h => ?_)
  · obtain ⟨v, wh, rfl, _⟩ := h
    rfl
  · obtain ⟨v, wh, rfl, h⟩ := h
    refine ⟨_, (pss_cons (ps_if (pt_not (pt_val (pe_c T.is_ratio Gis_ratio (hr.mono (by decide)) (pa_cons (pv 0) pa_nil)))) (pss_one (ps_raise rfl (takes_of rfl rfl rfl rfl) (pmk_oex T.BadNumber.o T.BadNumber.i T.BadNumber.t Gi_BadNumber (hr.mono (by decide)) T.BadNumber.b .nil pass0 (by rfl) T.BadNumber.g (pa_cons (pv 1) (pa_cons (pv 0) pa_nil))))) pss_nil)
  (pss_cons (ps_if (pt_val (pe_callB call_isi (by rfl) T.isinstance (by decide +kernel) (pa_cons (pv 0) (pa_cons (pe_bltn (v := .ty "int") (by rfl) T.int (by decide +kernel) rfl) pa_nil)))) (pss_one (ps_ret (pe_tup (pa_cons (pv 0) (pa_cons pe_int pa_nil))))) pss_nil)
  (pss_one (ps_ret (pe_tup (pa_cons (pe_ix ix_seq (pv 0) pe_int (fun _ _ => rfl)) (pa_cons (pe_ix ix_seq (pv 0) pe_int (fun _ _ => rfl)) pa_nil))))))), ?_⟩
    have rat : ∀ {b : Bool} {X : Bool → Hp → Prop}, RatQ H v b → (∀ H', Same H H' → X b H') → (tB (tCall spRat [] E0 (tCons (tVar 0) tNil))) [some v, some wh] H X := fun r k =>
      c_call (va_cons (val_var rfl) va_nil) ⟨_, _, rfl, r, fun H' s => ⟨_, rfl, k H' s⟩⟩
    rcases h with ⟨i, j, r, k⟩ | ⟨r, k⟩
    · refine q_ifNot (rat r.yes fun H1 s1 => ?_)
      refine iteF ?_
      have r1 := r.same s1
      cases r1 with
      | int i =>
        obtain ⟨ty, hn⟩ := (Is.int (H := H1) i).ty (K := K)
        refine q_when (b := true) (ans_val (v_isi (val_var rfl) ty (kit_int hn))) (fun _ => ?_) (fun z => nomatch z)
        exact r_ret (te := tTup _) ((va_cons (val_var rfl) (va_cons val_c va_nil)) _ ⟨by show 2 ≤ sizeLine; decide, fun p hp => k p _ (s1.trans (Same.new' hp)) upd_same⟩)
      | @pair a i j h p =>
        obtain ⟨n, is, o⟩ := h.is
        have e : (decide (n = "int") || decide (n = "bool")) = false := by rcases o with rfl | rfl <;> decide
        obtain ⟨ty, hn⟩ := is.ty (K := K)
        have z := v_isi (K := K) (σ := [some (.ref a), some wh]) (te := tVar 0) (val_var rfl) ty (kit_int hn)
        rw [e] at z
        refine q_unless (ans_val z) ?_
        exact r_ret (te := tTup _) ((va_cons (v_ixS (n := 0) (val_var rfl) val_c h rfl) (va_cons (v_ixS (n := 1) (val_var rfl) val_c h rfl) va_nil)) _ ⟨by show 2 ≤ sizeLine; decide, fun p hp => k p _ (s1.trans (Same.new' hp)) upd_same⟩)
    · refine q_ifNot (rat r fun H1 s1 => ?_)
      exact iteT (x_made2 (va_cons (val_var rfl) (va_cons (val_var rfl) va_nil)) fun d H' s n e => k d H' (s1.trans s) (s1.free n) e)

theorem op_fdivS {X : Cx} : OpR X (binaryOp .FloorDiv) (rI (fun _ j => j ≠ 0 ∧ j.natAbs.log2 < 9000) fun i j => .int (i.fdiv j)) := opI fun _ _ _ _ _ _ _ hc q => floordiv_int hc.1 q (.inl (PyProof.noPylong_of_log2 hc.2))
/-! ### lowest terms -/
def gI (i j : Int) : Int := ((Nat.gcd i.natAbs j.natAbs : Nat) : Int)
theorem gI_pos {i j : Int} (h : 0 < j) : 0 < gI i j := by
  have : 0 < Nat.gcd i.natAbs j.natAbs := Nat.gcd_pos_of_pos_right _ (by omega)
  unfold gI
  omega
theorem gI_le {i j : Int} (h : 0 < j) : gI i j ≤ j := by
  have : Nat.gcd i.natAbs j.natAbs ≤ j.natAbs := Nat.le_of_dvd (by omega) (Nat.gcd_dvd_right _ _)
  unfold gI
  omega
def wd : Nat := 4000
def spLow : Sp := fun vs H Q _ => ∃ i j : Int, vs = [.int i, .int j] ∧ 0 < j ∧ j.natAbs < 2 ^ wd ∧ ∀ (p : Addr) (H' : Hp), Same H H' → H' p = some (.tup [.int (i / gI i j), .int (j / gI i j)]) → Q (.ref p) H'
theorem ok_lowest (T : Txt K mg) : FnOk P w K mg base CX0 1 (fA mg "_lowest") (fDat K (fA mg "_lowest")) ["top", "bottom"] spLow := by
  refine T._lowest.F.ok sc_lowest (fun vs H Q E h => ?_) (fun cdv A outer s H vs Q E hr h => ?_)
  · obtain ⟨i, j, rfl, _⟩ := h
    rfl
  · obtain ⟨i, j, rfl, hj, hb, k⟩ := h
    refine ⟨_, (pss_cons (ps_set (i := 2) sc_lowest.nd rfl (Or.inl rfl) (pe_callBfun cr_gcd (by rfl) T.gcd (pa_cons (pv 0) (pa_cons (pv 1) pa_nil))))
  (pss_one (ps_ret (pe_tup (pa_cons (pe_op op_fdivW (pv 0) (pv 2)) (pa_cons (pe_op op_fdivW (pv 1) (pv 2)) pa_nil)))))), ?_⟩
    have hd : CDivW i (gI i j) ∧ CDivW j (gI i j) := by
      have h := wide_div (i := i) (gI_pos (i := i) hj) (b := wd) (wide_le (Int.le_of_lt (gI_pos hj)) (gI_le hj) hb) (by decide) (by decide)
      exact ⟨h, h⟩
    refine q_set (v := .int (gI i j)) (v_cb (va_cons (val_var rfl) (va_cons (val_var rfl) va_nil)) fun Q q => ⟨i, j, rfl, q⟩) ?_
    exact r_ret (te := tTup _) ((va_cons (v_div (val_var rfl) (val_var rfl) hd.1) (va_cons (v_div (val_var rfl) (val_var rfl) hd.2) va_nil)) _ ⟨by show 2 ≤ sizeLine; decide, fun p hp => k p _ (Same.new' hp) upd_same⟩)
/-- a ratio of any terms below 2 ^ 1000, and its parts -/
def Fit (i j : Int) : Prop := i.natAbs < 2 ^ 1000 ∧ j.natAbs < 2 ^ 1000
theorem fit_mul {i j : Int} (h : i.natAbs < 2 ^ 1000) (g : j.natAbs < 2 ^ 1000) : CMulW i j := wide_mul h g (by decide) (by decide) (by decide)
theorem fit_lt {i j : Int} (h : i.natAbs < 2 ^ 1000) (g : j.natAbs < 2 ^ 1000) : (i * j).natAbs < 2 ^ wd := Nat.lt_of_lt_of_le (wide_lt h g) (Nat.pow_le_pow_right (by decide) (by decide))
theorem fit_add {i j : Int} (h : i.natAbs < 2 ^ (1000 + 1000)) (g : j.natAbs < 2 ^ (1000 + 1000)) : (i + j).natAbs < 2 ^ wd := by
  have e : 2 ^ (1000 + 1000) + 2 ^ (1000 + 1000) = 2 ^ (1000 + 1000 + 1) := by rw [Nat.pow_succ (n := 2) (m := 1000 + 1000)]; exact (Nat.mul_two _).symm
  have l : 2 ^ (1000 + 1000 + 1) ≤ 2 ^ wd := Nat.pow_le_pow_right (by decide) (by decide)
  exact Nat.lt_of_lt_of_le (Nat.lt_of_le_of_lt (Int.natAbs_add_le i j) (Nat.add_lt_add h g)) (Nat.le_trans (Nat.le_of_eq e) l)
theorem fit_sub {i j : Int} (h : i.natAbs < 2 ^ (1000 + 1000)) (g : j.natAbs < 2 ^ (1000 + 1000)) : (i - j).natAbs < 2 ^ wd := by
  rw [Int.sub_eq_add_neg]
  exact fit_add h (by rw [Int.natAbs_neg]; exact g)
theorem q_parts {mg : Str → Option Value} {K : PySem.W.Frag} {σ : L2.St} {H : Hp} {E : XK} {ta : TA} {v wh : V} {a b : Int} {i j n : Nat} {tz : TS} {D : Ends} (hn : n = 2) (h : VA ta σ H [v, wh]) (r : Rt H v a b)
    (q : ∀ H', Same H H' → tz D ((σ.set i (some (.int a))).set j (some (.int b))) H') : tSeq (tAsg (tCall (spParts mg) [] E ta) (gTup K n (gCons (gName i) (gCons (gName j) gNil)))) tz D σ H := by
  subst hn
  exact (show tAsg _ _ _ _ _ from c_call h ⟨v, wh, rfl, .inl ⟨a, b, r, fun p H' s e => g_two (SqT.of e) (q H' s)⟩⟩)
theorem q_partsX {mg : Str → Option Value} {σ : L2.St} {H : Hp} {E : XK} {ta : TA} {v wh : V} {g : TG} {tz : TS} {D : Ends} (h : VA ta σ H [v, wh]) (r : RatQ H v false) (b : Bad mg H wh v E) :
    tSeq (tAsg (tCall (spParts mg) [] E ta) g) tz D σ H := (show tAsg _ _ _ _ _ from c_call h ⟨v, wh, rfl, .inr ⟨r, b⟩⟩)

def sp_plus (mg : Str → Option Value) : Sp := fun vs H Q E => ∃ (v u : V), vs = [v, u] ∧ ((∃ i j k l, Rt H v i j ∧ Rt H u k l ∧ Fit i j ∧ Fit k l ∧ ∀ (p : Addr) (H' : Hp), Same H H' → H' p = some (.tup [.int ((i * l + k * j) / gI (i * l + k * j) (j * l)), .int ((j * l) / gI (i * l + k * j) (j * l))]) → Q (.ref p) H') ∨
  (RatQ H v false ∧ Bad mg H (.str "ratio") v E) ∨ (∃ i j, Rt H v i j ∧ RatQ H u false ∧ Bad mg H (.str "ratio") u E))
theorem ok_plus (T : Txt K mg) : FnOk P w K mg base (L2.CX P w) 6 (fA mg "plus") (fDat K (fA mg "plus")) ["one", "other"] (sp_plus mg) := by
  have G_parts := ok_parts (P := P) (w := w) (base := base) T
  have G_lowest := ok_lowest (P := P) (w := w) (base := base) T
  have Gi_BadNumber := init_BadNumber (P := P) (w := w) (base := base) T
  refine T.plus.F.okX scplus (fun vs H Q E h => ?_) (fun cdv A outer s H vs Q E hr h => ?_)
  · obtain ⟨v, u, rfl, _⟩ := h
    rfl
  · obtain ⟨v, u, rfl, h⟩ := h
    refine ⟨_, (pss_cons (ps_asg (pe_call G_parts (hr.mono (by decide)) (by rfl) T._parts.g T._parts.F.kp T._parts.b .nil (passes_call (takes_of rfl rfl rfl rfl) (fun _ _ _ _ h => h)) (pa_cons (pv 0) (pa_cons pe_str pa_nil))) (pg_tup rfl (pgs_cons (pg_name (i := 2) scplus.nd rfl (Or.inl rfl)) (pgs_cons (pg_name (i := 3) scplus.nd rfl (Or.inl rfl)) pgs_nil))))
  (pss_cons (ps_asg (pe_call G_parts (hr.mono (by decide)) (by rfl) T._parts.g T._parts.F.kp T._parts.b .nil (passes_call (takes_of rfl rfl rfl rfl) (fun _ _ _ _ h => h)) (pa_cons (pv 1) (pa_cons pe_str pa_nil))) (pg_tup rfl (pgs_cons (pg_name (i := 4) scplus.nd rfl (Or.inl rfl)) (pgs_cons (pg_name (i := 5) scplus.nd rfl (Or.inl rfl)) pgs_nil))))
  (pss_one (ps_ret (pe_c T._lowest G_lowest (hr.mono (by decide)) (pa_cons (pe_op op_add (pe_op op_mulW (pv 2) (pv 5)) (pe_op op_mulW (pv 4) (pv 3))) (pa_cons (pe_op op_mulW (pv 3) (pv 5)) pa_nil))))))), ?_⟩
    rcases h with ⟨i, j, k, l, r, t, ⟨fi, fj⟩, ⟨fk, fl⟩, q⟩ | ⟨r, b⟩ | ⟨i, j, r, t, b⟩
    · refine q_parts rfl (va_cons (val_var rfl) (va_cons val_c va_nil)) r fun H1 s1 => ?_
      refine q_parts rfl (va_cons (val_var rfl) (va_cons val_c va_nil)) (t.same s1) fun H2 s2 => ?_
      exact r_ret (te := tCall _ _ _ _) (c_call (va_cons (v_add (v_mul (val_var rfl) (val_var rfl) (fit_mul fi fl)) (v_mul (val_var rfl) (val_var rfl) (fit_mul fk fj))) (va_cons (v_mul (val_var rfl) (val_var rfl) (fit_mul fj fl)) va_nil)) ⟨_, _, rfl, Int.mul_pos r.pos t.pos, fit_lt fj fl, fun p H' s e => q p H' ((s1.trans s2).trans s) e⟩)
    · exact q_partsX (va_cons (val_var rfl) (va_cons val_c va_nil)) r b
    · refine q_parts rfl (va_cons (val_var rfl) (va_cons val_c va_nil)) r fun H1 s1 => ?_
      exact q_partsX (va_cons (val_var rfl) (va_cons val_c va_nil)) (t.same s1) (b.from s1)

def sp_times (mg : Str → Option Value) : Sp := fun vs H Q E => ∃ (v u : V), vs = [v, u] ∧ ((∃ i j k l, Rt H v i j ∧ Rt H u k l ∧ Fit i j ∧ Fit k l ∧ ∀ (p : Addr) (H' : Hp), Same H H' → H' p = some (.tup [.int ((i * k) / gI (i * k) (j * l)), .int ((j * l) / gI (i * k) (j * l))]) → Q (.ref p) H') ∨
  (RatQ H v false ∧ Bad mg H (.str "ratio") v E) ∨ (∃ i j, Rt H v i j ∧ RatQ H u false ∧ Bad mg H (.str "ratio") u E))
theorem ok_times (T : Txt K mg) : FnOk P w K mg base (L2.CX P w) 6 (fA mg "times") (fDat K (fA mg "times")) ["one", "other"] (sp_times mg) := by
  have G_parts := ok_parts (P := P) (w := w) (base := base) T
  have G_lowest := ok_lowest (P := P) (w := w) (base := base) T
  have Gi_BadNumber := init_BadNumber (P := P) (w := w) (base := base) T
  refine T.times.F.okX sctimes (fun vs H Q E h => ?_) (fun cdv A outer s H vs Q E hr h => ?_)
  · obtain ⟨v, u, rfl, _⟩ := h
    rfl
  · obtain ⟨v, u, rfl, h⟩ := h
    refine ⟨_, (pss_cons (ps_asg (pe_call G_parts (hr.mono (by decide)) (by rfl) T._parts.g T._parts.F.kp T._parts.b .nil (passes_call (takes_of rfl rfl rfl rfl) (fun _ _ _ _ h => h)) (pa_cons (pv 0) (pa_cons pe_str pa_nil))) (pg_tup rfl (pgs_cons (pg_name (i := 2) sctimes.nd rfl (Or.inl rfl)) (pgs_cons (pg_name (i := 3) sctimes.nd rfl (Or.inl rfl)) pgs_nil))))
  (pss_cons (ps_asg (pe_call G_parts (hr.mono (by decide)) (by rfl) T._parts.g T._parts.F.kp T._parts.b .nil (passes_call (takes_of rfl rfl rfl rfl) (fun _ _ _ _ h => h)) (pa_cons (pv 1) (pa_cons pe_str pa_nil))) (pg_tup rfl (pgs_cons (pg_name (i := 4) sctimes.nd rfl (Or.inl rfl)) (pgs_cons (pg_name (i := 5) sctimes.nd rfl (Or.inl rfl)) pgs_nil))))
  (pss_one (ps_ret (pe_c T._lowest G_lowest (hr.mono (by decide)) (pa_cons (pe_op op_mulW (pv 2) (pv 4)) (pa_cons (pe_op op_mulW (pv 3) (pv 5)) pa_nil))))))), ?_⟩
    rcases h with ⟨i, j, k, l, r, t, ⟨fi, fj⟩, ⟨fk, fl⟩, q⟩ | ⟨r, b⟩ | ⟨i, j, r, t, b⟩
    · refine q_parts rfl (va_cons (val_var rfl) (va_cons val_c va_nil)) r fun H1 s1 => ?_
      refine q_parts rfl (va_cons (val_var rfl) (va_cons val_c va_nil)) (t.same s1) fun H2 s2 => ?_
      exact r_ret (te := tCall _ _ _ _) (c_call (va_cons (v_mul (val_var rfl) (val_var rfl) (fit_mul fi fk)) (va_cons (v_mul (val_var rfl) (val_var rfl) (fit_mul fj fl)) va_nil)) ⟨_, _, rfl, Int.mul_pos r.pos t.pos, fit_lt fj fl, fun p H' s e => q p H' ((s1.trans s2).trans s) e⟩)
    · exact q_partsX (va_cons (val_var rfl) (va_cons val_c va_nil)) r b
    · refine q_parts rfl (va_cons (val_var rfl) (va_cons val_c va_nil)) r fun H1 s1 => ?_
      exact q_partsX (va_cons (val_var rfl) (va_cons val_c va_nil)) (t.same s1) (b.from s1)

def sp_told (mg : Str → Option Value) : Sp := fun vs H Q E => ∃ (v wh : V), vs = [v, wh] ∧ ((∃ i j, Rt H v i j ∧ Fit i j ∧ ∀ (p : Addr) (H' : Hp), Same H H' → H' p = some (.tup [.int ((i) / gI (i) (j)), .int ((j) / gI (i) (j))]) → Q (.ref p) H') ∨ (RatQ H v false ∧ Bad mg H wh v E))
theorem ok_told (T : Txt K mg) : FnOk P w K mg base (L2.CX P w) 6 (fA mg "told") (fDat K (fA mg "told")) ["value", "what"] (sp_told mg) := by
  have G_parts := ok_parts (P := P) (w := w) (base := base) T
  have G_lowest := ok_lowest (P := P) (w := w) (base := base) T
  refine T.told.F.okX sctold (fun vs H Q E h => ?_) (fun cdv A outer s H vs Q E hr h => ?_)
  · obtain ⟨v, u, rfl, _⟩ := h
    rfl
  · obtain ⟨v, u, rfl, h⟩ := h
    refine ⟨_, (pss_cons (ps_asg (pe_call G_parts (hr.mono (by decide)) (by rfl) T._parts.g T._parts.F.kp T._parts.b .nil (passes_call (takes_of rfl rfl rfl rfl) (fun _ _ _ _ h => h)) (pa_cons (pv 0) (pa_cons (pv 1) pa_nil))) (pg_tup rfl (pgs_cons (pg_name (i := 2) sctold.nd rfl (Or.inl rfl)) (pgs_cons (pg_name (i := 3) sctold.nd rfl (Or.inl rfl)) pgs_nil))))
  (pss_one (ps_ret (pe_c T._lowest G_lowest (hr.mono (by decide)) (pa_cons (pv 2) (pa_cons (pv 3) pa_nil)))))), ?_⟩
    rcases h with ⟨i, j, r, ⟨fi, fj⟩, q⟩ | ⟨r, b⟩
    · refine q_parts rfl (va_cons (val_var rfl) (va_cons (val_var rfl) va_nil)) r fun H1 s1 => ?_
      exact r_ret (te := tCall _ _ _ _) (c_call (va_cons (val_var rfl) (va_cons (val_var rfl) va_nil)) ⟨_, _, rfl, r.pos, Nat.lt_of_lt_of_le fj (Nat.pow_le_pow_right (by decide) (by decide)), fun p H' s e => q p H' (s1.trans s) e⟩)
    · exact q_partsX (va_cons (val_var rfl) (va_cons (val_var rfl) va_nil)) r b
theorem q_told {mg : Str → Option Value} {K : PySem.W.Frag} {σ : L2.St} {H : Hp} {E : XK} {ta : TA} {v wh : V} {a b : Int} {i j n : Nat} {tz : TS} {D : Ends} (hn : n = 2) (h : VA ta σ H [v, wh]) (r : Rt H v a b) (f : Fit a b)
    (q : ∀ H', Same H H' → tz D ((σ.set i (some (.int (a / gI a b)))).set j (some (.int (b / gI a b)))) H') : tSeq (tAsg (tCall (sp_told mg) [] E ta) (gTup K n (gCons (gName i) (gCons (gName j) gNil)))) tz D σ H := by
  subst hn
  exact (show tAsg _ _ _ _ _ from c_call h ⟨v, wh, rfl, .inl ⟨a, b, r, f, fun p H' s e => g_two (SqT.of e) (q H' s)⟩⟩)
theorem q_toldX {mg : Str → Option Value} {σ : L2.St} {H : Hp} {E : XK} {ta : TA} {v wh : V} {g : TG} {tz : TS} {D : Ends} (h : VA ta σ H [v, wh]) (r : RatQ H v false) (b : Bad mg H wh v E) :
    tSeq (tAsg (tCall (sp_told mg) [] E ta) g) tz D σ H := (show tAsg _ _ _ _ _ from c_call h ⟨v, wh, rfl, .inr ⟨r, b⟩⟩)

def sp_minus (mg : Str → Option Value) : Sp := fun vs H Q E => ∃ (v u : V), vs = [v, u] ∧ ((∃ i j k l, Rt H v i j ∧ Rt H u k l ∧ Fit i j ∧ Fit k l ∧ ∀ (p : Addr) (H' : Hp), Same H H' → H' p = some (.tup [.int ((i * l - k * j) / gI (i * l - k * j) (j * l)), .int ((j * l) / gI (i * l - k * j) (j * l))]) → Q (.ref p) H') ∨
  (RatQ H v false ∧ Bad mg H (.str "ratio") v E) ∨ (∃ i j, Rt H v i j ∧ RatQ H u false ∧ Bad mg H (.str "ratio") u E))
theorem ok_minus (T : Txt K mg) : FnOk P w K mg base (L2.CX P w) 6 (fA mg "minus") (fDat K (fA mg "minus")) ["one", "other"] (sp_minus mg) := by
  have G_parts := ok_parts (P := P) (w := w) (base := base) T
  have G_lowest := ok_lowest (P := P) (w := w) (base := base) T
  have Gi_BadNumber := init_BadNumber (P := P) (w := w) (base := base) T
  refine T.minus.F.okX scminus (fun vs H Q E h => ?_) (fun cdv A outer s H vs Q E hr h => ?_)
  · obtain ⟨v, u, rfl, _⟩ := h
    rfl
  · obtain ⟨v, u, rfl, h⟩ := h
    refine ⟨_, (pss_cons (ps_asg (pe_call G_parts (hr.mono (by decide)) (by rfl) T._parts.g T._parts.F.kp T._parts.b .nil (passes_call (takes_of rfl rfl rfl rfl) (fun _ _ _ _ h => h)) (pa_cons (pv 0) (pa_cons pe_str pa_nil))) (pg_tup rfl (pgs_cons (pg_name (i := 2) scminus.nd rfl (Or.inl rfl)) (pgs_cons (pg_name (i := 3) scminus.nd rfl (Or.inl rfl)) pgs_nil))))
  (pss_cons (ps_asg (pe_call G_parts (hr.mono (by decide)) (by rfl) T._parts.g T._parts.F.kp T._parts.b .nil (passes_call (takes_of rfl rfl rfl rfl) (fun _ _ _ _ h => h)) (pa_cons (pv 1) (pa_cons pe_str pa_nil))) (pg_tup rfl (pgs_cons (pg_name (i := 4) scminus.nd rfl (Or.inl rfl)) (pgs_cons (pg_name (i := 5) scminus.nd rfl (Or.inl rfl)) pgs_nil))))
  (pss_one (ps_ret (pe_c T._lowest G_lowest (hr.mono (by decide)) (pa_cons (pe_op op_sub (pe_op op_mulW (pv 2) (pv 5)) (pe_op op_mulW (pv 4) (pv 3))) (pa_cons (pe_op op_mulW (pv 3) (pv 5)) pa_nil))))))), ?_⟩
    rcases h with ⟨i, j, k, l, r, t, ⟨fi, fj⟩, ⟨fk, fl⟩, q⟩ | ⟨r, b⟩ | ⟨i, j, r, t, b⟩
    · refine q_parts rfl (va_cons (val_var rfl) (va_cons val_c va_nil)) r fun H1 s1 => ?_
      refine q_parts rfl (va_cons (val_var rfl) (va_cons val_c va_nil)) (t.same s1) fun H2 s2 => ?_
      exact r_ret (te := tCall _ _ _ _) (c_call (va_cons (v_sub (v_mul (val_var rfl) (val_var rfl) (fit_mul fi fl)) (v_mul (val_var rfl) (val_var rfl) (fit_mul fk fj))) (va_cons (v_mul (val_var rfl) (val_var rfl) (fit_mul fj fl)) va_nil)) ⟨_, _, rfl, Int.mul_pos r.pos t.pos, fit_lt fj fl, fun p H' s e => q p H' ((s1.trans s2).trans s) e⟩)
    · exact q_partsX (va_cons (val_var rfl) (va_cons val_c va_nil)) r b
    · refine q_parts rfl (va_cons (val_var rfl) (va_cons val_c va_nil)) r fun H1 s1 => ?_
      exact q_partsX (va_cons (val_var rfl) (va_cons val_c va_nil)) (t.same s1) (b.from s1)

theorem q_while0 {t : TT} {tb tz : TS} {D : Ends} {σ : L2.St} {H : Hp} (h : Ans t σ H false) (q : tz D σ H) : tSeq (tWhile t tb) tz D σ H :=
  ⟨fun _ σ' H' => σ' = σ ∧ H' = H, ⟨0, rfl, rfl⟩, fun m σ' H' ⟨e1, e2⟩ => by
    subst e1 e2
    exact h _ (iteF q)⟩
theorem q_app0 {to te : TE} {tz : TS} {D : Ends} {σ : L2.St} {H : Hp} {l : Addr} {xs : List V} (h : Val to σ H (.ref l)) (hl : H l = some (.lst xs)) (he : te σ H fun v H1 => rAppend (.ref l) [v] H1 fun _ H2 => tz D σ H2) :
    tSeq (tDrop (tBM K "list" rAppend to (tCons te tNil))) tz D σ H := s_appC (D := { D with nx := tz D }) h hl he
theorem op_l {r : R2} {ta tb : TE} {σ : L2.St} {H : Hp} {Q : VK} {x : V} (h : Val ta σ H x) (k : tb σ H fun y H1 => r x y H1 Q) : tOp r ta tb σ H Q := h _ k
theorem v_tif {t : TT} {x y z : V} {σ : L2.St} {H : Hp} {b : Bool} (h : Ans t σ H b) (e : (if b = true then x else y) = z) : Val (tIf t (tC x) (tC y)) σ H z := fun Q q => h _ (by
  subst e
  cases b <;> exact q)
theorem ok_pen {f : Addr} {fd : FuncData} (F : Fun K "_law_pen" "_law_pen" s_law_pen f fd) (T : Txt K mg) : FnOk P w K mg base CX0 1 f fd ["_law_script"] (spPen K) := by
  refine F.ok sc_law_pen (fun vs H Q E h => ?_) (fun cdv A outer s H vs Q E hr h => ?_)
  · obtain ⟨a, ns, rfl, _⟩ := h
    rfl
  · obtain ⟨a, ns, rfl, hS, hl, k⟩ := h
    refine ⟨_, pss_cons (ps_set (i := 1) sc_law_pen.nd rfl (Or.inl rfl) pe_int)
      (pss_cons (ps_for PassesOwn.never rfl (pi_list (pv 0)) (pg_name (i := 2) sc_law_pen.nd rfl (Or.inl rfl))
        (pss_one (ps_set (i := 1) sc_law_pen.nd rfl (Or.inl rfl) (pe_op op_mod (pe_callTy call_int1 (by rfl) T.int (by decide +kernel) (pa_cons (pe_op op_add (pe_op op_mul (pv 1) pe_int) (pv 2)) pa_nil)) pe_int))))
      (pss_one (ps_ret (pe_disp (pps_cons pe_str (pe_callTy call_list_of (by rfl) T.list (by decide +kernel) (pa_cons (pv 0) pa_nil)) (pps_cons pe_str pe_int (pps_cons pe_str pe_int (pps_cons pe_str pe_int (pps_cons pe_str (pv 1) pps_nil))))) (by rfl) (by rfl) (fun z => by cases z) (by decide))))), ?_⟩
    refine ⟨_, rfl, a, rfl, ⟨_, hS⟩, for_list (K := K) (a := a) (xs := ns.map V.int) (fun i σ H' => ∃ (v : Int) (c : Option V), σ = [some (.ref a), some (.int v), c] ∧ H' = H ∧ 0 ≤ v ∧ v < 1000000007)
      ⟨0, none, rfl, rfl, by decide, by decide⟩ (fun i σ H' _ ⟨_, _, _, e, _⟩ => e ▸ hS) ?_ ?_⟩
    · rintro i y σ H' hi ⟨v, c, rfl, rfl, h0, h1⟩
      obtain ⟨z, rfl⟩ : ∃ z, y = V.int z := by
        rw [List.getElem?_map] at hi
        cases e : ns[i]? with
        | none => rw [e] at hi; cases hi
        | some z => rw [e] at hi; exact ⟨z, (Option.some.inj hi).symm⟩
      refine ⟨_, rfl, _, _, rfl, rfl, .inl ⟨by omega, by omega⟩, _, rfl, _, _, rfl, rfl, .inl ⟨_, rfl, ?_⟩⟩
      refine ⟨_, _, rfl, rfl, (by show (0 : Int) < 1000000007; decide), ?_⟩
      exact ⟨_, _, rfl, rfl, Int.emod_nonneg _ (by decide), Int.emod_lt_of_pos _ (by decide)⟩
    · rintro σ H' ⟨v, c, rfl, rfl, h0, h1⟩
      intro p hp
      refine ⟨_, rfl, a, _, rfl, .inl (Same.seq (Same.new hp) hS), fun l hl' => ?_⟩
      refine ⟨_, rfl, ?_⟩
      have npl : p ≠ l := ne_of_none upd_same hl'
      refine ⟨by rw [upd_ne npl, upd_same], penK l 0 0 0 v, rfl, (by show 5 ≤ 15; decide), ?_⟩
      rw [merge_pen]
      have hl0 : H' l = none := (Same.new hp).free hl'
      refine k p l _ (fun b o e => ?_) ⟨0, 0, 0, v, ns, upd_same, ?_, by decide, by omega, by decide, by decide, by decide, h0, by omega⟩
      · rw [upd_ne (ne_of_none e hp), upd_ne (ne_of_none e hl0), upd_ne (ne_of_none e hp)]
        exact e
      · rw [upd_ne npl.symm, upd_same]
theorem ok_draw {f : Addr} {fd : FuncData} (F : Fun K "_law_draw" "_law_draw" s_law_draw f fd) (T : Txt K mg) : FnOk P w K mg base CX0 1 f fd ["_law_pen_here", "_law_many"] spDraw := by
  refine F.ok sc_law_draw (fun vs H Q E h => ?_) (fun cdv A outer s H vs Q E hr h => ?_)
  · obtain ⟨p, c, many, m, rfl, _⟩ := h
    rfl
  · obtain ⟨p, c, many, m, rfl, hP, hm, h0, h1, k⟩ := h
    have hu := hu_of hr
    refine ⟨_, pss_cons (ps_dput hu (pv 0) pe_str (pe_op op_add (pe_dget hu (pv 0) pe_str (fun _ _ => rfl)) pe_int) rfl)
      (C8.pss_cut (ps_if (PW.pt (pw_and (pt_cmpR op_eq (pe_dget hu (pv 0) pe_str (fun _ _ => rfl)) pe_int (nomark _))
          (pw_and1 (pt_cmpR op_lt (pe_dget hu (pv 0) pe_str (fun _ _ => rfl)) (pe_callB call_len_seq (by rfl) T.len PySem.boot_len (pa_cons (pe_dget hu (pv 0) pe_str (fun _ _ => rfl)) pa_nil)) (nomark _)))))
        (pss_cons (ps_set (i := 2) sc_law_draw.nd rfl (Or.inl rfl) (pe_ix ix_list (pe_dget hu (pv 0) pe_str (fun _ _ => rfl)) (pe_dget hu (pv 0) pe_str (fun _ _ => rfl)) (fun _ _ => rfl)))
        (pss_cons (ps_dput hu (pv 0) pe_str (pe_op op_add (pe_dget hu (pv 0) pe_str (fun _ _ => rfl)) pe_int) rfl)
        (pss_one (ps_if (pt_cmpR op_ge (pv 2) (pe_op op_pow pe_int pe_int) (nomark _))
          (pss_one (ps_dput hu (pv 0) pe_str (pe_op op_sub (pv 2) (pe_op op_pow pe_int pe_int)) rfl))
          (pss_one (ps_dput hu (pv 0) pe_str (pe_op op_mod (pe_callTy call_int1 (by rfl) T.int (by decide +kernel) (pa_cons (pe_op op_add (pe_op op_mul (pe_dget hu (pv 0) pe_str (fun _ _ => rfl)) pe_int) (pv 2)) pa_nil)) pe_int) rfl))))))
        pss_nil)
      (pss_cons (ps_if (pt_cmpR op_gt (pe_dget hu (pv 0) pe_str (fun _ _ => rfl)) pe_int (nomark _))
        (pss_cons (ps_set (i := 3) sc_law_draw.nd rfl (Or.inl rfl) (pe_op op_modN (pe_callTy call_int1 (by rfl) T.int (by decide +kernel) (pa_cons (pe_dget hu (pv 0) pe_str (fun _ _ => rfl)) pa_nil)) (pv 1)))
        (pss_cons (ps_dput hu (pv 0) pe_str (pe_op op_fdivN (pe_dget hu (pv 0) pe_str (fun _ _ => rfl)) (pv 1)) rfl)
        (pss_one (ps_ret (pv 3)))))
        pss_nil)
      (pss_cons (ps_set (i := 4) sc_law_draw.nd rfl (Or.inl rfl) (pe_op op_add (pe_op op_add (pe_dget hu (pv 0) pe_str (fun _ _ => rfl)) (pe_op op_mul (pe_dget hu (pv 0) pe_str (fun _ _ => rfl)) pe_int)) pe_int))
      (pss_one (ps_ret (pe_op op_modN (pe_op op_fdiv (pe_callTy call_int1 (by rfl) T.int (by decide +kernel) (pa_cons (pe_op op_mod (pe_op op_pow (pv 4) pe_int) pe_int) pa_nil)) pe_int) (pv 1))))))), ?_⟩
    obtain ⟨a, d, n, fo, ns, hp, hc, b1, b2, b3, b4, b5, b6, b7⟩ := hP
    have npc : c ≠ p := ne_of hc hp (by intro z; cases z)
    have get : ∀ {z1 z2 z3 : Option V} {H1 : Hp} {c : Addr} {a d n f : Int} {k : Key} {v : V}, H1 p = some (.dK (penK c a d n f)) → valV (penK c a d n f) k = some v →
      Val (tDGet (tVar 0) (tC (kV k))) [some (.ref p), some (.int many), z1, z2, z3] H1 v := fun h1 h2 => v_get (val_var rfl) h1 h2
    have pn : ∀ {H1 : Hp} {o : HO}, H1 c = some (.lst (ns.map V.int)) → upd H1 p o c = some (.lst (ns.map V.int)) := fun e => by rw [upd_ne npc]; exact e
    have bu : ∀ {H1 : Hp} {o : HO}, But p H H1 → But p H (upd H1 p o) := fun e b o h ne => by rw [upd_ne ne]; exact e b o h ne
    -- count
    refine s_put (k := kCo) (val_var rfl) (v_I0 (get (k := kCo) hp pen_count) val_c) hp (by show 5 ≤ 100; decide) ?_
    rw [put_count]
    have hp1 : upd H p (HO.dK (penK c a d (n + 1) fo)) p = some (.dK (penK c a d (n + 1) fo)) := upd_same
    have hc1 : upd H p (HO.dK (penK c a d (n + 1) fo)) c = some (.lst (ns.map V.int)) := pn hc
    have bt : But p H (upd H p (HO.dK (penK c a d (n + 1) fo))) := bu But.refl
    generalize upd H p (HO.dK (penK c a d (n + 1) fo)) = H1 at hp1 hc1 bt
    refine ⟨fun σ' H' => ∃ (a' d' f' : Int) (z : Option V), σ' = [some (.ref p), some (.int many), z, none, none] ∧ But p H H' ∧ H' p = some (.dK (penK c a' d' (n + 1) f')) ∧ H' c = some (.lst (ns.map V.int)) ∧
      0 ≤ a' ∧ a' ≤ ns.length ∧ 0 ≤ d' ∧ 0 ≤ f' ∧ f' < 2147483587, ?_, ?_⟩
    · -- a cell is taken
      refine st_if (b := decide (d = 0) && decide (a < ns.length)) (ans_and2 ((ans_eq (get (k := kDi) hp1 pen_digits) val_c rfl rfl).to (by simp)) ((a_I (get (k := kAt) hp1 pen_at) (v_len (get (k := kCe) hp1 pen_cells) (.inl (SqL.of hc1)))).to (by simp))) (fun e => ?_) (fun e => ?_)
      · have e1 : d = 0 ∧ a < ns.length := by simpa using e
        obtain ⟨i, rfl⟩ : ∃ i : Nat, a = i := ⟨a.toNat, by omega⟩
        have hi : i < ns.length := by omega
        refine st_set (v := .int ns[i]) (v_ixL (get (k := kCe) hp1 pen_cells) (get (k := kAt) hp1 pen_at) (SqL.of hc1) (by simp [hi])) ?_
        refine s_put (k := kAt) (val_var rfl) (v_I0 (get (k := kAt) hp1 pen_at) val_c) hp1 (by show 5 ≤ 100; decide) ?_
        rw [put_at]
        refine st_if (b := decide (ns[i] ≥ 10 ^ 18)) ((a_I (val_var rfl) (v_pow val_c val_c ⟨by decide, by decide, by decide⟩)).to ?_) (fun e2 => ?_) (fun e2 => ?_)
        · simp
        · refine s_put (k := kDi) (val_var rfl) (v_I0 (val_var rfl) (v_pow val_c val_c ⟨by decide, by decide, by decide⟩)) upd_same (by show 5 ≤ 100; decide) ?_
          rw [put_digits]
          exact ⟨_, _, _, _, rfl, bu (bu bt), upd_same, pn (pn hc1), by omega, by omega, by simp at e2; simp; omega, b6, b7⟩
        · refine s_put (k := kFo) (val_var rfl) (v_I (v_int1 (v_I0 (v_I (get (k := kFo) upd_same pen_fold) val_c (.inl ⟨by omega, by omega⟩)) (val_var rfl))) val_c (by decide)) upd_same (by show 5 ≤ 100; decide) ?_
          rw [put_fold]
          exact ⟨_, _, _, _, rfl, bu (bu bt), upd_same, pn (pn hc1), by omega, by omega, b3, Int.emod_nonneg _ (by decide), Int.emod_lt_of_pos _ (by decide)⟩
      · exact ⟨a, d, fo, none, rfl, bt, hp1, hc1, b1, b2, b3, b6, b7⟩
    · rintro σ' H' ⟨a', d', f', z, rfl, bt', hp', hc', g1, g2, g3, g4, g5⟩
      refine st_if (b := decide (0 < d')) ((a_I (get (k := kDi) hp' pen_digits) val_c).to (by simp)) (fun e => ?_) (fun e => ?_)
      · have e1 : 0 < d' := by simpa using e
        refine st_set (v_I (v_int1 (get (k := kDi) hp' pen_digits)) (val_var rfl) (by omega)) ?_
        refine s_put (k := kDi) (val_var rfl) (v_I (get (k := kDi) hp' pen_digits) (val_var rfl) ⟨by omega, by omega⟩) hp' (by show 5 ≤ 100; decide) ?_
        rw [put_digits]
        refine st_ret (val_var rfl) ?_
        refine k _ _ (Int.fmod_nonneg_of_pos _ h0) (Int.fmod_lt_of_pos _ h0) (bu bt') ⟨_, _, _, _, _, upd_same, pn hc', g1, g2, Int.fdiv_nonneg (by omega) (by omega), by omega, by omega, g4, g5⟩
      · refine st_set (v_add (v_add (get (k := kFo) hp' pen_fold) (v_mul (get (k := kCo) hp' pen_count) val_c (.inl ⟨by omega, by unfold most at hm; omega⟩))) val_c) ?_
        refine st_ret (v_fmod (v_div (v_int1 (v_mod (v_pow (val_var rfl) val_c ⟨by decide, by decide, by unfold most at hm; omega⟩) val_c (by decide))) val_c ⟨by decide, by decide⟩) (val_var rfl) (by omega)) ?_
        exact k _ _ (Int.fmod_nonneg_of_pos _ h0) (Int.fmod_lt_of_pos _ h0) bt' ⟨_, _, _, _, _, hp', hc', g1, g2, g3, by omega, by omega, g4, g5⟩
theorem But.seq {K : PySem.W.Frag} {H H' : Hp} {p q : Addr} {kvs : List (Key × V)} {xs : List V} (b : But p H H') (hp : H p = some (.dK kvs)) (h : SqL K H q xs) : SqL K H' q xs := by
  rcases h with (h | ⟨o, h⟩) | h
  · exact .inl (.inl (b _ _ h (ne_of h hp (by intro z; cases z))))
  · exact .inl (.inr ⟨o, b _ _ h (ne_of h hp (by intro z; cases z))⟩)
  · exact .inr h
theorem PenAt.dk {H : Hp} {p c : Addr} {m : Nat} (h : PenAt H p c m) : ∃ kvs, H p = some (.dK kvs) := by
  obtain ⟨a, d, n, f, ns, h1, _⟩ := h
  exact ⟨_, h1⟩
/-- one item of a list is drawn -/
def spPick (K : PySem.W.Frag) : Sp := fun vs H Q _ => ∃ (p c q : Addr) (xs : List V) (m : Nat), vs = [.ref p, .ref q] ∧ PenAt H p c m ∧ m < most ∧ SqL K H q xs ∧ 0 < xs.length ∧ xs.length < 1000000000 ∧
  ∀ (v : V) (H' : Hp), v ∈ xs → But p H H' → PenAt H' p c (m + 1) → Q v H'
theorem ok_pick (T : Txt K mg) : FnOk P w K mg base CX0 3 (fA mg "_law_pick") (fDat K (fA mg "_law_pick")) ["_law_pen_here", "_law_some_here"] (spPick K) := by
  have G_law_draw := ok_draw (P := P) (w := w) (base := base) T._law_draw.F T
  refine T._law_pick.F.ok sc_law_pick (fun vs H Q E h => ?_) (fun cdv A outer s H vs Q E hr h => ?_)
  · obtain ⟨p, c, q, xs, m, rfl, _⟩ := h
    rfl
  · obtain ⟨p, c, q, xs, m, rfl, hP, hm, hS, h0, h1, k⟩ := h
    refine ⟨_, (pss_one (ps_ret (pe_ix ix_list (pv 1) (pe_c T._law_draw G_law_draw (hr.mono (by decide)) (pa_cons (pv 0) (pa_cons (pe_callB call_len_seq (by rfl) T.len PySem.boot_len (pa_cons (pv 1) pa_nil)) pa_nil))) (fun _ _ => rfl)))), ?_⟩
    refine ⟨_, rfl, c_call (va_cons (val_var rfl) (va_cons (v_len (val_var rfl) (.inl hS)) va_nil)) ⟨p, c, _, m, rfl, hP, hm, by omega, by omega, fun r H' r0 r1 b P' => ?_⟩⟩
    obtain ⟨kvs, hd⟩ := hP.dk
    obtain ⟨i, rfl⟩ : ∃ i : Nat, r = i := ⟨r.toNat, by omega⟩
    have hi : i < xs.length := by omega
    exact ⟨q, xs, i, xs[i], rfl, rfl, b.seq hd hS, atI_nat (List.getElem?_eq_getElem hi), k _ _ (List.getElem_mem hi) b P'⟩

/-! ### the law's own ratios -/
theorem half {a b : Nat} (h : b < a) (h0 : 0 < b) : b * (a % b) * 2 ≤ a * b := by
  have h1 := Nat.mod_lt a h0
  have h2 := Nat.mod_add_div a b
  have h3 : 1 ≤ a / b := Nat.div_pos (Nat.le_of_lt h) h0
  have h4 : b ≤ b * (a / b) := Nat.le_mul_of_pos_right _ h3
  have h5 : a % b * 2 ≤ a := by omega
  rw [Nat.mul_assoc, Nat.mul_comm a b]
  exact Nat.mul_le_mul_left _ h5
theorem v_abs {te : TE} {σ : L2.St} {H : Hp} {x : Int} (h : Val te σ H (.int x)) : Val (tCB (fun xs H Q => ∃ i, xs = [.int i] ∧ Q (.int (if i < 0 then -i else i)) H) (tCons te tNil)) σ H (.int (x.natAbs : Int)) := fun Q q => h _ ⟨x, rfl, by
  have e : (if x < 0 then -x else x) = (x.natAbs : Int) := by split <;> omega
  rw [e]
  exact q⟩
def spLGcd : Sp := fun vs H Q _ => ∃ x y : Int, vs = [.int x, .int y] ∧ x.natAbs < 2 ^ wd ∧ y.natAbs < 2 ^ wd ∧ Q (.int (gI x y)) H
theorem ok_law_gcd (T : Txt K mg) : FnOk P w K mg base CX0 1 (fA mg "_law_gcd") (fDat K (fA mg "_law_gcd")) ["_law_one", "_law_two"] spLGcd := by
  refine T._law_gcd.F.ok sc_law_gcd (fun vs H Q E h => ?_) (fun cdv A outer s H vs Q E hr h => ?_)
  · obtain ⟨x, y, rfl, _⟩ := h
    rfl
  · obtain ⟨x, y, rfl, hx, hy, k⟩ := h
    refine ⟨_, (pss_cons (ps_par (i := 0) (j := 1) (by rfl) sc_law_gcd.nd rfl rfl (by decide) rfl rfl (pa_cons (pe_callB call_abs (by rfl) T.abs (by decide +kernel) (pa_cons (pv 0) pa_nil)) (pa_cons (pe_callB call_abs (by rfl) T.abs (by decide +kernel) (pa_cons (pv 1) pa_nil)) pa_nil)) (by rfl))
  (pss_cons (ps_for PassesOwn.never rfl (pi_range1 (by rfl) T.range (pa_cons pe_int pa_nil)) (pg_name (i := 2) sc_law_gcd.nd rfl (Or.inl rfl))
  (pss_cons (ps_if (pt_cmpR op_eq (pv 1) pe_int (nomark _)) (pss_one ps_break) pss_nil)
  (pss_one (ps_par (i := 0) (j := 1) (by rfl) sc_law_gcd.nd rfl rfl (by decide) rfl rfl (pa_cons (pv 1) (pa_cons (pe_op op_modN (pe_callTy call_int1 (by rfl) T.int (by decide +kernel) (pa_cons (pv 0) pa_nil)) (pv 1)) pa_nil)) (by rfl)))))
  (pss_one (ps_ret (pv 0))))), ?_⟩
    have hM : x.natAbs * y.natAbs < 2 ^ (wd + wd) := by
      rw [Nat.pow_add]
      exact Nat.mul_lt_mul'' hx hy
    refine (show tPar 0 1 _ _ _ _ from ?_)
    refine (va_cons (v_abs (val_var rfl)) (va_cons (v_abs (val_var rfl)) va_nil)) _ ⟨_, _, rfl, ?_⟩
    refine q_forR1 (n := 50000) (va_cons val_c va_nil) (by decide) (fun i σ H' => ∃ (a b : Nat) (z : Option V), σ = [some (.int a), some (.int b), z] ∧ H' = H ∧ Nat.gcd a b = Nat.gcd x.natAbs y.natAbs ∧ (i = 0 ∨ b < a) ∧ a * b * 2 ^ (i - 1) ≤ x.natAbs * y.natAbs)
      ⟨x.natAbs, y.natAbs, none, rfl, rfl, rfl, .inl rfl, by simp⟩ ?_ ?_
    · rintro i σ H' hi ⟨a, b, z, rfl, rfl, hg, hb, hm⟩
      refine (show tSeq (tIfS _ _ _) _ _ _ _ from ?_)
      by_cases b0 : b = 0
      · subst b0
        refine q_when (b := true) (ans_eq (x := .int ((0 : Nat) : Int)) (y := .int 0) (val_var rfl) val_c rfl rfl) (fun _ => ?_) (fun z => nomatch z)
        unfold tBreak
        refine st_ret (val_var rfl) ?_
        have e : gI x y = (a : Int) := by
          unfold gI
          rw [← hg, Nat.gcd_zero_right]
        rw [← e]
        exact k
      · refine q_unless (ans_eq (x := .int (b : Int)) (y := .int 0) (val_var rfl) val_c rfl (decide_eq_false (by simp [b0]))) ?_
        have e : ((a : Int).fmod (b : Int)) = ((a % b : Nat) : Int) := by
          rw [Int.fmod_eq_emod_of_nonneg _ (by omega)]
          exact (Int.natCast_emod a b).symm
        refine (show tPar 0 1 _ _ _ _ from ?_)
        refine (va_cons (val_var rfl) (va_cons (v_fmod (i := (a : Int)) (j := (b : Int)) (v_int1 (val_var rfl)) (val_var rfl) (by omega)) va_nil)) _ ⟨_, _, rfl, ?_⟩
        rw [e]
        refine ⟨b, a % b, _, rfl, rfl, ?_, .inr (Nat.mod_lt _ (by omega)), ?_⟩
        · rw [← hg, Nat.gcd_comm b, ← Nat.gcd_rec, Nat.gcd_comm]
        · rcases hb with rfl | hb
          · refine Nat.le_trans ?_ hm
            simp only [Nat.zero_add, Nat.sub_self, Nat.zero_sub, Nat.pow_zero, Nat.mul_one]
            rw [Nat.mul_comm a b]
            exact Nat.mul_le_mul_left _ (Nat.mod_le _ _)
          · cases i with
            | zero => 
              refine Nat.le_trans ?_ hm
              simp only [Nat.zero_add, Nat.sub_self, Nat.zero_sub, Nat.pow_zero, Nat.mul_one]
              rw [Nat.mul_comm a b]
              exact Nat.mul_le_mul_left _ (Nat.mod_le _ _)
            | succ i =>
              refine Nat.le_trans ?_ hm
              have h := Nat.mul_le_mul_right (2 ^ i) (half hb (by omega))
              simp only [Nat.add_sub_cancel]
              rw [Nat.pow_succ, Nat.mul_comm (2 ^ i) 2, ← Nat.mul_assoc]
              exact h
    · rintro σ H' ⟨a, b, z, rfl, rfl, hg, hb, hm⟩
      have b0 : b = 0 := by
        rcases Nat.eq_zero_or_pos b with h | h
        · exact h
        · exfalso
          have ha : b < a := hb.resolve_left (by decide)
          have h1 : 1 ≤ a * b := Nat.mul_pos (by omega) h
          have h2 : 2 ^ (50000 - 1) ≤ a * b * 2 ^ (50000 - 1) := Nat.le_mul_of_pos_left _ h1
          have h3 : 2 ^ (wd + wd) ≤ 2 ^ (50000 - 1) := Nat.pow_le_pow_right (by decide) (by decide)
          exact Nat.lt_irrefl _ (Nat.lt_of_le_of_lt (Nat.le_trans h3 (Nat.le_trans h2 hm)) hM)
      subst b0
      refine st_ret (val_var rfl) ?_
      have e : gI x y = (a : Int) := by
        unfold gI
        rw [← hg, Nat.gcd_zero_right]
      rw [← e]
      exact k
def spLQ : Sp := fun vs H Q _ => ∃ x y : Int, vs = [.int x, .int y] ∧ x.natAbs < 2 ^ wd ∧ y.natAbs < 2 ^ wd ∧ ((0 < y ∧ ∀ (p : Addr) (H' : Hp), Same H H' → H' p = some (.tup [.int (x / gI x y), .int (y / gI x y)]) → Q (.ref p) H') ∨
  (y < 0 ∧ ∀ (p : Addr) (H' : Hp), Same H H' → H' p = some (.tup [.int ((-x) / gI x y), .int ((-y) / gI x y)]) → Q (.ref p) H'))
theorem ok_law_q (T : Txt K mg) : FnOk P w K mg base CX0 2 (fA mg "_law_q") (fDat K (fA mg "_law_q")) ["_law_top", "_law_bottom"] spLQ := by
  have G_law_gcd := ok_law_gcd (P := P) (w := w) (base := base) T
  refine T._law_q.F.ok sc_law_q (fun vs H Q E h => ?_) (fun cdv A outer s H vs Q E hr h => ?_)
  · obtain ⟨x, y, rfl, _⟩ := h
    rfl
  · obtain ⟨x, y, rfl, hx, hy, k⟩ := h
    refine ⟨_, (pss_cons (ps_set (i := 2) sc_law_q.nd rfl (Or.inl rfl) (pe_c T._law_gcd G_law_gcd (hr.mono (by decide)) (pa_cons (pv 0) (pa_cons (pv 1) pa_nil))))
  (pss_cons (ps_set (i := 2) sc_law_q.nd rfl (Or.inl rfl) (pe_ifExp (pt_cmpR op_lt (pv 1) pe_int (nomark _)) (pe_un un_neg (pv 2)) (pv 2)))
  (pss_one (ps_ret (pe_tup (pa_cons (pe_op op_fdivS (pv 0) (pv 2)) (pa_cons (pe_op op_fdivS (pv 1) (pv 2)) pa_nil))))))), ?_⟩
    refine q_asg (c_call (va_cons (val_var rfl) (va_cons (val_var rfl) va_nil)) ⟨x, y, rfl, hx, hy, ?_⟩)
    have big : ∀ {d : Int}, d = gI x y ∨ d = -gI x y → 0 < gI x y → y ≠ 0 → d ≠ 0 ∧ d.natAbs.log2 < 9000 := fun {d} h g y0 => by
      have l : gI x y ≤ y.natAbs := by
        have : Nat.gcd x.natAbs y.natAbs ≤ y.natAbs := Nat.le_of_dvd (by omega) (Nat.gcd_dvd_right _ _)
        unfold gI
        omega
      have n : d.natAbs ≤ y.natAbs := by omega
      exact ⟨by omega, Nat.lt_of_lt_of_le (PySem.Flt.log2_lt_of (k := wd) (by decide) (Nat.lt_of_le_of_lt n hy)) (by decide)⟩
    rcases k with ⟨y0, k⟩ | ⟨y0, k⟩
    · have g := gI_pos (i := x) y0
      refine q_asg ((a_I (i := y) (j := 0) (val_var rfl) val_c) _ ?_)
      rw [decide_eq_false (by omega : ¬ y < 0)]
      refine iteF ?_
      refine (val_var rfl) _ ?_
      refine r_ret (te := tTup _) ((va_cons (v_fdiv (i := x) (j := gI x y) (val_var rfl) (val_var rfl) (big (.inl rfl) g (by omega))) (va_cons (v_fdiv (i := y) (j := gI x y) (val_var rfl) (val_var rfl) (big (.inl rfl) g (by omega))) va_nil)) _ ⟨by show 2 ≤ sizeLine; decide, fun p hp => k p _ (Same.new' hp) ?_⟩)
      rw [Int.fdiv_eq_ediv_of_nonneg _ (by omega), Int.fdiv_eq_ediv_of_nonneg _ (by omega)]
      exact upd_same
    · have g : 0 < gI x y := by
        have : 0 < Nat.gcd x.natAbs y.natAbs := Nat.gcd_pos_of_pos_right _ (by omega)
        unfold gI
        omega
      have ng : ∀ x d : Int, 0 < d → x.fdiv (-d) = (-x) / d := fun x d h => by
        have e := Int.neg_fdiv_neg (-x) d
        rw [Int.neg_neg] at e
        rw [e, Int.fdiv_eq_ediv_of_nonneg _ (by omega)]
      refine q_asg ((a_I (i := y) (j := 0) (val_var rfl) val_c) _ ?_)
      rw [decide_eq_true (by omega : y < 0)]
      refine iteT ?_
      refine (v_neg (n := gI x y) (val_var rfl)) _ ?_
      refine r_ret (te := tTup _) ((va_cons (v_fdiv (i := x) (j := -gI x y) (val_var rfl) (val_var rfl) (big (.inr rfl) g (by omega))) (va_cons (v_fdiv (i := y) (j := -gI x y) (val_var rfl) (val_var rfl) (big (.inr rfl) g (by omega))) va_nil)) _ ⟨by show 2 ≤ sizeLine; decide, fun p hp => k p _ (Same.new' hp) ?_⟩)
      rw [ng _ _ g, ng _ _ g]
      exact upd_same

def sp_law_plus : Sp := fun vs H Q _ => ∃ (p q : Addr) (i j k l : Int), vs = [.ref p, .ref q] ∧ H p = some (.tup [.int i, .int j]) ∧ H q = some (.tup [.int k, .int l]) ∧ Fit i j ∧ Fit k l ∧ 0 < j ∧ 0 < l ∧ ∀ (p : Addr) (H' : Hp), Same H H' → H' p = some (.tup [.int ((i * l + k * j) / gI (i * l + k * j) (j * l)), .int ((j * l) / gI (i * l + k * j) (j * l))]) → Q (.ref p) H'
theorem ok_law_plus (T : Txt K mg) : FnOk P w K mg base CX0 3 (fA mg "_law_plus") (fDat K (fA mg "_law_plus")) ["_law_one", "_law_two"] sp_law_plus := by
  have G_law_q := ok_law_q (P := P) (w := w) (base := base) T
  refine T._law_plus.F.ok sc_law_plus (fun vs H Q E h => ?_) (fun cdv A outer s H vs Q E hr h => ?_)
  · obtain ⟨p, q, i, j, k, l, rfl, _⟩ := h
    rfl
  · obtain ⟨p, q, i, j, k, l, rfl, hp, hq, ⟨fi, fj⟩, ⟨fk, fl⟩, j0, l0, z⟩ := h
    refine ⟨_, (pss_one (ps_ret (pe_c T._law_q G_law_q (hr.mono (by decide)) (pa_cons (pe_op op_add (pe_op op_mulW (pe_ix ix_tup (pv 0) pe_int (fun _ _ => rfl)) (pe_ix ix_tup (pv 1) pe_int (fun _ _ => rfl))) (pe_op op_mulW (pe_ix ix_tup (pv 1) pe_int (fun _ _ => rfl)) (pe_ix ix_tup (pv 0) pe_int (fun _ _ => rfl)))) (pa_cons (pe_op op_mulW (pe_ix ix_tup (pv 0) pe_int (fun _ _ => rfl)) (pe_ix ix_tup (pv 1) pe_int (fun _ _ => rfl))) pa_nil))))), ?_⟩
    exact r_ret (te := tCall _ _ _ _) (c_call (va_cons (v_add (v_mul (v_ixT (n := 0) (val_var rfl) val_c (SqT.of hp) rfl) (v_ixT (n := 1) (val_var rfl) val_c (SqT.of hq) rfl) (fit_mul fi fl)) (v_mul (v_ixT (n := 0) (val_var rfl) val_c (SqT.of hq) rfl) (v_ixT (n := 1) (val_var rfl) val_c (SqT.of hp) rfl) (fit_mul fk fj))) (va_cons (v_mul (v_ixT (n := 1) (val_var rfl) val_c (SqT.of hp) rfl) (v_ixT (n := 1) (val_var rfl) val_c (SqT.of hq) rfl) (fit_mul fj fl)) va_nil)) ⟨_, _, rfl, fit_add (wide_lt fi fl) (wide_lt fk fj), fit_lt fj fl, .inl ⟨Int.mul_pos j0 l0, z⟩⟩)

def sp_law_times : Sp := fun vs H Q _ => ∃ (p q : Addr) (i j k l : Int), vs = [.ref p, .ref q] ∧ H p = some (.tup [.int i, .int j]) ∧ H q = some (.tup [.int k, .int l]) ∧ Fit i j ∧ Fit k l ∧ 0 < j ∧ 0 < l ∧ ∀ (p : Addr) (H' : Hp), Same H H' → H' p = some (.tup [.int ((i * k) / gI (i * k) (j * l)), .int ((j * l) / gI (i * k) (j * l))]) → Q (.ref p) H'
theorem ok_law_times (T : Txt K mg) : FnOk P w K mg base CX0 3 (fA mg "_law_times") (fDat K (fA mg "_law_times")) ["_law_one", "_law_two"] sp_law_times := by
  have G_law_q := ok_law_q (P := P) (w := w) (base := base) T
  refine T._law_times.F.ok sc_law_times (fun vs H Q E h => ?_) (fun cdv A outer s H vs Q E hr h => ?_)
  · obtain ⟨p, q, i, j, k, l, rfl, _⟩ := h
    rfl
  · obtain ⟨p, q, i, j, k, l, rfl, hp, hq, ⟨fi, fj⟩, ⟨fk, fl⟩, j0, l0, z⟩ := h
    refine ⟨_, (pss_one (ps_ret (pe_c T._law_q G_law_q (hr.mono (by decide)) (pa_cons (pe_op op_mulW (pe_ix ix_tup (pv 0) pe_int (fun _ _ => rfl)) (pe_ix ix_tup (pv 1) pe_int (fun _ _ => rfl))) (pa_cons (pe_op op_mulW (pe_ix ix_tup (pv 0) pe_int (fun _ _ => rfl)) (pe_ix ix_tup (pv 1) pe_int (fun _ _ => rfl))) pa_nil))))), ?_⟩
    exact r_ret (te := tCall _ _ _ _) (c_call (va_cons (v_mul (v_ixT (n := 0) (val_var rfl) val_c (SqT.of hp) rfl) (v_ixT (n := 0) (val_var rfl) val_c (SqT.of hq) rfl) (fit_mul fi fk)) (va_cons (v_mul (v_ixT (n := 1) (val_var rfl) val_c (SqT.of hp) rfl) (v_ixT (n := 1) (val_var rfl) val_c (SqT.of hq) rfl) (fit_mul fj fl)) va_nil)) ⟨_, _, rfl, fit_lt fi fk, fit_lt fj fl, .inl ⟨Int.mul_pos j0 l0, z⟩⟩)

def sp_law_minus : Sp := fun vs H Q _ => ∃ (p q : Addr) (i j k l : Int), vs = [.ref p, .ref q] ∧ H p = some (.tup [.int i, .int j]) ∧ H q = some (.tup [.int k, .int l]) ∧ Fit i j ∧ Fit k l ∧ 0 < j ∧ 0 < l ∧ ∀ (p : Addr) (H' : Hp), Same H H' → H' p = some (.tup [.int ((i * l - k * j) / gI (i * l - k * j) (j * l)), .int ((j * l) / gI (i * l - k * j) (j * l))]) → Q (.ref p) H'
theorem ok_law_minus (T : Txt K mg) : FnOk P w K mg base CX0 3 (fA mg "_law_minus") (fDat K (fA mg "_law_minus")) ["_law_one", "_law_two"] sp_law_minus := by
  have G_law_q := ok_law_q (P := P) (w := w) (base := base) T
  refine T._law_minus.F.ok sc_law_minus (fun vs H Q E h => ?_) (fun cdv A outer s H vs Q E hr h => ?_)
  · obtain ⟨p, q, i, j, k, l, rfl, _⟩ := h
    rfl
  · obtain ⟨p, q, i, j, k, l, rfl, hp, hq, ⟨fi, fj⟩, ⟨fk, fl⟩, j0, l0, z⟩ := h
    refine ⟨_, (pss_one (ps_ret (pe_c T._law_q G_law_q (hr.mono (by decide)) (pa_cons (pe_op op_sub (pe_op op_mulW (pe_ix ix_tup (pv 0) pe_int (fun _ _ => rfl)) (pe_ix ix_tup (pv 1) pe_int (fun _ _ => rfl))) (pe_op op_mulW (pe_ix ix_tup (pv 1) pe_int (fun _ _ => rfl)) (pe_ix ix_tup (pv 0) pe_int (fun _ _ => rfl)))) (pa_cons (pe_op op_mulW (pe_ix ix_tup (pv 0) pe_int (fun _ _ => rfl)) (pe_ix ix_tup (pv 1) pe_int (fun _ _ => rfl))) pa_nil))))), ?_⟩
    exact r_ret (te := tCall _ _ _ _) (c_call (va_cons (v_sub (v_mul (v_ixT (n := 0) (val_var rfl) val_c (SqT.of hp) rfl) (v_ixT (n := 1) (val_var rfl) val_c (SqT.of hq) rfl) (fit_mul fi fl)) (v_mul (v_ixT (n := 0) (val_var rfl) val_c (SqT.of hq) rfl) (v_ixT (n := 1) (val_var rfl) val_c (SqT.of hp) rfl) (fit_mul fk fj))) (va_cons (v_mul (v_ixT (n := 1) (val_var rfl) val_c (SqT.of hp) rfl) (v_ixT (n := 1) (val_var rfl) val_c (SqT.of hq) rfl) (fit_mul fj fl)) va_nil)) ⟨_, _, rfl, fit_sub (wide_lt fi fl) (wide_lt fk fj), fit_lt fj fl, .inl ⟨Int.mul_pos j0 l0, z⟩⟩)

/-! ### lowest terms, the sums behind them -/
theorem gI_mul (x y : Int) {s : Int} (hs : 0 < s) : gI (x * s) (y * s) = gI x y * s := by
  unfold gI
  rw [Int.natAbs_mul, Int.natAbs_mul, Nat.gcd_mul_right, Int.natCast_mul]
  congr 1
  omega
theorem low_mul (x y : Int) {s : Int} (hs : 0 < s) : x * s / gI (x * s) (y * s) = x / gI x y ∧ y * s / gI (x * s) (y * s) = y / gI x y := by
  rw [gI_mul _ _ hs]
  exact ⟨Int.mul_ediv_mul_of_pos_left _ _ hs, Int.mul_ediv_mul_of_pos_left _ _ hs⟩
theorem gI_dvd (x y : Int) : gI x y ∣ x ∧ gI x y ∣ y := ⟨Int.ofNat_dvd_left.mpr (Nat.gcd_dvd_left _ _), Int.ofNat_dvd_left.mpr (Nat.gcd_dvd_right _ _)⟩
theorem low_one (x : Int) {y : Int} (hy : 0 < y) : gI (x / gI x y) (y / gI x y) = 1 := by
  have g : 0 < Nat.gcd x.natAbs y.natAbs := Nat.gcd_pos_of_pos_right _ (by omega)
  have e : (gI x y).natAbs = Nat.gcd x.natAbs y.natAbs := by unfold gI; exact Int.natAbs_natCast _
  have h := Nat.gcd_div (Nat.gcd_dvd_left x.natAbs y.natAbs) (Nat.gcd_dvd_right x.natAbs y.natAbs)
  rw [Nat.div_self g] at h
  have e1 := Int.natAbs_ediv_of_dvd (gI_dvd x y).1
  have e2 := Int.natAbs_ediv_of_dvd (gI_dvd x y).2
  show ((Nat.gcd (x / gI x y).natAbs (y / gI x y).natAbs : Nat) : Int) = 1
  rw [e1, e2, e, h]
  rfl
theorem low_abs (x : Int) {y : Int} : (x / gI x y).natAbs ≤ x.natAbs := by
  rw [Int.natAbs_ediv_of_dvd (gI_dvd x y).1]
  exact Nat.div_le_self _ _
theorem low_pos (x : Int) {y : Int} (hy : 0 < y) : 0 < y / gI x y ∧ y / gI x y ≤ y := by
  have g := gI_pos (i := x) hy
  refine ⟨Int.ediv_pos_of_pos_of_dvd hy (Int.le_of_lt g) (gI_dvd x y).2, Int.ediv_le_self _ (Int.le_of_lt hy)⟩
theorem call_1 {sp : Sp} {L : List V} {E : XK} {te : TE} {tr : TA} {σ : L2.St} {H : Hp} {Q : VK} (h : te σ H fun v H1 => tr σ H1 fun vs H2 => sp ((v :: vs) ++ L) H2 Q E) : tCall sp L E (tCons te tr) σ H Q := h
theorem va_1 {te : TE} {σ : L2.St} {H : Hp} {Q : List V → Hp → Prop} (h : te σ H fun v H1 => Q [v] H1) : tCons te tNil σ H Q := h
/-- a ratio in lowest terms of up to eighteen figures -/
def Low (H : Hp) (t : Addr) (a b : Int) : Prop := H t = some (.tup [.int a, .int b]) ∧ 0 < b ∧ gI a b = 1 ∧ a.natAbs ≤ 10 ^ 18 ∧ b ≤ 10 ^ 18

theorem q_ifAndK {σ : L2.St} {H : Hp} {t u : TT} {t1 tz : TS} {D : Ends} {I : Hp → Prop} (rest : ∀ H1, I H1 → tz D σ H1) (h : (∀ H1, I H1 → tz D σ H1) → t σ H fun c H1 => if c = true then u σ H1 (fun b H2 => if b = true then t1 { D with nx := tz D } σ H2 else tz D σ H2) else
    (if false = true then t1 { D with nx := tz D } σ H1 else tz D σ H1)) : tSeq (tIfS (tAnd t u) t1 tNext) tz D σ H := h rest
theorem l_two {σ : L2.St} {H : Hp} {t1 t2 : TE} {Q : VK} (h : t1 σ H fun v H1 => t2 σ H1 fun w H2 => 2 ≤ sizeLine ∧ ∀ q, H2 q = none → Q (.ref q) (upd H2 q (.lst [v, w]))) : tLst (tCons t1 (tCons t2 tNil)) σ H Q := h
/-- as a caller may pass a ratio a / b -/
def spPassed : Sp := fun vs H Q _ => ∃ (p c t : Addr) (m : Nat) (a b : Int), vs = [.ref p, .ref t] ∧ PenAt H p c m ∧ m + 3 < most ∧ Low H t a b ∧ ∀ (v : V) (H' : Hp) (s : Int), 0 < s → s ≤ 3 → Rt H' v (a * s) (b * s) → (∀ x, v = .ref x → H x = none) → But p H H' → PenAt H' p c (m + 3) → Q v H'
theorem ok_passed (T : Txt K mg) : FnOk P w K mg base CX0 4 (fA mg "_law_passed") (fDat K (fA mg "_law_passed")) ["_law_pen_here", "_law_ratio_here"] spPassed := by
  have G_law_draw := ok_draw (P := P) (w := w) (base := base) T._law_draw.F T
  have G_law_pick := ok_pick (P := P) (w := w) (base := base) T
  refine T._law_passed.F.ok sc_law_passed (fun vs H Q E h => ?_) (fun cdv A outer s H vs Q E hr h => ?_)
  · obtain ⟨p, c, t, m, a, b, rfl, _⟩ := h
    rfl
  · obtain ⟨p, c, t, m, a, b, rfl, hP, hm, ⟨ht, b0, ab, al, bl⟩, k⟩ := h
    refine ⟨_, (pss_cons (ps_if (PW.pt (pw_and (pt_cmpR op_eq (pe_ix ix_tup (pv 1) pe_int (fun _ _ => rfl)) pe_int (nomark _)) (pw_and1 (pt_cmpR op_eq (pe_c T._law_draw G_law_draw (hr.mono (by decide)) (pa_cons (pv 0) (pa_cons pe_int pa_nil))) pe_int (nomark _))))) (pss_one (ps_ret (pe_ix ix_tup (pv 1) pe_int (fun _ _ => rfl)))) pss_nil)
  (pss_cons (ps_set (i := 2) sc_law_passed.nd rfl (Or.inl rfl) (pe_c T._law_pick G_law_pick (hr.mono (by decide)) (pa_cons (pv 0) (pa_cons (pe_lst (pa_cons pe_int (pa_cons pe_int (pa_cons pe_int (pa_cons pe_int pa_nil))))) pa_nil))))
  (pss_one (ps_ret (pe_c T._law_pick G_law_pick (hr.mono (by decide)) (pa_cons (pv 0) (pa_cons (pe_lst (pa_cons (pe_tup (pa_cons (pe_op op_mulW (pe_ix ix_tup (pv 1) pe_int (fun _ _ => rfl)) (pv 2)) (pa_cons (pe_op op_mulW (pe_ix ix_tup (pv 1) pe_int (fun _ _ => rfl)) (pv 2)) pa_nil))) (pa_cons (pe_lst (pa_cons (pe_op op_mulW (pe_ix ix_tup (pv 1) pe_int (fun _ _ => rfl)) (pv 2)) (pa_cons (pe_op op_mulW (pe_ix ix_tup (pv 1) pe_int (fun _ _ => rfl)) (pv 2)) pa_nil))) pa_nil))) pa_nil))))))), ?_⟩
    obtain ⟨kvs, hd⟩ := hP.dk
    have np : t ≠ p := ne_of ht hd (by intro z; cases z)
    have c1 : (2 : Nat) ^ 64 < 2 ^ 1000 := Nat.pow_lt_pow_right (by decide) (by decide)
    have fa : a.natAbs < 2 ^ 1000 := by
      have : (10 : Nat) ^ 18 < 2 ^ 64 := by decide
      omega
    have fb : b.natAbs < 2 ^ 1000 := by
      have : (10 : Nat) ^ 18 < 2 ^ 64 := by decide
      omega
    refine q_ifAndK (I := fun H1 => But p H H1 ∧ PenAt H1 p c (m + 1)) (fun H1 ⟨b1, P1⟩ => ?_) (fun rest => ?_)
    · have ht1 := b1 _ _ ht np
      refine q_asg (call_1 ((val_var rfl) _ (va_1 (l_lst (va_cons val_c (va_cons val_c (va_cons val_c (va_cons val_c va_nil)))) (by decide) fun q hq => ?_))))
      refine ⟨p, c, q, _, m + 1, rfl, P1.same (Same.new hq), by omega, SqL.of upd_same, by decide, by decide, fun v H2 hv b2 P2 => ?_⟩
      obtain ⟨s, rfl, s0, s1⟩ : ∃ s : Int, v = .int s ∧ 0 < s ∧ s ≤ 3 := by
        simp at hv
        rcases hv with e | e | e
        · exact ⟨1, e, by decide, by decide⟩
        · exact ⟨2, e, by decide, by decide⟩
        · exact ⟨3, e, by decide, by decide⟩
      have ht2 := b2 _ _ ((Same.new hq) _ _ ht1) np
      have fs : s.natAbs < 2 ^ 1000 := by omega
      refine r_ret (te := tCall _ _ _ _) (call_1 ((val_var rfl) _ (va_1 ?_)))
      have two : ∀ {σ : L2.St}, σ[1]? = some (some (.ref t)) → σ[2]? = some (some (.int s)) → ∀ {H3 : Hp}, H3 t = some (.tup [.int a, .int b]) → VA (tCons (tOp (rI CMulW fun i j => V.int (i * j)) (tOp (rIxT K) (tVar 1) (tC (V.int 0))) (tVar 2)) (tCons (tOp (rI CMulW fun i j => V.int (i * j)) (tOp (rIxT K) (tVar 1) (tC (V.int 1))) (tVar 2)) tNil)) σ H3 [.int (a * s), .int (b * s)] := fun e1 e2 H3 h =>
        va_cons (v_mul (v_ixT (n := 0) (val_var e1) val_c (SqT.of h) rfl) (val_var e2) (fit_mul fa fs)) (va_cons (v_mul (v_ixT (n := 1) (val_var e1) val_c (SqT.of h) rfl) (val_var e2) (fit_mul fb fs)) va_nil)
      refine l_two (l_tup (two rfl rfl ht2) (by show 2 ≤ 100000; decide) fun x hx => l_lst (two rfl rfl ((Same.new' hx) _ _ ht2)) (by show 2 ≤ 100000; decide) fun y hy => ⟨by show 2 ≤ sizeLine; decide, fun q2 hq2 => ?_⟩)
      have S := ((Same.new' (o := .tup [.int (a * s), .int (b * s)]) hx).trans (Same.new' (o := .lst [.int (a * s), .int (b * s)]) hy)).trans (Same.new' (o := .lst [.ref x, .ref y]) hq2)
      obtain ⟨kv2, hd2⟩ := P2.dk
      have px : x ≠ p := fun z => by rw [z, hd2] at hx; cases hx
      have py : y ≠ p := fun z => by
        have := (Same.new' (o := .tup [.int (a * s), .int (b * s)]) hx) _ _ hd2
        rw [z, this] at hy
        cases hy
      have ex := (Same.new' (o := .lst [.ref x, .ref y]) hq2) _ _ ((Same.new' (o := .lst [.int (a * s), .int (b * s)]) hy) _ _ (upd_same (H := H2) (a := x) (o := .tup [.int (a * s), .int (b * s)])))
      have ey := (Same.new' (o := .lst [.ref x, .ref y]) hq2) _ _ (upd_same (a := y) (o := .lst [.int (a * s), .int (b * s)]))
      refine ⟨p, c, q2, _, m + 2, rfl, P2.same S, by omega, SqL.of upd_same, by show 0 < 2; decide, by show 2 < 1000000000; decide, fun v H3 hv b3 P3 => ?_⟩
      have B := (((b1.trans (But.of (Same.new hq))).trans b2).trans (But.of S)).trans b3
      have bs : 0 < b * s := Int.mul_pos b0 s0
      have fx : ∀ z, z ≠ p → H2 z = none → H z = none := fun z nz hz => by
        cases h : H z with
        | none => rfl
        | some o =>
          rw [((b1.trans (But.of (Same.new hq))).trans b2) _ _ h nz] at hz
          cases hz
      have hy0 : H2 y = none := by
        cases h : H2 y with
        | none => rfl
        | some o =>
          rw [(Same.new' (o := .tup [.int (a * s), .int (b * s)]) hx) _ _ h] at hy
          cases hy
      rcases List.mem_cons.mp hv with e | hv
      · rw [e]
        exact k _ _ s s0 s1 (.pair (.inr (b3 _ _ ex px)) bs) (fun z ez => by cases ez; exact fx x px hx) B P3
      · rcases List.mem_cons.mp hv with e | hv
        · rw [e]
          exact k _ _ s s0 s1 (.pair (.inl (b3 _ _ ey py)) bs) (fun z ez => by cases ez; exact fx y py hy0) B P3
        · cases hv
    · by_cases e1 : b = 1
      · refine (ans_eq (x := .int b) (y := .int 1) (v_ixT (n := 1) (val_var rfl) val_c (SqT.of ht) rfl) val_c rfl (decide_eq_true (by rw [e1]))) _ ?_
        refine iteT ?_
        refine c_call (va_cons (val_var rfl) (va_cons val_c va_nil)) ⟨p, c, 2, m, rfl, hP, by omega, by decide, by decide, fun r H1 r0 r1 b1 P1 => ?_⟩
        refine ⟨rfl, _, rfl, ?_⟩
        refine ite2 (fun _ => ?_) (fun _ => rest _ ⟨b1, P1⟩)
        refine st_ret (v_ixT (n := 0) (val_var rfl) val_c (SqT.of (b1 _ _ ht np)) rfl) (k _ _ 1 (by decide) (by decide) ?_ (fun _ z => nomatch z) b1 (P1.le (by omega)))
        rw [e1, Int.mul_one, Int.mul_one]
        exact .int a
      · refine (ans_eq (x := .int b) (y := .int 1) (v_ixT (n := 1) (val_var rfl) val_c (SqT.of ht) rfl) val_c rfl (decide_eq_false (by simp [e1]))) _ ?_
        refine iteF (iteF (rest _ ⟨But.refl, hP.le (by omega)⟩))

/-! ### values that are no ratios -/
def aK : Key := Sum.inr ("a" : Str)
def Fine (K : PySem.W.Frag) (H : Hp) (v : V) (d : PyData) : Prop := Dd K H v d ∧ d.showable = true ∧ d.depth ≤ 3 ∧ d.shown.length ≤ 1000 ∧ PyData.strOk d.shown = true
inductive Odd (H : Hp) : V → Prop
  | non : Odd H .non
  | bl : Odd H (.bl true)
  | str : Odd H (.str "1")
  | tup {q : Addr} {xs : List V} (e : H q = some (.tup xs)) (h : xs = [.int 1, .int 0] ∨ xs = [.int 1, .int (-2)] ∨ xs = [.int 1, .bl true] ∨ xs = [.int 1, .int 2, .int 3] ∨ xs = [.str "1", .int 2] ∨ xs = [.non, .int 1] ∨ xs = [.bl true, .int 2] ∨ xs = []) : Odd H (.ref q)
  | lst {q : Addr} {xs : List V} (e : H q = some (.lst xs)) (h : xs = [.int 1] ∨ xs = [.int 2, .bl false]) : Odd H (.ref q)
  | dic {q : Addr} (e : H q = some (.dK [(aK, .int 1)])) : Odd H (.ref q)
  | nest {q r : Addr} (e : H q = some (.tup [.ref r, .int 3])) (e2 : H r = some (.tup [.int 1, .int 2])) : Odd H (.ref q)
theorem Odd.same {H H' : Hp} {v : V} (g : Odd H v) (s : Same H H') : Odd H' v := by
  cases g with
  | non => exact .non
  | bl => exact .bl
  | str => exact .str
  | tup e h => exact .tup (s _ _ e) h
  | lst e h => exact .lst (s _ _ e) h
  | dic e => exact .dic (s _ _ e)
  | nest e e2 => exact .nest (s _ _ e) (s _ _ e2)
theorem Odd.but {H H' : Hp} {v : V} {p c : Addr} {m : Nat} (g : Odd H v) (P : PenAt H p c m) (b : But p H H') : Odd H' v := by
  obtain ⟨a, d, n, f, ns, hp, _⟩ := P
  have k : ∀ {q : Addr} {o : HO}, H q = some o → (∀ kvs, o = .dK kvs → kvs.length < 5) → H' q = some o := fun {q o} e h => b q o e (fun z => by
    rw [z, hp] at e
    have := h _ (Option.some.inj e).symm
    exact absurd this (by show ¬ 5 < 5; decide))
  cases g with
  | non => exact .non
  | bl => exact .bl
  | str => exact .str
  | tup e h => exact .tup (k e (fun _ z => by cases z)) h
  | lst e h => exact .lst (k e (fun _ z => by cases z)) h
  | dic e => exact .dic (k e (fun _ z => by cases z; show 1 < 5; decide))
  | nest e e2 => exact .nest (k e (fun _ z => by cases z)) (k e2 (fun _ z => by cases z))
theorem Odd.rat {H : Hp} {v : V} (g : Odd H v) : RatQ H v false := by
  cases g with
  | non => exact .odd .non (by simp)
  | bl => exact .odd (.bl _) (by simp)
  | str => exact .odd (.str _) (by simp)
  | tup e h =>
    rcases h with rfl | rfl | rfl | rfl | rfl | rfl | rfl | rfl
    · exact .pair (j := 0) (.inr e)
    · exact .pair (j := -2) (.inr e)
    · exact .snd (.inr e) (.bl _) (by decide)
    · exact .len (.inr e) (by decide)
    · exact .fst (.inr e) (.str _) (by decide)
    · exact .fst (.inr e) .non (by decide)
    · exact .fst (.inr e) (.bl _) (by decide)
    · exact .len (.inr e) (by decide)
  | lst e h =>
    rcases h with rfl | rfl
    · exact .len (.inl e) (by decide)
    · exact .snd (.inl e) (.bl _) (by decide)
  | dic e => exact .odd (.dic e) (by simp)
  | nest e e2 => exact .fst (.inr e) (.tup e2) (by decide)
theorem Odd.fine {H : Hp} {v : V} (g : Odd H v) : ∃ d, Fine K H v d := by
  have kk : ∀ {d : PyData}, Dd K H v d → d.showable = true ∧ d.depth ≤ 3 ∧ d.shown.length ≤ 1000 ∧ PyData.strOk d.shown = true → ∃ d, Fine K H v d := fun a b => ⟨_, a, b⟩
  cases g with
  | non => exact kk .non (by decide +kernel)
  | bl => exact kk (.bl _) (by decide +kernel)
  | str => exact kk (.str _) (by decide +kernel)
  | tup e h =>
    rcases h with rfl | rfl | rfl | rfl | rfl | rfl | rfl | rfl
    · exact kk (.tup (SqT.of e) (.cons (.int _) (.cons (.int _) .nil))) (by decide +kernel)
    · exact kk (.tup (SqT.of e) (.cons (.int _) (.cons (.int _) .nil))) (by decide +kernel)
    · exact kk (.tup (SqT.of e) (.cons (.int _) (.cons (.bl _) .nil))) (by decide +kernel)
    · exact kk (.tup (SqT.of e) (.cons (.int _) (.cons (.int _) (.cons (.int _) .nil)))) (by decide +kernel)
    · exact kk (.tup (SqT.of e) (.cons (.str _) (.cons (.int _) .nil))) (by decide +kernel)
    · exact kk (.tup (SqT.of e) (.cons .non (.cons (.int _) .nil))) (by decide +kernel)
    · exact kk (.tup (SqT.of e) (.cons (.bl _) (.cons (.int _) .nil))) (by decide +kernel)
    · exact kk (.tup (SqT.of e) .nil) (by decide +kernel)
  | lst e h =>
    rcases h with rfl | rfl
    · exact kk (.lst (SqL.of e) (.cons (.int _) .nil)) (by decide +kernel)
    · exact kk (.lst (SqL.of e) (.cons (.int _) (.cons (.bl _) .nil))) (by decide +kernel)
  | dic e => exact kk (.dic e (.cons (.int _) .nil)) (by decide +kernel)
  | nest e e2 => exact kk (.tup (SqT.of e) (.cons (.tup (SqT.of e2) (.cons (.int _) (.cons (.int _) .nil))) (.cons (.int _) .nil))) (by decide +kernel)
/-- .. and made behind H0 -/
def OdF (H0 : Hp) (v : V) (H : Hp) : Prop := Odd H v ∧ ∀ x, v = .ref x → H0 x = none
theorem OdF.same {H0 H H' : Hp} {v : V} (g : OdF H0 v H) (s : Same H H') : OdF H0 v H' := ⟨g.1.same s, g.2⟩
def Odds (H0 : Hp) (n : Nat) (vs : List V) (H : Hp) : Prop := (∀ v ∈ vs, OdF H0 v H) ∧ vs.length = n
theorem Odds.stays {H0 : Hp} {n : Nat} : Stays (Odds H0 n) := fun vs H1 H2 s h => ⟨fun v hv => (h.1 v hv).same s, h.2⟩
theorem om_nil {σ : L2.St} {H0 H : Hp} : VM tNil σ H (Odds H0 0) := fun Q q => q [] H (Same.refl H) ⟨(fun _ h => nomatch h), rfl⟩
theorem om_cons {σ : L2.St} {H0 H : Hp} {te : TE} {tr : TA} {n : Nat} (s0 : Same H0 H) (h : EM te σ H (OdF H0)) (hr : ∀ H1, Same H0 H1 → VM tr σ H1 (Odds H0 n)) : VM (tCons te tr) σ H (Odds H0 (n + 1)) := fun Q q =>
  h _ fun v H1 s1 p1 => hr H1 (s0.trans s1) _ fun r H2 s2 ⟨r2, e2⟩ => q (v :: r) H2 (s1.trans s2) ⟨fun x hx => by
    rcases List.mem_cons.mp hx with e | e
    · rw [e]; exact p1.same s2
    · exact r2 x e, by rw [List.length_cons, e2]⟩
theorem none_of {H0 H : Hp} {a : Addr} (s : Same H0 H) (h : H a = none) : H0 a = none := by
  cases e : H0 a with
  | none => rfl
  | some o => rw [s _ _ e] at h; cases h
theorem em_tupF {σ : L2.St} {H : Hp} {tb : TA} {ws : List V} {P : V → Hp → Prop} (h : VA tb σ H ws) (hl : ws.length ≤ 100000) (q : ∀ a H', H a = none → H' a = some (.tup ws) → P (.ref a) H') : EM (tTup tb) σ H P := fun Q k => l_tup h hl fun a ha => k _ _ (Same.new' ha) (q a _ ha upd_same)
theorem em_lstF {σ : L2.St} {H : Hp} {tb : TA} {ws : List V} {P : V → Hp → Prop} (h : VA tb σ H ws) (hl : ws.length ≤ 100000) (q : ∀ a H', H a = none → H' a = some (.lst ws) → P (.ref a) H') : EM (tLst tb) σ H P := fun Q k => l_lst h hl fun a ha => k _ _ (Same.new' ha) (q a _ ha upd_same)
theorem em_dicF {σ : L2.St} {H : Hp} {te : TE} {v : V} {key : Key} {P : V → Hp → Prop} (h : ∀ H1, Val te σ H1 v) (q : ∀ a H', H a = none → H' a = some (.dK [(key, v)]) → P (.ref a) H') : EM (tDisp [(tC (kV key), te)]) σ H P := fun Q k a ha =>
  h _ _ ⟨upd_same, [(key, v)], rfl, by show 1 ≤ 15; decide, k _ _ (by
    have e : mergeK [] [(key, v)] = [(key, v)] := rfl
    rw [e, upd_upd]
    exact Same.new' ha) (q a _ ha upd_same)⟩
theorem fr_ref {H0 : Hp} {a : Addr} (h : H0 a = none) : ∀ x, V.ref a = .ref x → H0 x = none := fun x e => by cases e; exact h
theorem tup_two {σ : L2.St} {H : Hp} {t1 t2 : TE} {Q : VK} (h : t1 σ H fun v H1 => t2 σ H1 fun w H2 => 2 ≤ sizeLine ∧ ∀ q, H2 q = none → Q (.ref q) (upd H2 q (.tup [v, w]))) : tTup (tCons t1 (tCons t2 tNil)) σ H Q := h
theorem nest {σ : L2.St} {H0 H : Hp} (s : Same H0 H) : EM (tTup (tCons (tTup (tCons (tC (.int 1)) (tCons (tC (.int 2)) tNil))) (tCons (tC (.int 3)) tNil))) σ H (OdF H0) := fun Q q => tup_two (l_tup (va_cons val_c (va_cons val_c va_nil)) (by decide) fun a ha => val_c _ ⟨by show 2 ≤ sizeLine; decide, fun b hb => q _ _ ((Same.new' ha).trans (Same.new' hb)) ⟨.nest upd_same ((Same.new' hb) _ _ upd_same), fr_ref (none_of (s.trans (Same.new' ha)) hb)⟩⟩)
theorem om_val {σ : L2.St} {H0 H : Hp} {te : TE} {v : V} (h : Val te σ H v) (g : Odd H v) (n : ∀ x, v ≠ .ref x) : EM te σ H (OdF H0) := fun Q q => h _ (q v H (Same.refl H) ⟨g, fun x e => (n x e).elim⟩)
def spAny : Sp := fun vs H Q _ => ∃ (p c : Addr) (m : Nat), vs = [.ref p] ∧ PenAt H p c m ∧ m + 1 < most ∧ ∀ (v : V) (H' : Hp), Odd H' v → (∀ x, v = .ref x → H x = none) → But p H H' → PenAt H' p c (m + 1) → Q v H'
theorem ok_any (T : Txt K mg) : FnOk P w K mg base CX0 4 (fA mg "_law_any") (fDat K (fA mg "_law_any")) ["_law_pen_here"] spAny := by
  have G_law_pick := ok_pick (P := P) (w := w) (base := base) T
  refine T._law_any.F.ok sc_law_any (fun vs H Q E h => ?_) (fun cdv A outer s H vs Q E hr h => ?_)
  · obtain ⟨p, c, m, rfl, _⟩ := h
    rfl
  · obtain ⟨p, c, m, rfl, hP, hm, k⟩ := h
    refine ⟨_, (pss_cons (ps_set (i := 1) sc_law_any.nd rfl (Or.inl rfl) (pe_lst (pa_cons pe_non (pa_cons pe_bl (pa_cons pe_str (pa_cons (pe_tup (pa_cons pe_int (pa_cons pe_int pa_nil))) (pa_cons (pe_tup (pa_cons pe_int (pa_cons (pe_un un_neg pe_int) pa_nil))) (pa_cons (pe_tup (pa_cons pe_int (pa_cons pe_bl pa_nil))) (pa_cons (pe_lst (pa_cons pe_int pa_nil)) (pa_cons (pe_tup (pa_cons pe_int (pa_cons pe_int (pa_cons pe_int pa_nil)))) (pa_cons (pe_disp (pps_cons pe_str pe_int pps_nil) (by rfl) (by rfl) (fun z => by cases z) (by decide)) (pa_cons (pe_tup (pa_cons pe_str (pa_cons pe_int pa_nil))) (pa_cons (pe_tup (pa_cons pe_non (pa_cons pe_int pa_nil))) (pa_cons (pe_tup (pa_cons pe_bl (pa_cons pe_int pa_nil))) pa_nil))))))))))))))
  (pss_one (ps_ret (pe_c T._law_pick G_law_pick (hr.mono (by decide)) (pa_cons (pv 0) (pa_cons (pe_op op_cat (pv 1) (pe_lst (pa_cons (pe_lst (pa_cons pe_int (pa_cons pe_bl pa_nil))) (pa_cons (pe_tup (pa_cons (pe_tup (pa_cons pe_int (pa_cons pe_int pa_nil))) (pa_cons pe_int pa_nil))) (pa_cons (pe_tup pa_nil) pa_nil))))) pa_nil)))))), ?_⟩
    have ot : ∀ {tb : TA} {σ : L2.St} {H1 : Hp} {xs : List V}, Same H H1 → VA tb σ H1 xs → (xs = [.int 1, .int 0] ∨ xs = [.int 1, .int (-2)] ∨ xs = [.int 1, .bl true] ∨ xs = [.int 1, .int 2, .int 3] ∨ xs = [.str "1", .int 2] ∨ xs = [.non, .int 1] ∨ xs = [.bl true, .int 2] ∨ xs = []) → EM (tTup tb) σ H1 (OdF H) := fun s h o =>
      em_tupF h (by rcases o with rfl | rfl | rfl | rfl | rfl | rfl | rfl | rfl <;> decide) fun a H' n e => ⟨.tup e o, fr_ref (none_of s n)⟩
    have ol : ∀ {tb : TA} {σ : L2.St} {H1 : Hp} {xs : List V}, Same H H1 → VA tb σ H1 xs → (xs = [.int 1] ∨ xs = [.int 2, .bl false]) → EM (tLst tb) σ H1 (OdF H) := fun s h o =>
      em_lstF h (by rcases o with rfl | rfl <;> decide) fun a H' n e => ⟨.lst e o, fr_ref (none_of s n)⟩
    refine q_lstM (Odds.stays (H0 := H) (n := 12)) (om_cons (Same.refl _) (om_val val_c .non (fun _ z => nomatch z)) fun _ s => om_cons s (om_val val_c .bl (fun _ z => nomatch z)) fun _ s => om_cons s (om_val val_c .str (fun _ z => nomatch z)) fun _ s => om_cons s (ot s (va_cons val_c (va_cons val_c va_nil)) (by simp)) fun _ s =>
      om_cons s (ot s (va_cons val_c (va_cons (v_neg val_c) va_nil)) (by simp)) fun _ s => om_cons s (ot s (va_cons val_c (va_cons val_c va_nil)) (by simp)) fun _ s => om_cons s (ol s (va_cons val_c va_nil) (by simp)) fun _ s => om_cons s (ot s (va_cons val_c (va_cons val_c (va_cons val_c va_nil))) (by simp)) fun _ s =>
      om_cons s (em_dicF (key := aK) (v := .int 1) (fun _ => val_c) fun a H' n e => ⟨.dic e, fr_ref (none_of s n)⟩) fun _ s => om_cons s (ot s (va_cons val_c (va_cons val_c va_nil)) (by simp)) fun _ s => om_cons s (ot s (va_cons val_c (va_cons val_c va_nil)) (by simp)) fun _ s => om_cons s (ot s (va_cons val_c (va_cons val_c va_nil)) (by simp)) fun _ _ => om_nil) (fun vs H' r => by rw [r.2]; decide) fun q1 xs H1 s1 e1 r1 => ?_
    refine r_ret (te := tCall _ _ _ _) (call_1 ((val_var rfl) _ (va_1 ?_)))
    refine l_catM (Odds.stays (H0 := H) (n := 3)) (val_var rfl) e1 (by rw [r1.2]; decide) (om_cons s1 (ol s1 (va_cons val_c (va_cons val_c va_nil)) (by simp)) fun _ s => om_cons s (nest s) fun _ s => om_cons s (ot s va_nil (by simp)) fun _ _ => om_nil) (fun vs H' r => by rw [r.2]; decide) fun q2 ys H2 s2 e2 r2 => ?_
    have len : (xs ++ ys).length = 15 := by rw [List.length_append, r1.2, r2.2]
    have of : ∀ v ∈ xs ++ ys, OdF H v H2 := fun v hv => by
      rcases List.mem_append.mp hv with h | h
      · exact (r1.1 v h).same s2
      · exact r2.1 v h
    exact ⟨p, c, q2, xs ++ ys, m, rfl, (hP.same s1).same s2, by omega, SqL.of e2, by omega, by omega, fun v H3 hv b3 P3 => k v H3 ((of v hv).1.but ((hP.same s1).same s2) b3) (of v hv).2 ((But.of (s1.trans s2)).trans b3) P3⟩

/-! ### the error of a call -/
theorem ExcC.xf {K : PySem.W.Frag} {C : Addr} (e : ExcC K C) : XfC K C := ⟨e.1, e.2, e.3, e.4⟩
/-- data that repr shows, of some length -/
def FineL (K : PySem.W.Frag) (H : Hp) (v : V) (d : PyData) : Prop := Dd K H v d ∧ d.showable = true ∧ d.depth ≤ 40 ∧ d.shown.length ≤ 100000 ∧ PyData.strOk d.shown = true
/-- what _law_why makes of a call: None, or the fields of a BadNumber or of a BadRow -/
def TTwhy (K : PySem.W.Frag) (mg : Str → Option Value) : (XK → Hp → VK → Prop) → Hp → VK → Prop := fun tl H Q =>
  tl (fun cls d H' => (cls = .ref (fA mg "BadNumber") ∧ ∃ (dd : Addr) (v wh : V) (t : PyData), d = some dd ∧ H' dd = some (.xd [("number", v), ("what", wh)]) ∧ Fine K H' v t ∧ ∀ (p : Addr) (H2 : Hp), Same H' H2 → H2 p = some (.tup [.str "number", wh, .str t.shown]) → Q (.ref p) H2) ∨
    (cls = .ref (fA mg "BadRow") ∧ ∃ (dd : Addr) (v : V) (t : PyData), d = some dd ∧ H' dd = some (.xd [("row", v)]) ∧ FineL K H' v t ∧ ∀ (p : Addr) (H2 : Hp), Same H' H2 → H2 p = some (.tup [.str "row", .str t.shown]) → Q (.ref p) H2))
    H (fun _ H' => Q .non H')
theorem st_ret' {te : TE} {D : Ends} {σ : L2.St} {H : Hp} (h : te σ H D.rt) : tRet te D σ H := h
theorem why_gives {X : Cx} (T : Txt X.K X.mg) (hq : Quiet X.A) {q : Str} {cdg : Value} (hr : ∀ e, Room 1 (X.A.deeper e)) : LamX.GivesTo X ["_law_call", "e"] "_law_why" (defScope s_law_why) (fA X.mg "_law_why") cdg (defBody s_law_why) "_law_call" q (TTwhy X.K X.mg) := by
  intro f c' s H Q tl act hc h
  have xT := ExcC.xf T.BadText.e
  have xN := ExcC.xf T.BadNumber.e
  have xR := ExcC.xf T.BadRow.e
  refine ⟨_, pss_cons (TM.ps_try_names (X := (cxOf C8.CX0 X.prog X.w X.K X.mg X.base ["_law_call", "e"] "_law_why" (defScope s_law_why) (fA X.mg "_law_why") cdg X.A X.stack s H C8.E0).nox) (tb := fun W D σ H => ∃ Ech : XK, (∀ cls d σ' H', Ech cls d H' → W cls d σ' H') ∧ σ[0]? = some (some (.ref f)) ∧ H c' = some (LamX.CodeO c' q) ∧ tl Ech H (fun _ H' => D.nx σ H'))
      rfl rfl sc_law_why.nd LamX.takes0 (fun W pn xe tk _ => ?_)
      (.cons (i := 1) rfl rfl ⟨by rfl, by decide, .inl T.BadText.g⟩ (fun a oe cls d pn hz hf => pss_one (ps_ret (pe_tup (pa_cons pe_str (pa_cons (pe_xf xT (T.BadText.n _ (by simp)) hz hf (pv 1)) pa_nil)))))
      (.cons (i := 1) rfl rfl ⟨by rfl, by decide, .inl T.BadNumber.g⟩ (fun a oe cls d pn hz hf => pss_one (ps_ret (pe_tup (pa_cons pe_str (pa_cons (pe_xf xN (T.BadNumber.n _ (by simp)) hz hf (pv 1)) (pa_cons (pe_callB (id := "repr") (show CallR _ _ (rShow X.K) from call_show ?_ ?_) (by rfl) T.repr (by decide +kernel) (pa_cons (pe_xf xN (T.BadNumber.n _ (by simp)) hz hf (pv 1)) pa_nil)) pa_nil))))))
      (.cons (i := 1) rfl rfl ⟨by rfl, by decide, .inl T.BadRow.g⟩ (fun a oe cls d pn hz hf => pss_one (ps_ret (pe_tup (pa_cons pe_str (pa_cons (pe_callB (id := "repr") (show CallR _ _ (rShow X.K) from call_show ?_ ?_) (by rfl) T.repr (by decide +kernel) (pa_cons (pe_xf xR (T.BadRow.n _ (by simp)) hz hf (pv 1)) pa_nil)) pa_nil))))) .nil))))
      (pss_one (ps_ret pe_non)), ?_⟩
  case refine_1 =>
    refine ⟨fun pins s' σ H' D I h' => ?_⟩
    obtain ⟨Ech, hW, h1, h2, h3⟩ := h'
    exact (pss_one (ps_expr (act W pn xe Ech _ _ tk hW))).run pins s' σ H' D I ⟨h1, h2, h3⟩
  case refine_6 =>
    refine ⟨_, fun cls d σ' H' e => ?_, rfl, hc, h⟩
    rcases e with e | e
    case inr =>
      obtain ⟨rfl, dd, v, t, rfl, hx, hF, k⟩ := e
      intro hl
      refine ⟨false, T.xBadRowBadText, And.intro (fun z => (Bool.false_ne_true z).elim) (fun _ => ?_)⟩
      refine ⟨false, T.xBadRowBadNumber, And.intro (fun z => (Bool.false_ne_true z).elim) (fun _ => ?_)⟩
      refine ⟨true, T.xBadRowBadRow, And.intro (fun _ a ha => ?_) (fun z => (Bool.false_ne_true z.symm).elim)⟩
      have h1 : (σ'.set 1 (some (V.ref a)))[1]? = some (some (V.ref a)) := by
        rw [List.getElem?_set_self (by rw [hl]; show 1 < 2; decide)]
      have n1 : Val (tXf a (.ref (fA X.mg "BadRow")) (some dd) (fA X.mg "BadRow") "row" (tVar 1)) (σ'.set 1 (some (V.ref a))) H' v := fun Q q => (val_var h1) _ ⟨rfl, rfl, dd, _, _, rfl, hx, rfl, q⟩
      refine st_ret' (l_tup (va_cons val_c (va_cons (v_show n1 hF.1 hF.2.1 hF.2.2.1 hF.2.2.2.1) va_nil)) (by show 2 ≤ 100000; decide) fun p hp => k p _ (Same.new' hp) upd_same)
    obtain ⟨rfl, dd, v, wh, t, rfl, hx, hF, k⟩ := e
    intro hl
    refine ⟨false, T.xBadNumberBadText, And.intro (fun z => (Bool.false_ne_true z).elim) (fun _ => ?_)⟩
    refine ⟨true, T.xBadNumberBadNumber, And.intro (fun _ a ha => ?_) (fun z => (Bool.false_ne_true z.symm).elim)⟩
    have h1 : (σ'.set 1 (some (V.ref a)))[1]? = some (some (V.ref a)) := by
      rw [List.getElem?_set_self (by rw [hl]; show 1 < 2; decide)]
    have fd : ∀ {n : Str} {z : V}, ([("number", v), ("what", wh)] : List (Str × V)).lookup n = some z → Val (tXf a (.ref (fA X.mg "BadNumber")) (some dd) (fA X.mg "BadNumber") n (tVar 1)) (σ'.set 1 (some (V.ref a))) H' z := fun l Q q =>
      (val_var h1) _ ⟨rfl, rfl, dd, _, _, rfl, hx, l, q⟩
    have w1 := fd (n := "what") (z := wh) (by
      have ne : (("what" : Str) == ("number" : Str)) = false := by decide +kernel
      rw [List.lookup_cons, ne]
      rfl)
    have n1 := fd (n := "number") (z := v) rfl
    refine st_ret' (l_tup (va_cons val_c (va_cons w1 (va_cons (v_show n1 hF.1 hF.2.1 (Nat.le_trans hF.2.2.1 (by decide)) (Nat.le_trans hF.2.2.2.1 (by decide))) va_nil))) (by show 3 ≤ 100000; decide) fun p hp => k p _ (Same.new' hp) upd_same)
  all_goals first | exact hq | exact (hu64 (hr (envOfC "_law_why" (defScope s_law_why) s.heap.objs.size (fA X.mg "_law_why") cdg)) :)
end
end LW

namespace LW
open PySem PySem.Spec PyProof.Rows L2 GL
section
variable {P : Program} {w : World} {K : PySem.W.Frag} {mg : Str → Option Value} {base : Heap}
theorem pi_or {X : Cx} {tg iter : Expr} {w1 w2 : TI} (h1 : PI X tg iter w1) (h2 : PI X tg iter w2) : PI X tg iter (fun σ H R => w1 σ H R ∨ w2 σ H R) := ⟨fun pins s σ H R I h => h.elim (h1.run pins s σ H R I) (h2.run pins s σ H R I)⟩
/-- a list or a tuple -/
def Seq (K : PySem.W.Frag) (H : Hp) (a : Addr) (xs : List V) : Prop := SqL K H a xs ∨ SqT K H a xs
theorem Seq.same {K : PySem.W.Frag} {H H' : Hp} {a : Addr} {xs : List V} (h : Seq K H a xs) (s : Same H H') : Seq K H' a xs := h.elim (fun z => .inl (s.seq z)) fun z => .inr (sqt_same s z)
theorem Sq.seq {K : PySem.W.Frag} {H : Hp} {a : Addr} {xs : List V} (h : Sq H a xs) : Seq K H a xs := h.elim (fun z => .inl (SqL.of z)) fun z => .inr (SqT.of z)
/-- one turn of a comprehension: what is stored in its names, then its item -/
def Turn1 (g : TG) (te : TE) (vs : List Nat) (σ : L2.St) (x : V) (H : Hp) (R : V → Hp → Prop) : Prop := ∀ K' : L2.St → Hp → Prop, (∀ σ2, wipe σ2 vs = wipe σ vs → EM te σ2 H R → K' σ2 H) → g x (wipe σ vs) H K'
theorem turn_name {te : TE} {vs : List Nat} {σ : L2.St} {x : V} {H : Hp} {R : V → Hp → Prop} {j : Nat} (hw : wipe ((wipe σ vs).set j (some x)) vs = wipe σ vs) (h : EM te ((wipe σ vs).set j (some x)) H R) : Turn1 (gName j) te vs σ x H R := fun K' k => k _ hw h
theorem turn_two {K : PySem.W.Frag} {te : TE} {vs : List Nat} {σ : L2.St} {x y : V} {t : Addr} {H : Hp} {R : V → Hp → Prop} {i j : Nat} (ht : SqT K H t [x, y]) (hw : wipe (((wipe σ vs).set i (some x)).set j (some y)) vs = wipe σ vs) (h : EM te (((wipe σ vs).set i (some x)).set j (some y)) H R) :
    Turn1 (gTup K 2 (gCons (gName i) (gCons (gName j) gNil))) te vs σ (.ref t) H R := fun K' k => g_two ht (k _ hw h)
theorem em_val {te : TE} {σ : L2.St} {H : Hp} {v : V} {R : V → Hp → Prop} (h : Val te σ H v) (r : R v H) : EM te σ H R := fun Q q => h _ (q v H (Same.refl H) r)
section
variable {σ : L2.St} {H : Hp} {g : TG} {te ti : TE} {vs : List Nat} {Q : VK} {a : Addr} {xs : List V} {R : Nat → V → Hp → Prop}
/-- what the comprehension's list holds -/
def LcP (R : Nat → V → Hp → Prop) (H : Hp) (D : Addr) (i : Nat) (H' : Hp) : Prop := ∃ ys, Same H H' ∧ H' D = some (.lst ys) ∧ H D = none ∧ Rows R 0 i ys H'
/-- a change of a list leaves it -/
def Off (R : Nat → V → Hp → Prop) : Prop := ∀ k v H D ys zs, R k v H → H D = some (.lst ys) → R k v (upd H D (.lst zs))
theorem Run.off (of : Off R) {H : Hp} {D : Addr} {ws zs : List V} (e : H D = some (.lst ws)) : ∀ {k : Nat} {ys : List V}, Run R k ys H → Run R k ys (upd H D (.lst zs))
  | _, [], _ => trivial
  | _, _ :: _, ⟨x, y⟩ => ⟨of _ _ _ _ _ _ x e, Run.off of e y⟩
theorem lc_step (st : ∀ k, Stays (R k)) (of : Off R) {x : V} {i : Nat} {D : Addr} {H1 : Hp} (p : LcP R H D i H1) (hn : i < 10000) (ht : Same H H1 → Turn1 g te vs σ x H1 (R i)) :
    g x (wipe σ vs) H1 fun σ2 H2 => wipe σ2 vs = wipe σ vs ∧ tYes σ2 H2 fun b H3 => if b = true then te σ2 H3 fun y H4 => ∃ acc, H4 D = some (.lst acc) ∧ acc.length < sizeLine ∧ LcP R H D (i + 1) (upd H4 D (.lst (acc ++ [y]))) else LcP R H D (i + 1) H3 := by
  obtain ⟨ys, s, e, nD, r⟩ := p
  refine ht s _ fun σ2 hw em => ⟨hw, ?_⟩
  show (if true = true then te _ _ _ else LcP R H D (i + 1) H1)
  rw [if_pos rfl]
  refine em _ fun v H4 s4 rv => ⟨ys, s4 _ _ e, by rw [r.2]; exact Nat.lt_of_lt_of_le hn (by decide), ys ++ [v], ?_, upd_same, nD, ?_⟩
  · intro b o z
    rw [upd_ne (ne_of_none z nD)]
    exact s4 _ _ (s b o z)
  · have r4 := Rows.stays st ys H1 H4 s4 r
    refine ⟨Run.off of (s4 _ _ e) (Run.app r4.1 ⟨?_, trivial⟩), by rw [List.length_append, r4.2]; rfl⟩
    rw [r4.2, Nat.zero_add]
    exact rv
/-- [e for .. in xs] -/
theorem l_lcS (st : ∀ k, Stays (R k)) (of : Off R) (h : Val ti σ H (.ref a)) (hx : Seq K H a xs) (hn : xs.length ≤ 10000) (hs : ∀ i x H1, xs[i]? = some x → Same H H1 → Turn1 g te vs σ x H1 (R i))
    (q : ∀ p ys H', Same H H' → H' p = some (.lst ys) → Rows R 0 xs.length ys H' → Q (.ref p) H') : tLc (fun σ H R => iList K ti σ H R ∨ iTup K ti σ H R) g tYes te vs σ H Q := by
  have start : ∀ D, H D = none → LcP R H D 0 (upd H D (.lst [])) := fun D hD => ⟨[], Same.new' hD, upd_same, hD, trivial, rfl⟩
  have fin : ∀ D H1, LcP R H D xs.length H1 → Q (.ref D) H1 := fun D H1 ⟨ys, s, e, _, r⟩ => q D ys H1 s e r
  have step : ∀ D i x H1, xs[i]? = some x → LcP R H D i H1 → _ := fun D i x H1 e p => lc_step (g := g) (te := te) (vs := vs) (σ := σ) st of p (by
    have := (List.getElem?_eq_some_iff.mp e).1
    omega) (hs i x H1 e)
  rcases hx with hx | hx
  · exact .inl (h _ ⟨a, rfl, ⟨xs, hx⟩, fun D hD => lc_list (K := K) (a := a) (xs := xs) (LcP R H D) (start D hD) (fun i H1 _ p => p.choose_spec.1.seq hx) (step D) (fun H1 p => fin D H1 p)⟩)
  · exact .inr (h _ ⟨a, rfl, ⟨xs, hx⟩, fun D hD => lc_tup (K := K) (a := a) (xs := xs) (LcP R H D) (start D hD) (fun i H1 _ p => sqt_same p.choose_spec.1 hx) (step D) (fun H1 p => fin D H1 p)⟩)
theorem l_lcL (st : ∀ k, Stays (R k)) (of : Off R) (h : Val ti σ H (.ref a)) (hx : SqL K H a xs) (hn : xs.length ≤ 10000) (hs : ∀ i x H1, xs[i]? = some x → Same H H1 → Turn1 g te vs σ x H1 (R i))
    (q : ∀ p ys H', Same H H' → H' p = some (.lst ys) → Rows R 0 xs.length ys H' → Q (.ref p) H') : tLc (iList K ti) g tYes te vs σ H Q :=
  h _ ⟨a, rfl, ⟨xs, hx⟩, fun D hD => lc_list (K := K) (a := a) (xs := xs) (LcP R H D) ⟨[], Same.new' hD, upd_same, hD, trivial, rfl⟩ (fun i H1 _ p => p.choose_spec.1.seq hx) (fun i x H1 e p => lc_step st of p (by
    have := (List.getElem?_eq_some_iff.mp e).1
    omega) (hs i x H1 e)) (fun H1 ⟨ys, s, e, _, r⟩ => q D ys H1 s e r)⟩
theorem l_lcT (st : ∀ k, Stays (R k)) (of : Off R) (h : Val ti σ H (.ref a)) (hx : SqT K H a xs) (hn : xs.length ≤ 10000) (hs : ∀ i x H1, xs[i]? = some x → Same H H1 → Turn1 g te vs σ x H1 (R i))
    (q : ∀ p ys H', Same H H' → H' p = some (.lst ys) → Rows R 0 xs.length ys H' → Q (.ref p) H') : tLc (iTup K ti) g tYes te vs σ H Q :=
  h _ ⟨a, rfl, ⟨xs, hx⟩, fun D hD => lc_tup (K := K) (a := a) (xs := xs) (LcP R H D) ⟨[], Same.new' hD, upd_same, hD, trivial, rfl⟩ (fun i H1 _ p => sqt_same p.choose_spec.1 hx) (fun i x H1 e p => lc_step st of p (by
    have := (List.getElem?_eq_some_iff.mp e).1
    omega) (hs i x H1 e)) (fun H1 ⟨ys, s, e, _, r⟩ => q D ys H1 s e r)⟩
theorem l_lcR {n : Nat} {ta : TA} (st : ∀ k, Stays (R k)) (of : Off R) (h : VA ta σ H [.int (n : Int)]) (hn : n ≤ 10000) (hs : ∀ i H1, i < n → Same H H1 → Turn1 g te vs σ (.int (i : Int)) H1 (R i))
    (q : ∀ p ys H', Same H H' → H' p = some (.lst ys) → Rows R 0 n ys H' → Q (.ref p) H') : tLc (iRng1 ta) g tYes te vs σ H Q := by
  refine h _ ⟨(n : Int), rfl, by omega, by omega, fun D hD => lc_range (lo := 0) (n := (n : Int).toNat) (LcP R H D) ⟨[], Same.new' hD, upd_same, hD, trivial, rfl⟩ (fun i H1 hi p => ?_) (fun H1 ⟨ys, s, e, _, r⟩ => q D ys H1 s e (by rw [Int.toNat_natCast] at r; exact r))⟩
  rw [Int.zero_add]
  exact lc_step st of p (by omega) (hs i H1 (by omega))
theorem l_lcR2 {lo : Int} {n : Nat} {ta : TA} (st : ∀ k, Stays (R k)) (of : Off R) (h : VA ta σ H [.int lo, .int (lo + (n : Int))]) (h0 : 0 ≤ lo) (h1 : lo ≤ 10000) (hn : n ≤ 10000) (hs : ∀ i H1, i < n → Same H H1 → Turn1 g te vs σ (.int (lo + (i : Int))) H1 (R i))
    (q : ∀ p ys H', Same H H' → H' p = some (.lst ys) → Rows R 0 n ys H' → Q (.ref p) H') : tLc (iRng2 ta) g tYes te vs σ H Q := by
  have e : (lo + (n : Int) - lo).toNat = n := by omega
  refine h _ ⟨lo, lo + n, rfl, ⟨by omega, by omega, by omega, by omega⟩, fun D hD => lc_range (lo := lo) (n := (lo + (n : Int) - lo).toNat) (LcP R H D) ⟨[], Same.new' hD, upd_same, hD, trivial, rfl⟩ (fun i H1 hi p => ?_) (fun H1 ⟨ys, s, e2, _, r⟩ => q D ys H1 s e2 (by rw [e] at r; exact r))⟩
  exact lc_step st of p (by omega) (hs i H1 (by omega))
end

/-! ### ratios as values -/
def Lo (H : Hp) (t : Addr) (q : Rat) : Prop := H t = some (.tup [.int q.num, .int (q.den : Int)])
def Rq (H : Hp) (v : V) (q : Rat) : Prop := ∃ i j, Rt H v i j ∧ Fit i j ∧ q = Rat.divInt i j
theorem Lo.same {H H' : Hp} {t : Addr} {q : Rat} (h : Lo H t q) (s : Same H H') : Lo H' t q := s _ _ h
theorem Rq.same {H H' : Hp} {v : V} {q : Rat} (h : Rq H v q) (s : Same H H') : Rq H' v q := by
  obtain ⟨i, j, r, f, e⟩ := h
  exact ⟨i, j, r.same s, f, e⟩
theorem low_rat (i : Int) {j : Int} (hj : 0 < j) : i / gI i j = (Rat.divInt i j).num ∧ j / gI i j = ((Rat.divInt i j).den : Int) := by
  have g : (Int.gcd j i : Int) = gI i j := by
    unfold gI Int.gcd
    rw [Nat.gcd_comm]
  constructor
  · rw [Rat.num_divInt, Int.sign_eq_one_of_pos hj, Int.one_mul, g]
  · rw [Rat.den_divInt, if_neg (by omega), Int.natCast_ediv, g]
    congr 1
    omega
/-- below 2 ^ n -/
def Sm (n : Nat) (q : Rat) : Prop := q.num.natAbs < 2 ^ n ∧ q.den < 2 ^ n
theorem Sm.mono {n m : Nat} {q : Rat} (h : Sm n q) (l : n ≤ m) : Sm m q := ⟨Nat.lt_of_lt_of_le h.1 (Nat.pow_le_pow_right (by decide) l), Nat.lt_of_lt_of_le h.2 (Nat.pow_le_pow_right (by decide) l)⟩
theorem Sm.fit {n : Nat} {q : Rat} (h : Sm n q) (l : n ≤ 1000) : Fit q.num (q.den : Int) := ⟨(h.mono l).1, by rw [Int.natAbs_natCast]; exact (h.mono l).2⟩
theorem Lo.rt {H : Hp} {t : Addr} {q : Rat} (h : Lo H t q) : Rt H (.ref t) q.num (q.den : Int) := .pair (.inr h) (by have := q.den_pos; omega)
theorem Lo.rq {H : Hp} {t : Addr} {q : Rat} {n : Nat} (h : Lo H t q) (b : Sm n q) (l : n ≤ 1000) : Rq H (.ref t) q := ⟨_, _, h.rt, b.fit l, by rw [Rat.divInt_ofNat, Rat.mkRat_self]⟩
theorem Rq.yes {H : Hp} {v : V} {q : Rat} (h : Rq H v q) : RatQ H v true := by
  obtain ⟨i, j, r, f, e⟩ := h
  exact r.yes
section
variable {σ : L2.St} {H : Hp} {ta : TA} {v u wh : V} {q r : Rat} {Q : VK} {E : XK}
theorem c_told (h : VA ta σ H [v, wh]) (r : Rq H v q) (k : ∀ p H', Same H H' → Lo H' p q → Q (.ref p) H') : tCall (sp_told mg) [] E ta σ H Q := by
  obtain ⟨i, j, rt, f, e⟩ := r
  refine c_call h ⟨v, wh, rfl, .inl ⟨i, j, rt, f, fun p H' s z => k p H' s ?_⟩⟩
  rw [(low_rat i rt.pos).1, (low_rat i rt.pos).2, ← e] at z
  exact z
end

/-! ### rows -/
inductive All2 {α β : Type} (R : α → β → Prop) : List α → List β → Prop
  | nil : All2 R [] []
  | cons {a : α} {b : β} {as : List α} {bs : List β} (h : R a b) (t : All2 R as bs) : All2 R (a :: as) (b :: bs)
theorem All2.imp {α β : Type} {R S : α → β → Prop} (f : ∀ a b, R a b → S a b) {as : List α} {bs : List β} (h : All2 R as bs) : All2 S as bs := by
  induction h with
  | nil => exact .nil
  | cons h _ ih => exact .cons (f _ _ h) ih
theorem All2.len {α β : Type} {R : α → β → Prop} {as : List α} {bs : List β} (h : All2 R as bs) : as.length = bs.length := by
  induction h with
  | nil => rfl
  | cons _ _ ih => rw [List.length_cons, List.length_cons, ih]
theorem All2.get {α β : Type} {R : α → β → Prop} {as : List α} {bs : List β} (h : All2 R as bs) : ∀ {i : Nat} {a : α}, as[i]? = some a → ∃ b, bs[i]? = some b ∧ R a b := by
  induction h with
  | nil => intro i a e; simp at e
  | cons h _ ih =>
    intro i a e
    cases i with
    | zero => simp at e; subst e; exact ⟨_, rfl, h⟩
    | succ i => simp at e; obtain ⟨b, hb, r⟩ := ih e; exact ⟨b, by simpa using hb, r⟩
theorem All2.mk {α β : Type} {R : α → β → Prop} : ∀ {as : List α} {bs : List β}, as.length = bs.length → (∀ (i : Nat) (a : α) (b : β), as[i]? = some a → bs[i]? = some b → R a b) → All2 R as bs
  | [], [], _, _ => .nil
  | a :: as, b :: bs, e, h => .cons (h 0 a b rfl rfl) (All2.mk (as := as) (bs := bs) (by simpa using e) fun (i : Nat) x y h1 h2 => h (i + 1) x y (by simpa using h1) (by simpa using h2))
theorem rows_map {β : Type} {f : β → V} {bs : List β} {n : Nat} {ys : List V} {H : Hp} (r : Rows (fun i v _ => ∃ b, bs[i]? = some b ∧ v = f b) 0 n ys H) (e : bs.length = n) : ys = bs.map f := by
  refine List.ext_getElem? fun i => ?_
  rw [List.getElem?_map]
  cases h : ys[i]? with
  | some v =>
    obtain ⟨b, hb, rfl⟩ := r.1.get h
    rw [Nat.zero_add] at hb
    rw [hb]
    rfl
  | none =>
    have h1 := List.getElem?_eq_none_iff.mp h
    have h2 : bs.length ≤ i := by rw [e, ← r.2]; exact h1
    rw [List.getElem?_eq_none_iff.mpr h2]
    rfl
/-- what is_row answers -/
def spRow (K : PySem.W.Frag) : Sp := fun vs H Q _ => ∃ v, vs = [v] ∧ ((∃ n, Is H v n ∧ n ≠ "list" ∧ n ≠ "tuple" ∧ ∀ H', Same H H' → Q (.bl false) H') ∨ ∃ a xs bs, v = .ref a ∧ Sq H a xs ∧ xs.length ≤ 1000 ∧ All2 (RatQ H) xs bs ∧ ∀ H', Same H H' → Q (.bl (bs.all id)) H')
theorem ok_is_row (T : Txt K mg) : FnOk P w K mg base CX0 5 (fA mg "is_row") (fDat K (fA mg "is_row")) ["value"] (spRow K) := by
  have Gis_ratio := ok_is_ratio (P := P) (w := w) (base := base) T
  refine T.is_row.F.ok scis_row (fun vs H Q E h => ?_) (fun cdv A outer s H vs Q E hr h => ?_)
  · obtain ⟨v, rfl, _⟩ := h
    rfl
  obtain ⟨v, rfl, h⟩ := h
  refine ⟨_, (pss_one (ps_ret (pe_and (pe_callB call_isiT (by rfl) T.isinstance (by decide +kernel) (pa_cons (pv 0) (pa_cons (pe_tup (pa_cons (pe_bltn (v := .ty "tuple") (by rfl) T.tuple (by decide +kernel) rfl) (pa_cons (pe_bltn (v := .ty "list") (by rfl) T.list (by decide +kernel) rfl) pa_nil))) pa_nil))) (pe_one (pe_callB (cr_all rfl) (by rfl) T.all (by decide +kernel) (pa_cons (pe_lc (own := [("number", 1)]) (g := gName 1) (tt := tYes) (by rfl) scis_row.nd (pi_or (pi_list (pv 0)) (pi_tup (pv 0))) (blkOk_by (own := [("number", 1)]) (N := ["value", "number"]) (sc := defScope sis_row) (by decide +kernel)) (fun _ _ _ _ _ => pg_name (i := 1) scis_row.nd rfl (Or.inl rfl)) (fun _ _ _ _ _ => pts_nil) (fun _ _ _ _ _ => (pe_c T.is_ratio Gis_ratio (hr.mono (by decide)) (pa_cons (pv 1) pa_nil)))) pa_nil)))))), ?_⟩
  have both : ∀ {n : String} {Q' : VK}, Is H v n → (∀ H2, Same H H2 → Q' (.bl (decide (n = "tuple") || decide (n = "list"))) H2) →
      tCB (rIsiT K) (tCons (tVar 0) (tCons (tTup (tCons (tC (.ty "tuple")) (tCons (tC (.ty "list")) tNil))) tNil)) [some v, none] H Q' := fun {n Q'} i q =>
    ⟨v, rfl, ⟨by show 2 ≤ sizeLine; decide, fun p hp => ⟨v, p, [.ty "tuple", .ty "list"], _, [.type "tuple", .type "list"], _, rfl, upd_same, .cons (.ty _) (.cons (.ty _) .nil), (i.same (Same.new' hp)).ty.1, kit_seq (i.ty (K := K)).2, q _ (Same.new' hp)⟩⟩⟩
  refine r_ret ?_
  rcases h with ⟨n, i, n1, n2, k⟩ | ⟨a, xs, bs, rfl, hS, hl, hR, k⟩
  · refine both i fun H2 s2 => ⟨_, rfl, ?_⟩
    rw [decide_eq_false n2, decide_eq_false n1]
    exact iteF (k H2 s2)
  · obtain ⟨n, i, o⟩ := hS.is
    refine both i fun H2 s2 => ⟨_, rfl, ?_⟩
    have e : (decide (n = "tuple") || decide (n = "list")) = true := by rcases o with rfl | rfl <;> decide
    rw [e]
    refine iteT (cb_one ?_)
    refine l_lcS (R := fun i v _ => ∃ b, bs[i]? = some b ∧ v = V.bl b) (fun _ _ _ _ _ h => h) (fun _ _ _ _ _ _ h _ => h) (val_var rfl) (hS.same s2).seq (by omega) (fun i x H3 e s3 => turn_name rfl fun Q q => ?_) (fun p ys H4 s4 e4 r4 => ⟨p, bs, rfl, ?_, k H4 (s2.trans s4)⟩)
    · obtain ⟨b, hb, rb⟩ := hR.get e
      exact c_call (va_cons (val_var rfl) va_nil) ⟨x, b, rfl, rb.same (s2.trans s3), fun H' s' => q _ H' s' ⟨b, hb, rfl⟩⟩
    · rw [← rows_map r4 hR.len.symm]
      exact SqL.of e4

theorem get_mem {α : Type} {xs : List α} {i : Nat} {a : α} (h : xs[i]? = some a) : a ∈ xs := List.mem_of_getElem? h
section
variable {σ : L2.St} {H : Hp} {ta : TA} {v u wh : V} {q r : Rat} {Q : VK} {E : XK}
theorem c_plus (h : VA ta σ H [v, u]) (a : Rq H v q) (b : Rq H u r) (k : ∀ p H', Same H H' → Lo H' p (q + r) → Q (.ref p) H') : tCall (sp_plus mg) [] E ta σ H Q := by
  obtain ⟨i, j, rt, f, e⟩ := a
  obtain ⟨i', j', rt', f', e'⟩ := b
  refine c_call h ⟨v, u, rfl, .inl ⟨i, j, i', j', rt, rt', f, f', fun p H' s z => k p H' s ?_⟩⟩
  have hj := rt.pos
  have hj' := rt'.pos
  have hl := low_rat (i * j' + i' * j) (Int.mul_pos hj hj')
  rw [hl.1, hl.2] at z
  unfold Lo
  rw [e, e', Rat.divInt_add_divInt _ _ (by omega) (by omega)]
  exact z
theorem c_times (h : VA ta σ H [v, u]) (a : Rq H v q) (b : Rq H u r) (k : ∀ p H', Same H H' → Lo H' p (q * r) → Q (.ref p) H') : tCall (sp_times mg) [] E ta σ H Q := by
  obtain ⟨i, j, rt, f, e⟩ := a
  obtain ⟨i', j', rt', f', e'⟩ := b
  refine c_call h ⟨v, u, rfl, .inl ⟨i, j, i', j', rt, rt', f, f', fun p H' s z => k p H' s ?_⟩⟩
  have hl := low_rat (i * i') (Int.mul_pos rt.pos rt'.pos)
  rw [hl.1, hl.2] at z
  unfold Lo
  rw [e, e', Rat.divInt_mul_divInt]
  exact z
theorem c_minus (h : VA ta σ H [v, u]) (a : Rq H v q) (b : Rq H u r) (k : ∀ p H', Same H H' → Lo H' p (q - r) → Q (.ref p) H') : tCall (sp_minus mg) [] E ta σ H Q := by
  obtain ⟨i, j, rt, f, e⟩ := a
  obtain ⟨i', j', rt', f', e'⟩ := b
  refine c_call h ⟨v, u, rfl, .inl ⟨i, j, i', j', rt, rt', f, f', fun p H' s z => k p H' s ?_⟩⟩
  have hj := rt.pos
  have hj' := rt'.pos
  have hl := low_rat (i * j' - i' * j) (Int.mul_pos hj hj')
  rw [hl.1, hl.2] at z
  unfold Lo
  rw [e, e', Rat.divInt_sub_divInt _ _ (by omega) (by omega)]
  exact z
theorem cs_plus (a : Rq H v q) (b : Rq H u r) (k : ∀ p H', Same H H' → Lo H' p (q + r) → Q (.ref p) H') : sp_plus mg ([v, u] ++ []) H Q E := by
  obtain ⟨i, j, rt, f, e⟩ := a
  obtain ⟨i', j', rt', f', e'⟩ := b
  refine ⟨v, u, rfl, .inl ⟨i, j, i', j', rt, rt', f, f', fun p H' s z => k p H' s ?_⟩⟩
  have hj := rt.pos
  have hj' := rt'.pos
  have hl := low_rat (i * j' + i' * j) (Int.mul_pos hj hj')
  rw [hl.1, hl.2] at z
  unfold Lo
  rw [e, e', Rat.divInt_add_divInt _ _ (by omega) (by omega)]
  exact z
theorem cs_times (a : Rq H v q) (b : Rq H u r) (k : ∀ p H', Same H H' → Lo H' p (q * r) → Q (.ref p) H') : sp_times mg ([v, u] ++ []) H Q E := by
  obtain ⟨i, j, rt, f, e⟩ := a
  obtain ⟨i', j', rt', f', e'⟩ := b
  refine ⟨v, u, rfl, .inl ⟨i, j, i', j', rt, rt', f, f', fun p H' s z => k p H' s ?_⟩⟩
  have hl := low_rat (i * i') (Int.mul_pos rt.pos rt'.pos)
  rw [hl.1, hl.2] at z
  unfold Lo
  rw [e, e', Rat.divInt_mul_divInt]
  exact z
theorem cs_minus (a : Rq H v q) (b : Rq H u r) (k : ∀ p H', Same H H' → Lo H' p (q - r) → Q (.ref p) H') : sp_minus mg ([v, u] ++ []) H Q E := by
  obtain ⟨i, j, rt, f, e⟩ := a
  obtain ⟨i', j', rt', f', e'⟩ := b
  refine ⟨v, u, rfl, .inl ⟨i, j, i', j', rt, rt', f, f', fun p H' s z => k p H' s ?_⟩⟩
  have hj := rt.pos
  have hj' := rt'.pos
  have hl := low_rat (i * j' - i' * j) (Int.mul_pos hj hj')
  rw [hl.1, hl.2] at z
  unfold Lo
  rw [e, e', Rat.divInt_sub_divInt _ _ (by omega) (by omega)]
  exact z
end
theorem Sm.div {i j : Int} {n : Nat} (hj : 0 < j) (h1 : i.natAbs < 2 ^ n) (h2 : j.natAbs < 2 ^ n) : Sm n (Rat.divInt i j) := by
  have l := low_rat i hj
  have p := low_pos i hj
  constructor
  · rw [← l.1]
    exact Nat.lt_of_le_of_lt (low_abs i) h1
  · have : ((Rat.divInt i j).den : Int) ≤ j := by rw [← l.2]; exact p.2
    omega
theorem Sm.add {n m : Nat} {q r : Rat} (h : Sm n q) (k : Sm m r) : Sm (n + m + 1) (q + r) := by
  have e : q + r = Rat.divInt (q.num * r.den + r.num * q.den) (q.den * r.den) := by rw [Rat.add_def', ← Rat.divInt_ofNat, Int.natCast_mul]
  rw [e]
  have p : (2 : Nat) ^ (n + m + 1) = 2 ^ n * 2 ^ m + 2 ^ m * 2 ^ n := by rw [Nat.pow_succ, Nat.pow_add, Nat.mul_comm (2 ^ m)]; omega
  have dq := q.den_pos
  have dr := r.den_pos
  refine Sm.div (Int.mul_pos (by omega) (by omega)) ?_ ?_
  · rw [p]
    refine Nat.lt_of_le_of_lt (Int.natAbs_add_le _ _) (Nat.add_lt_add ?_ ?_)
    · rw [Int.natAbs_mul, Int.natAbs_natCast]
      exact Nat.mul_lt_mul'' h.1 k.2
    · rw [Int.natAbs_mul, Int.natAbs_natCast]
      exact Nat.mul_lt_mul'' k.1 h.2
  · rw [Int.natAbs_mul, Int.natAbs_natCast, Int.natAbs_natCast, p]
    have := Nat.mul_lt_mul'' h.2 k.2
    omega
theorem Sm.mul {n m : Nat} {q r : Rat} (h : Sm n q) (k : Sm m r) : Sm (n + m) (q * r) := by
  have e : q * r = Rat.divInt (q.num * r.num) (q.den * r.den) := by rw [Rat.mul_def', ← Rat.divInt_ofNat, Int.natCast_mul]
  rw [e]
  have dq := q.den_pos
  have dr := r.den_pos
  refine Sm.div (Int.mul_pos (by omega) (by omega)) ?_ ?_
  · rw [Int.natAbs_mul, Nat.pow_add]
    exact Nat.mul_lt_mul'' h.1 k.1
  · rw [Int.natAbs_mul, Int.natAbs_natCast, Int.natAbs_natCast, Nat.pow_add]
    exact Nat.mul_lt_mul'' h.2 k.2
theorem Sm.neg {n : Nat} {q : Rat} (h : Sm n q) : Sm n (-q) := ⟨by rw [Rat.neg_num, Int.natAbs_neg]; exact h.1, h.2⟩
theorem Sm.sub {n m : Nat} {q r : Rat} (h : Sm n q) (k : Sm m r) : Sm (n + m + 1) (q - r) := by
  rw [Rat.sub_eq_add_neg]
  exact h.add k.neg

/-! ### the law's own ratios and rows -/
theorem But.lo {H H' : Hp} {p c t : Addr} {m : Nat} {q : Rat} (b : But p H H') (P : PenAt H p c m) (h : Lo H t q) : Lo H' t q := by
  obtain ⟨kvs, hd⟩ := P.dk
  exact b _ _ h (ne_of h hd (by intro z; cases z))
/-- a list of ratios in lowest terms -/
def Lst (H : Hp) (l : Addr) (xs : List Rat) : Prop := ∃ vs, H l = some (.lst vs) ∧ All2 (fun v q => ∃ p, v = .ref p ∧ Lo H p q) vs xs
theorem Lst.same {H H' : Hp} {t : Addr} {xs : List Rat} (h : Lst H t xs) (s : Same H H') : Lst H' t xs := by
  obtain ⟨vs, e, al⟩ := h
  exact ⟨vs, s _ _ e, al.imp fun v q ⟨p, e, lo⟩ => ⟨p, e, lo.same s⟩⟩
theorem Lst.but {H H' : Hp} {p c l : Addr} {m : Nat} {xs : List Rat} (h : Lst H l xs) (b : But p H H') (P : PenAt H p c m) : Lst H' l xs := by
  obtain ⟨vs, e, al⟩ := h
  obtain ⟨kvs, hd⟩ := P.dk
  exact ⟨vs, b _ _ e (ne_of e hd (by intro z; cases z)), al.imp fun v q ⟨p, e, lo⟩ => ⟨p, e, b.lo P lo⟩⟩
theorem c_lq {H : Hp} {ta : TA} {σ : L2.St} {x y : Int} {Q : VK} {E : XK} (h : VA ta σ H [.int x, .int y]) (hx : x.natAbs < 2 ^ wd) (hy : y.natAbs < 2 ^ wd) (y0 : 0 < y) (k : ∀ p H', Same H H' → Lo H' p (Rat.divInt x y) → Q (.ref p) H') : tCall spLQ [] E ta σ H Q :=
  c_call h ⟨x, y, rfl, hx, hy, .inl ⟨y0, fun p H' s z => k p H' s (by
    unfold Lo
    rw [← (low_rat x y0).1, ← (low_rat x y0).2]
    exact z)⟩⟩
theorem c_lplus {H : Hp} {ta : TA} {σ : L2.St} {p q : Addr} {x y : Rat} {n m : Nat} {Q : VK} {E : XK} (h : VA ta σ H [.ref p, .ref q]) (a : Lo H p x) (b : Lo H q y) (hx : Sm n x) (hy : Sm m y) (hn : n ≤ 1000) (hm : m ≤ 1000) (k : ∀ c H', Same H H' → Lo H' c (x + y) → Q (.ref c) H') : tCall sp_law_plus [] E ta σ H Q := by
  have d1 := x.den_pos
  have d2 := y.den_pos
  refine c_call h ⟨p, q, _, _, _, _, rfl, a, b, hx.fit hn, hy.fit hm, by omega, by omega, fun c H' s z => k c H' s ?_⟩
  unfold Lo
  have e : x + y = Rat.divInt (x.num * (y.den : Int) + y.num * (x.den : Int)) ((x.den : Int) * (y.den : Int)) := by rw [Rat.add_def', ← Rat.divInt_ofNat, Int.natCast_mul]
  rw [e, ← (low_rat _ (Int.mul_pos (by omega) (by omega))).1, ← (low_rat _ (Int.mul_pos (by omega) (by omega))).2]
  exact z
theorem c_ltimes {H : Hp} {ta : TA} {σ : L2.St} {p q : Addr} {x y : Rat} {n m : Nat} {Q : VK} {E : XK} (h : VA ta σ H [.ref p, .ref q]) (a : Lo H p x) (b : Lo H q y) (hx : Sm n x) (hy : Sm m y) (hn : n ≤ 1000) (hm : m ≤ 1000) (k : ∀ c H', Same H H' → Lo H' c (x * y) → Q (.ref c) H') : tCall sp_law_times [] E ta σ H Q := by
  have d1 := x.den_pos
  have d2 := y.den_pos
  refine c_call h ⟨p, q, _, _, _, _, rfl, a, b, hx.fit hn, hy.fit hm, by omega, by omega, fun c H' s z => k c H' s ?_⟩
  unfold Lo
  have e : x * y = Rat.divInt (x.num * y.num) ((x.den : Int) * (y.den : Int)) := by rw [Rat.mul_def', ← Rat.divInt_ofNat, Int.natCast_mul]
  rw [e, ← (low_rat _ (Int.mul_pos (by omega) (by omega))).1, ← (low_rat _ (Int.mul_pos (by omega) (by omega))).2]
  exact z

theorem va_s {te : TE} {tr : TA} {σ : L2.St} {H : Hp} {v : V} {Q : List V → Hp → Prop} (h : Val te σ H v) (k : tr σ H fun vs H1 => Q (v :: vs) H1) : tCons te tr σ H Q := h _ k
theorem l_s {ta : TA} {σ : L2.St} {H : Hp} {Q : VK} (h : ta σ H fun vs H1 => vs.length ≤ sizeLine ∧ ∀ q, H1 q = none → Q (.ref q) (upd H1 q (.lst vs))) : tLst ta σ H Q := h
end
end LW

namespace LW
open PySem PySem.Spec PyProof.Rows L2 GL
section
variable {P : Program} {w : World} {K : PySem.W.Frag} {mg : Str → Option Value} {base : Heap}
theorem scI_BadRow : FnScope ["self", "row"] ["self", "row"] (defScope (inClass (top 5) 0)) := ⟨rfl, rfl, rfl, by decide +kernel, rfl, by decide +kernel, by decide +kernel⟩
theorem init_BadRow (T : Txt K mg) : FnOk P w K mg base CX0 1 (iA K (fA mg "BadRow")) (fDat K (iA K (fA mg "BadRow"))) ["self", "row"] (spI1 (fA mg "BadRow") "row") := by
  refine T.BadRow.F.ok scI_BadRow (fun vs H Q E h => ?_) (fun cdv A outer s H vs Q E hr h => ?_)
  · obtain ⟨a, v, rfl, _⟩ := h
    rfl
  · obtain ⟨a, v, rfl, ha, k⟩ := h
    exact ⟨_, pss_one (ps_ost (pv 0) (pv 1)), s_ost1 T.BadRow.o (T.BadRow.n _ (by simp)) ha rfl rfl k⟩
theorem x_made1 {σ : L2.St} {H : Hp} {ta : TA} {C : Addr} {f : Str} {v : V} {Q : XK} (h : VA ta σ H [v]) (k : ∀ d H', Same H H' → H d = none → H' d = some (.xd [(f, v)]) → Q (.ref C) (some d) H') : tMkO C (spI1 C f) [] ta σ H Q :=
  h _ ⟨by show 1 ≤ 1000; decide, fun a ha => ⟨a, v, rfl, upd_same, fun dx hd ne => by
    rw [upd_ne ne] at hd
    refine ⟨rfl, dx, _, upd_same, by rw [upd_ne ne, upd_same], hd, k dx _ (fun b o e => ?_) hd upd_same⟩
    have hb : b ≠ a := ne_of_none e ha
    have hb2 : b ≠ dx := ne_of_none e hd
    rw [upd_ne hb2, del_ne hb, upd_ne hb, upd_ne hb2, upd_ne hb]
    exact e⟩⟩

def spPair : Sp := fun vs H Q _ => ∃ (v : V) (q : Rat), vs = [v] ∧ Rq H v q ∧ ∀ p H', L2.Same H H' → Lo H' p q → Q (.ref p) H'
theorem ok_pair_of (T : Txt K mg) : FnOk P w K mg base (L2.CX P w) 7 (fA mg "pair_of") (fDat K (fA mg "pair_of")) ["value"] spPair := by
  have Gtold := ok_told (P := P) (w := w) (base := base) T
  refine T.pair_of.F.okX scpair_of (fun vs H Q E h => ?_) (fun cdv A outer s H vs Q E hr h => ?_)
  · obtain ⟨v, q, rfl, _⟩ := h
    rfl
  obtain ⟨v, q, rfl, r, k⟩ := h
  refine ⟨_, (pss_one (ps_ret (pe_call Gtold (hr.mono (by decide)) (by rfl) T.told.g T.told.F.kp T.told.b .nil (passes_call (takes_of rfl rfl rfl rfl) (fun _ _ _ _ h => h)) (pa_cons (pv 0) (pa_cons pe_str pa_nil))))), ?_⟩
  exact r_ret (c_told (va_cons (val_var rfl) (va_cons val_c va_nil)) r k)
def sp_lower (mg : Str → Option Value) : Sp := fun vs H Q E => ∃ (v u : V), vs = [v, u] ∧ ((∃ i j k l, Rt H v i j ∧ Rt H u k l ∧ Fit i j ∧ Fit k l ∧ ∀ H', Same H H' → Q (.bl (decide (i * l < k * j))) H') ∨
  (RatQ H v false ∧ Bad mg H (.str "ratio") v E) ∨ (∃ i j, Rt H v i j ∧ RatQ H u false ∧ Bad mg H (.str "ratio") u E))
theorem ok_lower (T : Txt K mg) : FnOk P w K mg base (L2.CX P w) 6 (fA mg "lower") (fDat K (fA mg "lower")) ["one", "other"] (sp_lower mg) := by
  have G_parts := ok_parts (P := P) (w := w) (base := base) T
  have G_lowest := ok_lowest (P := P) (w := w) (base := base) T
  have Gi_BadNumber := init_BadNumber (P := P) (w := w) (base := base) T
  refine T.lower.F.okX sclower (fun vs H Q E h => ?_) (fun cdv A outer s H vs Q E hr h => ?_)
  · obtain ⟨v, u, rfl, _⟩ := h
    rfl
  · obtain ⟨v, u, rfl, h⟩ := h
    refine ⟨_, (pss_cons (ps_asg (pe_call G_parts (hr.mono (by decide)) (by rfl) T._parts.g T._parts.F.kp T._parts.b .nil (passes_call (takes_of rfl rfl rfl rfl) (fun _ _ _ _ h => h)) (pa_cons (pv 0) (pa_cons pe_str pa_nil))) (pg_tup rfl (pgs_cons (pg_name (i := 2) sclower.nd rfl (Or.inl rfl)) (pgs_cons (pg_name (i := 3) sclower.nd rfl (Or.inl rfl)) pgs_nil))))
  (pss_cons (ps_asg (pe_call G_parts (hr.mono (by decide)) (by rfl) T._parts.g T._parts.F.kp T._parts.b .nil (passes_call (takes_of rfl rfl rfl rfl) (fun _ _ _ _ h => h)) (pa_cons (pv 1) (pa_cons pe_str pa_nil))) (pg_tup rfl (pgs_cons (pg_name (i := 4) sclower.nd rfl (Or.inl rfl)) (pgs_cons (pg_name (i := 5) sclower.nd rfl (Or.inl rfl)) pgs_nil))))
  (pss_one (ps_ret (pe_cmpR op_lt (pe_op op_mulW (pv 2) (pv 5)) (pe_op op_mulW (pv 4) (pv 3)) (nomark _)))))), ?_⟩
    rcases h with ⟨i, j, k, l, r, t, ⟨fi, fj⟩, ⟨fk, fl⟩, q⟩ | ⟨r, b⟩ | ⟨i, j, r, t, b⟩
    · refine q_parts rfl (va_cons (val_var rfl) (va_cons val_c va_nil)) r fun H1 s1 => ?_
      refine q_parts rfl (va_cons (val_var rfl) (va_cons val_c va_nil)) (t.same s1) fun H2 s2 => ?_
      exact r_ret (v_mul (val_var rfl) (val_var rfl) (fit_mul fi fl) _ (v_mul (val_var rfl) (val_var rfl) (fit_mul fk fj) _ ⟨_, _, rfl, rfl, q H2 (s1.trans s2)⟩))
    · exact q_partsX (va_cons (val_var rfl) (va_cons val_c va_nil)) r b
    · refine q_parts rfl (va_cons (val_var rfl) (va_cons val_c va_nil)) r fun H1 s1 => ?_
      exact q_partsX (va_cons (val_var rfl) (va_cons val_c va_nil)) (t.same s1) (b.from s1)


/-! ### rows of a number of ratios -/
inductive RwQ (H : Hp) (n : Nat) : V → Bool → Prop
  | odd {v : V} {k : String} (h : Is H v k) (n1 : k ≠ "list") (n2 : k ≠ "tuple") : RwQ H n v false
  | seq {a : Addr} {xs : List V} {bs : List Bool} (h : Sq H a xs) (l : xs.length ≤ 1000) (r : All2 (RatQ H) xs bs) : RwQ H n (.ref a) (bs.all id && decide (xs.length = n))
theorem RwQ.same {H H' : Hp} {n : Nat} {v : V} {b : Bool} (h : RwQ H n v b) (s : L2.Same H H') : RwQ H' n v b := by
  cases h with
  | odd h n1 n2 => exact .odd (h.same s) n1 n2
  | seq h l r => exact .seq (h.same s) l (r.imp fun _ _ q => q.same s)
def spRowN : Sp := fun vs H Q _ => ∃ (v : V) (n : Nat) (b : Bool), vs = [v, .int (n : Int)] ∧ RwQ H n v b ∧ ∀ H', L2.Same H H' → Q (.bl b) H'
theorem ok_is_row_of (T : Txt K mg) : FnOk P w K mg base CX0 6 (fA mg "is_row_of") (fDat K (fA mg "is_row_of")) ["value", "many"] spRowN := by
  have Gis_row := ok_is_row (P := P) (w := w) (base := base) T
  refine T.is_row_of.F.ok scis_row_of (fun vs H Q E h => ?_) (fun cdv A outer s H vs Q E hr h => ?_)
  · obtain ⟨v, n, b, rfl, _⟩ := h
    rfl
  obtain ⟨v, n, b, rfl, hR, k⟩ := h
  refine ⟨_, (pss_one (ps_ret (pe_and (pe_c T.is_row Gis_row (hr.mono (by decide)) (pa_cons (pv 0) pa_nil)) (pe_one (pe_cmpR op_eq (pe_callB call_len_seq (by rfl) T.len PySem.boot_len (pa_cons (pv 0) pa_nil)) (pv 1) (nomark _)))))), ?_⟩
  refine r_ret ?_
  cases hR with
  | odd h n1 n2 => exact c_call (va_cons (val_var rfl) va_nil) ⟨_, rfl, .inl ⟨_, h, n1, n2, fun H1 s1 => ⟨_, rfl, iteF (k H1 s1)⟩⟩⟩
  | @seq a xs bs h l r =>
    refine c_call (va_cons (val_var rfl) va_nil) ⟨_, rfl, .inr ⟨_, _, _, rfl, h, l, r, fun H1 s1 => ⟨_, rfl, ?_⟩⟩⟩
    cases hb : bs.all id with
    | false =>
      rw [hb] at k
      exact iteF (k H1 s1)
    | true =>
      rw [hb] at k
      refine iteT ((v_eq (v_len (val_var rfl) (h.same s1).sq) (val_var rfl) rfl) _ ?_)
      have e : decide ((V.int (xs.length : Int)) = V.int (n : Int)) = (true && decide (xs.length = n)) := by
        rw [Bool.true_and]
        refine decide_eq_decide.mpr ⟨fun z => ?_, fun z => by rw [z]⟩
        have := V.int.inj z
        omega
      rw [e]
      exact k H1 s1
/-- a tuple of ratios in lowest terms -/
def Tup (H : Hp) (t : Addr) (xs : List Rat) : Prop := ∃ vs, H t = some (.tup vs) ∧ All2 (fun v q => ∃ p, v = .ref p ∧ Lo H p q) vs xs
theorem Tup.same {H H' : Hp} {t : Addr} {xs : List Rat} (h : Tup H t xs) (s : L2.Same H H') : Tup H' t xs := by
  obtain ⟨vs, e, a⟩ := h
  exact ⟨vs, s _ _ e, a.imp fun v q ⟨p, e, l⟩ => ⟨p, e, l.same s⟩⟩
def Sms (n : Nat) (xs : List Rat) : Prop := ∀ q ∈ xs, Sm n q
/-- a row of ratios as passed -/
def RwR (H : Hp) (v : V) (qs : List Rat) : Prop := ∃ a xs, v = .ref a ∧ Sq H a xs ∧ All2 (Rq H) xs qs
theorem RwR.same {H H' : Hp} {v : V} {qs : List Rat} (h : RwR H v qs) (s : L2.Same H H') : RwR H' v qs := by
  obtain ⟨a, xs, e, q, al⟩ := h
  exact ⟨a, xs, e, q.same s, al.imp fun _ _ r => r.same s⟩
def co (xs : List Rat) (i : Nat) : Rat := xs[i]?.getD 0
theorem lo_upd {H : Hp} {t p : Addr} {ws zs : List V} {q : Rat} (e : H t = some (.lst ws)) (lo : Lo H p q) : Lo (upd H t (.lst zs)) p q := by
  unfold Lo
  rw [upd_ne (ne_of lo e (by intro z; cases z))]
  exact lo
def spRowOf : Sp := fun vs H Q _ => ∃ (v : V) (n : Nat), vs = [v, .int (n : Int)] ∧ n ≤ 100 ∧ ((RwQ H n v false ∧ ∀ H', L2.Same H H' → Q .non H') ∨
  ∃ qs, RwR H v qs ∧ qs.length = n ∧ ∀ t H', L2.Same H H' → Tup H' t qs → Q (.ref t) H')
theorem rats_yes {H : Hp} {xs : List V} {qs : List Rat} (h : All2 (Rq H) xs qs) : ∃ bs, All2 (RatQ H) xs bs ∧ bs.all id = true := by
  induction h with
  | nil => exact ⟨[], .nil, rfl⟩
  | cons r _ ih =>
    obtain ⟨bs, al, e⟩ := ih
    exact ⟨true :: bs, .cons r.yes al, by rw [List.all_cons, e]; rfl⟩
theorem ok_row_of (T : Txt K mg) : FnOk P w K mg base CX0 8 (fA mg "row_of") (fDat K (fA mg "row_of")) ["value", "many"] spRowOf := by
  have Gis_row_of := ok_is_row_of (P := P) (w := w) (base := base) T
  have Gpair_of := ok_pair_of (P := P) (w := w) (base := base) T
  refine T.row_of.F.ok scrow_of (fun vs H Q E h => ?_) (fun cdv A outer s H vs Q E hr h => ?_)
  · obtain ⟨v, n, rfl, _⟩ := h
    rfl
  obtain ⟨v, n, rfl, n1, h⟩ := h
  refine ⟨_, (pss_one (ps_ret (pe_ifExp (pt_val (pe_c T.is_row_of Gis_row_of (hr.mono (by decide)) (pa_cons (pv 0) (pa_cons (pv 1) pa_nil)))) (pe_callTy call_tuple_of (by rfl) T.tuple (by decide +kernel) (pa_cons (pe_lc (own := [("number", 2)]) (g := gName 2) (tt := tYes) (by rfl) scrow_of.nd (pi_or (pi_list (pv 0)) (pi_tup (pv 0))) (blkOk_by (own := [("number", 2)]) (N := ["value", "many", "number"]) (sc := defScope srow_of) (by decide +kernel)) (fun _ _ _ _ _ => pg_name (i := 2) scrow_of.nd rfl (Or.inl rfl)) (fun _ _ _ _ _ => pts_nil) (fun _ _ _ _ _ => (pe_call Gpair_of (hr.mono (by decide)) (by rfl) T.pair_of.g T.pair_of.F.kp T.pair_of.b .nil passL (pa_cons (pv 2) pa_nil)))) pa_nil)) pe_non))), ?_⟩
  refine r_ret ?_
  rcases h with ⟨rw, k⟩ | ⟨qs, ⟨a, xs, rfl, sq, al⟩, l, k⟩
  · refine (show tB _ _ _ _ from c_call (va_cons (val_var rfl) (va_cons (val_var rfl) va_nil)) ⟨v, n, false, rfl, rw, fun H1 s1 => ⟨false, rfl, ?_⟩⟩)
    exact iteF (k H1 s1)
  · obtain ⟨bs, ab, eb⟩ := rats_yes al
    have lx := al.len
    have rq := RwQ.seq (n := n) sq (by omega) ab
    rw [eb, decide_eq_true (by omega), Bool.and_self] at rq
    refine (show tB _ _ _ _ from c_call (va_cons (val_var rfl) (va_cons (val_var rfl) va_nil)) ⟨.ref a, n, true, rfl, rq, fun H1 s1 => ⟨true, rfl, iteT ?_⟩⟩)
    refine cb_one ?_
    refine l_lcS (R := fun i v H => ∃ p, v = V.ref p ∧ Lo H p (co qs i)) (fun _ _ _ _ s ⟨p, e, z⟩ => ⟨p, e, z.same s⟩) (fun _ _ _ _ _ _ ⟨p, e, z⟩ h => ⟨p, e, lo_upd h z⟩) (val_var rfl) (sq.same s1).seq (by omega) (fun i x H3 e s3 => turn_name rfl fun Q q => ?_) (fun p ys H4 s4 e4 r4 => ⟨p, ys, rfl, .inl ⟨SqL.of e4, fun t ht => ?_⟩⟩)
    · obtain ⟨b, hb, rb⟩ := al.get e
      refine c_call (va_cons (val_var rfl) va_nil) ⟨x, b, rfl, rb.same (s1.trans s3), fun p H' s' lo => q _ H' s' ⟨p, rfl, ?_⟩⟩
      unfold co
      rw [hb]
      exact lo
    · have s5 := Same.new' (o := .tup ys) ht
      refine k t _ ((s1.trans s4).trans s5) ⟨ys, upd_same, All2.mk (by rw [r4.2]; omega) fun i v q hv hq => ?_⟩
      obtain ⟨p, e, lo⟩ := r4.1.get hv
      rw [Nat.zero_add] at lo
      unfold co at lo
      rw [hq] at lo
      exact ⟨p, e, lo.same s5⟩

/-! ### matrices of four ratios, forms of three -/
theorem tup4 {H : Hp} {t : Addr} {a b c d : Rat} (h : Tup H t [a, b, c, d]) : ∃ w x y z, H t = some (.tup [.ref w, .ref x, .ref y, .ref z]) ∧ Lo H w a ∧ Lo H x b ∧ Lo H y c ∧ Lo H z d := by
  obtain ⟨vs, e, al⟩ := h
  cases al with
  | cons r1 al => cases al with
    | cons r2 al => cases al with
      | cons r3 al => cases al with
        | cons r4 al =>
          cases al
          obtain ⟨w, rfl, l1⟩ := r1
          obtain ⟨x, rfl, l2⟩ := r2
          obtain ⟨y, rfl, l3⟩ := r3
          obtain ⟨z, rfl, l4⟩ := r4
          exact ⟨w, x, y, z, e, l1, l2, l3, l4⟩
theorem tup3 {H : Hp} {t : Addr} {a b c : Rat} (h : Tup H t [a, b, c]) : ∃ w x y, H t = some (.tup [.ref w, .ref x, .ref y]) ∧ Lo H w a ∧ Lo H x b ∧ Lo H y c := by
  obtain ⟨vs, e, al⟩ := h
  cases al with
  | cons r1 al => cases al with
    | cons r2 al => cases al with
      | cons r3 al =>
        cases al
        obtain ⟨w, rfl, l1⟩ := r1
        obtain ⟨x, rfl, l2⟩ := r2
        obtain ⟨y, rfl, l3⟩ := r3
        exact ⟨w, x, y, e, l1, l2, l3⟩
structure Mt where
  a : Rat
  b : Rat
  c : Rat
  d : Rat
structure Fm where
  p : Rat
  q : Rat
  r : Rat
def Mt.l (m : Mt) : List Rat := [m.a, m.b, m.c, m.d]
def Fm.l (f : Fm) : List Rat := [f.p, f.q, f.r]
def Mt.tr (m : Mt) : Rat := m.a + m.d
def Mt.det (m : Mt) : Rat := m.a * m.d - m.b * m.c
def slp (m : Mt) (f : Fm) : Fm := ⟨2 * (f.p * m.a + f.q * m.c), f.p * m.b + f.q * (m.a + m.d) + f.r * m.c, 2 * (f.q * m.b + f.r * m.d)⟩
theorem two_rq {H : Hp} : Rq H (.int 2) (2 : Rat) := ⟨2, 1, .int 2, ⟨Nat.lt_of_lt_of_le (show 2 < 2 ^ 3 by decide) (Nat.pow_le_pow_right (by decide) (by decide)), Nat.one_lt_two_pow (by decide)⟩, by decide +kernel⟩
def spTrace : Sp := fun vs H Q _ => ∃ (t : Addr) (m : Mt) (n : Nat), vs = [.ref t] ∧ Tup H t m.l ∧ Sms n m.l ∧ n ≤ 60 ∧ ∀ p H', L2.Same H H' → Lo H' p m.tr → Q (.ref p) H'
theorem ok_trace_of (T : Txt K mg) : FnOk P w K mg base CX0 7 (fA mg "trace_of") (fDat K (fA mg "trace_of")) ["matrix"] spTrace := by
  have Gplus := ok_plus (P := P) (w := w) (base := base) T
  refine T.trace_of.F.ok sctrace_of (fun vs H Q E h => ?_) (fun cdv A outer s H vs Q E hr h => ?_)
  · obtain ⟨t, m, n, rfl, _⟩ := h
    rfl
  obtain ⟨t, m, n, rfl, hT, sm, hn, k⟩ := h
  refine ⟨_, (pss_one (ps_ret (pe_call Gplus (hr.mono (by decide)) (by rfl) T.plus.g T.plus.F.kp T.plus.b .nil passL (pa_cons (pe_ix ix_tup (pv 0) pe_int (fun _ _ => rfl)) (pa_cons (pe_ix ix_tup (pv 0) pe_int (fun _ _ => rfl)) pa_nil))))), ?_⟩
  obtain ⟨w, x, y, z, e, l1, l2, l3, l4⟩ := tup4 hT
  refine r_ret (c_plus (va_cons (v_ixT (n := 0) (val_var rfl) val_c (SqT.of e) rfl) (va_cons (v_ixT (n := 3) (val_var rfl) val_c (SqT.of e) rfl) va_nil)) (l1.rq (sm m.a (by simp [Mt.l])) (by omega)) (l4.rq (sm m.d (by simp [Mt.l])) (by omega)) fun p H' s lo => k p H' s lo)
def spDet : Sp := fun vs H Q _ => ∃ (t : Addr) (m : Mt) (n : Nat), vs = [.ref t] ∧ Tup H t m.l ∧ Sms n m.l ∧ n ≤ 60 ∧ ∀ p H', L2.Same H H' → Lo H' p m.det → Q (.ref p) H'
theorem g_four {K : PySem.W.Frag} {i j k l : Nat} {x y z u : V} {T : Addr} {σ : L2.St} {H : Hp} {K' : L2.St → Hp → Prop} (hT : SqT K H T [x, y, z, u]) (q : K' ((((σ.set i (some x)).set j (some y)).set k (some z)).set l (some u)) H) : gTup K 4 (gCons (gName i) (gCons (gName j) (gCons (gName k) (gCons (gName l) gNil)))) (.ref T) σ H K' :=
  ⟨T, _, rfl, hT, rfl, x, _, rfl, y, _, rfl, z, _, rfl, u, _, rfl, rfl, q⟩
theorem g_three {K : PySem.W.Frag} {i j k : Nat} {x y z : V} {T : Addr} {σ : L2.St} {H : Hp} {K' : L2.St → Hp → Prop} (hT : SqT K H T [x, y, z]) (q : K' (((σ.set i (some x)).set j (some y)).set k (some z)) H) : gTup K 3 (gCons (gName i) (gCons (gName j) (gCons (gName k) gNil))) (.ref T) σ H K' :=
  ⟨T, _, rfl, hT, rfl, x, _, rfl, y, _, rfl, z, _, rfl, rfl, q⟩
theorem q_asgG {te : TE} {g : TG} {tz : TS} {D : Ends} {σ : L2.St} {H : Hp} (h : te σ H fun v H' => g v σ H' fun σ2 H2 => tz D σ2 H2) : tSeq (tAsg te g) tz D σ H := h
theorem va_x {te : TE} {tr : TA} {σ : L2.St} {H : Hp} {Q : List V → Hp → Prop} (h : te σ H fun v H1 => tr σ H1 fun vs H2 => Q (v :: vs) H2) : tCons te tr σ H Q := h
theorem ok_determinant_of (T : Txt K mg) : FnOk P w K mg base CX0 7 (fA mg "determinant_of") (fDat K (fA mg "determinant_of")) ["matrix"] spDet := by
  have Gminus := ok_minus (P := P) (w := w) (base := base) T
  have Gtimes := ok_times (P := P) (w := w) (base := base) T
  refine T.determinant_of.F.ok scdeterminant_of (fun vs H Q E h => ?_) (fun cdv A outer s H vs Q E hr h => ?_)
  · obtain ⟨t, m, n, rfl, _⟩ := h
    rfl
  obtain ⟨t, m, n, rfl, hT, sm, hn, k⟩ := h
  refine ⟨_, (pss_cons (ps_asg (pv 0) (pg_tup rfl (pgs_cons (pg_name (i := 1) scdeterminant_of.nd rfl (Or.inl rfl)) (pgs_cons (pg_name (i := 2) scdeterminant_of.nd rfl (Or.inl rfl)) (pgs_cons (pg_name (i := 3) scdeterminant_of.nd rfl (Or.inl rfl)) (pgs_cons (pg_name (i := 4) scdeterminant_of.nd rfl (Or.inl rfl)) pgs_nil))))))
  (pss_one (ps_ret (pe_call Gminus (hr.mono (by decide)) (by rfl) T.minus.g T.minus.F.kp T.minus.b .nil passL (pa_cons (pe_call Gtimes (hr.mono (by decide)) (by rfl) T.times.g T.times.F.kp T.times.b .nil passL (pa_cons (pv 1) (pa_cons (pv 4) pa_nil))) (pa_cons (pe_call Gtimes (hr.mono (by decide)) (by rfl) T.times.g T.times.F.kp T.times.b .nil passL (pa_cons (pv 2) (pa_cons (pv 3) pa_nil))) pa_nil)))))), ?_⟩
  obtain ⟨w, x, y, z, e, l1, l2, l3, l4⟩ := tup4 hT
  have s1 := sm m.a (by simp [Mt.l])
  have s2 := sm m.b (by simp [Mt.l])
  have s3 := sm m.c (by simp [Mt.l])
  have s4 := sm m.d (by simp [Mt.l])
  refine q_asgG ((val_var rfl) _ (g_four (SqT.of e) (r_ret (call_1 (c_times (va_cons (val_var rfl) (va_cons (val_var rfl) va_nil)) (l1.rq s1 (by omega)) (l4.rq s4 (by omega)) fun p1 H1 r1 lo1 => va_1 (c_times (va_cons (val_var rfl) (va_cons (val_var rfl) va_nil)) ((l2.same r1).rq s2 (by omega)) ((l3.same r1).rq s3 (by omega)) fun p2 H2 r2 lo2 => ?_))))))
  exact cs_minus ((lo1.same r2).rq (s1.mul s4) (by omega)) (lo2.rq (s2.mul s3) (by omega)) fun p H3 s lo => k p H3 ((r1.trans r2).trans s) lo
def spSlope : Sp := fun vs H Q _ => ∃ (t u : Addr) (m : Mt) (f : Fm) (n : Nat), vs = [.ref t, .ref u] ∧ Tup H t m.l ∧ Tup H u f.l ∧ Sms n m.l ∧ Sms n f.l ∧ n ≤ 60 ∧ ∀ p H', L2.Same H H' → Tup H' p (slp m f).l → Q (.ref p) H'
theorem tup_x3 {t1 t2 t3 : TE} {σ : L2.St} {H : Hp} {Q : VK} (h : t1 σ H fun v H1 => t2 σ H1 fun w H2 => t3 σ H2 fun z H3 => 3 ≤ sizeLine ∧ ∀ q, H3 q = none → Q (.ref q) (upd H3 q (.tup [v, w, z]))) : tTup (tCons t1 (tCons t2 (tCons t3 tNil))) σ H Q := h
/-- an expression that gives a ratio, as long as some cells stay; one that gives it in lowest terms -/
def EL (te : TE) (σ : L2.St) (S : Hp) (n : Nat) (q : Rat) : Prop := Sm n q ∧ ∀ (H : Hp) (Q : VK), L2.Same S H → (∀ v H', L2.Same H H' → Rq H' v q → Q v H') → te σ H Q
def EC (te : TE) (σ : L2.St) (S : Hp) (n : Nat) (q : Rat) : Prop := Sm n q ∧ ∀ (H : Hp) (Q : VK), L2.Same S H → (∀ p H', L2.Same H H' → Lo H' p q → Q (.ref p) H') → te σ H Q
theorem EC.el {te : TE} {σ : L2.St} {S : Hp} {n : Nat} {q : Rat} (h : EC te σ S n q) (hn : n ≤ 1000) : EL te σ S n q := ⟨h.1, fun H Q sh k => h.2 H Q sh fun p H' s lo => k _ H' s (lo.rq h.1 hn)⟩
theorem el_var {σ : L2.St} {S : Hp} {i n : Nat} {p : Addr} {q : Rat} (h : σ[i]? = some (some (.ref p))) (l : Lo S p q) (s : Sm n q) (hn : n ≤ 1000) : EL (tVar i) σ S n q := ⟨s, fun H Q sh k => (val_var h) _ (k _ H (L2.Same.refl H) ((l.same sh).rq s hn))⟩
theorem el_two {σ : L2.St} {S : Hp} : EL (tC (.int 2)) σ S 3 2 := ⟨⟨by decide +kernel, by decide +kernel⟩, fun H Q sh k => val_c _ (k _ H (L2.Same.refl H) two_rq)⟩
section
variable {σ : L2.St} {S : Hp} {t1 t2 : TE} {E : XK} {n m : Nat} {q r : Rat}
theorem el_plus (h1 : EL t1 σ S n q) (h2 : EL t2 σ S m r) : EC (tCall (sp_plus mg) [] E (tCons t1 (tCons t2 tNil))) σ S (n + m + 1) (q + r) := ⟨h1.1.add h2.1, fun H Q sh k => call_1 (h1.2 H _ sh fun v H1 s1 r1 => va_1 (h2.2 H1 _ (sh.trans s1) fun u H2 s2 r2 => cs_plus (r1.same s2) r2 fun p H3 s3 lo => k _ H3 ((s1.trans s2).trans s3) lo))⟩
theorem el_minus (h1 : EL t1 σ S n q) (h2 : EL t2 σ S m r) : EC (tCall (sp_minus mg) [] E (tCons t1 (tCons t2 tNil))) σ S (n + m + 1) (q - r) := ⟨h1.1.sub h2.1, fun H Q sh k => call_1 (h1.2 H _ sh fun v H1 s1 r1 => va_1 (h2.2 H1 _ (sh.trans s1) fun u H2 s2 r2 => cs_minus (r1.same s2) r2 fun p H3 s3 lo => k _ H3 ((s1.trans s2).trans s3) lo))⟩
theorem el_times (h1 : EL t1 σ S n q) (h2 : EL t2 σ S m r) : EC (tCall (sp_times mg) [] E (tCons t1 (tCons t2 tNil))) σ S (n + m) (q * r) := ⟨h1.1.mul h2.1, fun H Q sh k => call_1 (h1.2 H _ sh fun v H1 s1 r1 => va_1 (h2.2 H1 _ (sh.trans s1) fun u H2 s2 r2 => cs_times (r1.same s2) r2 fun p H3 s3 lo => k _ H3 ((s1.trans s2).trans s3) lo))⟩
end
theorem ok_slope_of (T : Txt K mg) : FnOk P w K mg base CX0 7 (fA mg "slope_of") (fDat K (fA mg "slope_of")) ["matrix", "form"] spSlope := by
  have Gplus := ok_plus (P := P) (w := w) (base := base) T
  have Gtimes := ok_times (P := P) (w := w) (base := base) T
  refine T.slope_of.F.ok scslope_of (fun vs H Q E h => ?_) (fun cdv A outer s H vs Q E hr h => ?_)
  · obtain ⟨t, u, m, f, n, rfl, _⟩ := h
    rfl
  obtain ⟨t, u, m, f, n, rfl, hT, hU, sm, sf, hn, k⟩ := h
  refine ⟨_, (pss_cons (ps_asg (pv 0) (pg_tup rfl (pgs_cons (pg_name (i := 2) scslope_of.nd rfl (Or.inl rfl)) (pgs_cons (pg_name (i := 3) scslope_of.nd rfl (Or.inl rfl)) (pgs_cons (pg_name (i := 4) scslope_of.nd rfl (Or.inl rfl)) (pgs_cons (pg_name (i := 5) scslope_of.nd rfl (Or.inl rfl)) pgs_nil))))))
  (pss_cons (ps_asg (pv 1) (pg_tup rfl (pgs_cons (pg_name (i := 6) scslope_of.nd rfl (Or.inl rfl)) (pgs_cons (pg_name (i := 7) scslope_of.nd rfl (Or.inl rfl)) (pgs_cons (pg_name (i := 8) scslope_of.nd rfl (Or.inl rfl)) pgs_nil)))))
  (pss_one (ps_ret (pe_tup (pa_cons (pe_call Gtimes (hr.mono (by decide)) (by rfl) T.times.g T.times.F.kp T.times.b .nil passL (pa_cons pe_int (pa_cons (pe_call Gplus (hr.mono (by decide)) (by rfl) T.plus.g T.plus.F.kp T.plus.b .nil passL (pa_cons (pe_call Gtimes (hr.mono (by decide)) (by rfl) T.times.g T.times.F.kp T.times.b .nil passL (pa_cons (pv 6) (pa_cons (pv 2) pa_nil))) (pa_cons (pe_call Gtimes (hr.mono (by decide)) (by rfl) T.times.g T.times.F.kp T.times.b .nil passL (pa_cons (pv 7) (pa_cons (pv 4) pa_nil))) pa_nil))) pa_nil))) (pa_cons (pe_call Gplus (hr.mono (by decide)) (by rfl) T.plus.g T.plus.F.kp T.plus.b .nil passL (pa_cons (pe_call Gplus (hr.mono (by decide)) (by rfl) T.plus.g T.plus.F.kp T.plus.b .nil passL (pa_cons (pe_call Gtimes (hr.mono (by decide)) (by rfl) T.times.g T.times.F.kp T.times.b .nil passL (pa_cons (pv 6) (pa_cons (pv 3) pa_nil))) (pa_cons (pe_call Gtimes (hr.mono (by decide)) (by rfl) T.times.g T.times.F.kp T.times.b .nil passL (pa_cons (pv 7) (pa_cons (pe_call Gplus (hr.mono (by decide)) (by rfl) T.plus.g T.plus.F.kp T.plus.b .nil passL (pa_cons (pv 2) (pa_cons (pv 5) pa_nil))) pa_nil))) pa_nil))) (pa_cons (pe_call Gtimes (hr.mono (by decide)) (by rfl) T.times.g T.times.F.kp T.times.b .nil passL (pa_cons (pv 8) (pa_cons (pv 4) pa_nil))) pa_nil))) (pa_cons (pe_call Gtimes (hr.mono (by decide)) (by rfl) T.times.g T.times.F.kp T.times.b .nil passL (pa_cons pe_int (pa_cons (pe_call Gplus (hr.mono (by decide)) (by rfl) T.plus.g T.plus.F.kp T.plus.b .nil passL (pa_cons (pe_call Gtimes (hr.mono (by decide)) (by rfl) T.times.g T.times.F.kp T.times.b .nil passL (pa_cons (pv 7) (pa_cons (pv 3) pa_nil))) (pa_cons (pe_call Gtimes (hr.mono (by decide)) (by rfl) T.times.g T.times.F.kp T.times.b .nil passL (pa_cons (pv 8) (pa_cons (pv 5) pa_nil))) pa_nil))) pa_nil))) pa_nil)))))))), ?_⟩
  obtain ⟨w, x, y, z, e, l1, l2, l3, l4⟩ := tup4 hT
  obtain ⟨w', x', y', e', l1', l2', l3'⟩ := tup3 hU
  have n1 : n ≤ 1000 := by omega
  refine q_asgG ((val_var rfl) _ (g_four (SqT.of e) (q_asgG ((val_var rfl) _ (g_three (SqT.of e') ?_)))))
  have a := fun σ (h : σ[2]? = some (some (V.ref w))) => el_var (σ := σ) h l1 (sm m.a (by simp [Mt.l])) n1
  have b := fun σ (h : σ[3]? = some (some (V.ref x))) => el_var (σ := σ) h l2 (sm m.b (by simp [Mt.l])) n1
  have c := fun σ (h : σ[4]? = some (some (V.ref y))) => el_var (σ := σ) h l3 (sm m.c (by simp [Mt.l])) n1
  have d := fun σ (h : σ[5]? = some (some (V.ref z))) => el_var (σ := σ) h l4 (sm m.d (by simp [Mt.l])) n1
  have p := fun σ (h : σ[6]? = some (some (V.ref w'))) => el_var (σ := σ) h l1' (sf f.p (by simp [Fm.l])) n1
  have q := fun σ (h : σ[7]? = some (some (V.ref x'))) => el_var (σ := σ) h l2' (sf f.q (by simp [Fm.l])) n1
  have r := fun σ (h : σ[8]? = some (some (V.ref y'))) => el_var (σ := σ) h l3' (sf f.r (by simp [Fm.l])) n1
  refine r_ret (tup_x3 ((el_times el_two (EC.el (el_plus (EC.el (el_times (p _ rfl) (a _ rfl)) (by omega)) (EC.el (el_times (q _ rfl) (c _ rfl)) (by omega))) (by omega))).2 H _ (L2.Same.refl H) fun v1 H1 s1 k1 => ?_))
  refine (el_plus (EC.el (el_plus (EC.el (el_times (p _ rfl) (b _ rfl)) (by omega)) (EC.el (el_times (q _ rfl) (EC.el (el_plus (a _ rfl) (d _ rfl)) (by omega))) (by omega))) (by omega)) (EC.el (el_times (r _ rfl) (c _ rfl)) (by omega))).2 H1 _ s1 fun v2 H2 s2 k2 => ?_
  refine (el_times el_two (EC.el (el_plus (EC.el (el_times (q _ rfl) (b _ rfl)) (by omega)) (EC.el (el_times (r _ rfl) (d _ rfl)) (by omega))) (by omega))).2 H2 _ (s1.trans s2) fun v3 H3 s3 k3 => ⟨by show 3 ≤ sizeLine; decide, fun z hz => ?_⟩
  have s4 := Same.new' (o := .tup [.ref v1, .ref v2, .ref v3]) hz
  exact k z _ (((s1.trans s2).trans s3).trans s4) ⟨_, upd_same, .cons ⟨v1, rfl, ((k1.same s2).same s3).same s4⟩ (.cons ⟨v2, rfl, (k2.same s3).same s4⟩ (.cons ⟨v3, rfl, k3.same s4⟩ .nil))⟩
end
end LW

namespace LW
open PySem PySem.Spec PyProof.Rows L2 GL
section
variable {P : Program} {w : World} {K : PySem.W.Frag} {mg : Str → Option Value} {base : Heap}

/-! ### words of kinds -/
theorem t_op {r : L2.R2} {ta tb : TE} {σ : L2.St} {H : Hp} {K' : Bool → Hp → Prop} (h : ta σ H fun x H1 => tb σ H1 fun y H2 => r x y H2 fun z H3 => ∃ b, z = .bl b ∧ K' b H3) : tTest (tOp r ta tb) σ H K' := h
theorem op_in {r : L2.R2} {ta tb : TE} {σ : L2.St} {H : Hp} {Q : VK} (h : ta σ H fun x H1 => tb σ H1 fun y H2 => r x y H2 Q) : tOp r ta tb σ H Q := h
theorem q_un {t : TT} {t1 tz : TS} {D : Ends} {σ : L2.St} {H : Hp} (h : t σ H fun b H1 => if b = true then t1 { D with nx := tz D } σ H1 else tz D σ H1) : tSeq (tIfS t t1 tNext) tz D σ H := h
def way (m : Mt) : Str := if m.tr.num < 0 then "in" else "out"
def wordS (m : Mt) : Str := if m.det.num < 0 then "saddle" else if m.det.num > 0 then (if m.tr.num = 0 then "round" else (if (m.tr * m.tr).num * ((4 * m.det).den : Int) < (4 * m.det).num * ((m.tr * m.tr).den : Int) then "turning " else "straight ") ++ way m) else
  if m.tr.num ≠ 0 then "line " ++ way m else if m.l.any (fun q => q.num != 0) = true then "sliding" else "still"
theorem way_len (m : Mt) : (way m).length ≤ 10 := by
  unfold way
  split <;> decide +kernel
def spHeld : Sp := fun vs H Q _ => ∃ v, vs = [v] ∧ ((∃ n, Is H v n ∧ n ≠ "list" ∧ Q v H) ∨ ∃ (a : Addr) (xs : List V), v = .ref a ∧ H a = some (.lst xs) ∧ ∀ t, H t = none → Q (.ref t) (upd H t (.tup xs)))
theorem ok_held (T : Txt K mg) : FnOk P w K mg base CX0 1 (fA mg "held") (fDat K (fA mg "held")) ["value"] spHeld := by
  refine T.held.F.ok scheld (fun vs H Q E h => ?_) (fun cdv A outer s H vs Q E hr h => ?_)
  · obtain ⟨v, rfl, _⟩ := h
    rfl
  obtain ⟨v, rfl, h⟩ := h
  refine ⟨_, (pss_one (ps_ret (pe_ifExp (pt_val (pe_callB call_isi (by rfl) T.isinstance (by decide +kernel) (pa_cons (pv 0) (pa_cons (pe_bltn (v := .ty "list") (by rfl) T.list (by decide +kernel) rfl) pa_nil)))) (pe_callTy call_tuple_of (by rfl) T.tuple (by decide +kernel) (pa_cons (pv 0) pa_nil)) (pv 0)))), ?_⟩
  refine r_ret ?_
  rcases h with ⟨n, i, n1, k⟩ | ⟨a, xs, rfl, e, k⟩
  · obtain ⟨ty, hn⟩ := i.ty (K := K)
    refine (v_isi (val_var rfl) ty (kit_list hn)) _ ⟨_, rfl, ?_⟩
    rw [decide_eq_false n1]
    exact iteF ((val_var rfl) _ k)
  · obtain ⟨ty, hn⟩ := (Is.lst e).ty (K := K)
    refine (v_isi (val_var rfl) ty (kit_list hn)) _ ⟨_, rfl, iteT ?_⟩
    exact cb_one ((val_var rfl) _ ⟨a, xs, rfl, .inl ⟨SqL.of e, k⟩⟩)
def spWord : Sp := fun vs H Q _ => ∃ (t u v : Addr) (m : Mt) (n : Nat), vs = [.ref t, .ref u, .ref v] ∧ Tup H t m.l ∧ Lo H u m.tr ∧ Lo H v m.det ∧ Sms n m.l ∧ n ≤ 60 ∧ ∀ H', L2.Same H H' → Q (.str (wordS m)) H'
theorem tr_sm {m : Mt} {n : Nat} (h : Sms n m.l) : Sm (n + n + 1) m.tr := (h m.a (by simp [Mt.l])).add (h m.d (by simp [Mt.l]))
theorem det_sm {m : Mt} {n : Nat} (h : Sms n m.l) : Sm (n + n + (n + n) + 1) m.det := ((h m.a (by simp [Mt.l])).mul (h m.d (by simp [Mt.l]))).sub ((h m.b (by simp [Mt.l])).mul (h m.c (by simp [Mt.l])))
theorem el_four {σ : L2.St} {S : Hp} : EL (tC (.int 4)) σ S 3 4 := ⟨⟨by decide +kernel, by decide +kernel⟩, fun H Q sh k => val_c _ (k _ H (L2.Same.refl H) ⟨4, 1, .int 4, ⟨Nat.lt_of_lt_of_le (show 4 < 2 ^ 3 by decide) (Nat.pow_le_pow_right (by decide) (by decide)), Nat.one_lt_two_pow (by decide)⟩, by decide +kernel⟩)⟩
theorem ok_word (T : Txt K mg) : FnOk P w K mg base CX0 7 (fA mg "_word") (fDat K (fA mg "_word")) ["matrix", "trace", "determinant"] spWord := by
  have Glower := ok_lower (P := P) (w := w) (base := base) T
  have Gtimes := ok_times (P := P) (w := w) (base := base) T
  refine T._word.F.ok sc_word (fun vs H Q E h => ?_) (fun cdv A outer s H vs Q E hr h => ?_)
  · obtain ⟨t, u, v, m, n, rfl, _⟩ := h
    rfl
  obtain ⟨t, u, v, m, n, rfl, hT, hU, hV, sm, hn, k⟩ := h
  refine ⟨_, (pss_cons (ps_if (pt_cmpR op_lt (pe_ix ix_tup (pv 2) pe_int (fun _ _ => rfl)) pe_int (nomark _)) (pss_one (ps_ret pe_str)) pss_nil)
  (pss_cons (ps_set (i := 3) sc_word.nd rfl (Or.inl rfl) (pe_ifExp (pt_cmpR op_lt (pe_ix ix_tup (pv 1) pe_int (fun _ _ => rfl)) pe_int (nomark _)) pe_str pe_str))
  (pss_cons (ps_if (pt_cmpR op_gt (pe_ix ix_tup (pv 2) pe_int (fun _ _ => rfl)) pe_int (nomark _)) (pss_cons (ps_if (pt_cmpR op_eq (pe_ix ix_tup (pv 1) pe_int (fun _ _ => rfl)) pe_int (nomark _)) (pss_one (ps_ret pe_str)) pss_nil)
  (pss_one (ps_ret (pe_op op_add_str (pe_ifExp (pt_val (pe_call Glower (hr.mono (by decide)) (by rfl) T.lower.g T.lower.F.kp T.lower.b .nil passL (pa_cons (pe_call Gtimes (hr.mono (by decide)) (by rfl) T.times.g T.times.F.kp T.times.b .nil passL (pa_cons (pv 1) (pa_cons (pv 1) pa_nil))) (pa_cons (pe_call Gtimes (hr.mono (by decide)) (by rfl) T.times.g T.times.F.kp T.times.b .nil passL (pa_cons pe_int (pa_cons (pv 2) pa_nil))) pa_nil)))) pe_str pe_str) (pv 3))))) pss_nil)
  (pss_cons (ps_if (pt_cmpR op_ne (pe_ix ix_tup (pv 1) pe_int (fun _ _ => rfl)) pe_int (nomark _)) (pss_one (ps_ret (pe_op op_add_str pe_str (pv 3)))) pss_nil)
  (pss_one (ps_ret (pe_ifExp (pt_val (pe_callB (cr_anyI rfl) (by rfl) T.any (by decide +kernel) (pa_cons (pe_lc (own := [("top", 4), ("_", 5)]) (g := gTup K 2 (gCons (gName 4) (gCons (gName 5) gNil))) (tt := tYes) (by rfl) sc_word.nd (pi_tup (pv 0)) (blkOk_by (own := [("top", 4), ("_", 5)]) (N := ["matrix", "trace", "determinant", "way", "top", "_"]) (sc := defScope s_word) (by decide +kernel)) (fun _ _ _ _ _ => pg_tup rfl (pgs_cons (pg_name (i := 4) sc_word.nd rfl (Or.inl rfl)) (pgs_cons (pg_name (i := 5) sc_word.nd rfl (Or.inl rfl)) pgs_nil))) (fun _ _ _ _ _ => pts_nil) (fun _ _ _ _ _ => (pv 4))) pa_nil))) pe_str pe_str))))))), ?_⟩
  unfold wordS at k
  have S0 := L2.Same.refl H
  have hu : ∀ {σ : L2.St}, σ[1]? = some (some (V.ref u)) → Val (tOp (rIxT K) (tVar 1) (tC (.int 0))) σ H (.int m.tr.num) := fun e => v_ixT (n := 0) (val_var e) val_c (SqT.of hU) rfl
  have hv : ∀ {σ : L2.St}, σ[2]? = some (some (V.ref v)) → Val (tOp (rIxT K) (tVar 2) (tC (.int 0))) σ H (.int m.det.num) := fun e => v_ixT (n := 0) (val_var e) val_c (SqT.of hV) rfl
  refine q_un (t_op ((hv rfl) _ (val_c _ ⟨_, _, rfl, rfl, _, rfl, ?_⟩)))
  by_cases d1 : m.det.num < 0
  · rw [if_pos (decide_eq_true d1)]
    rw [if_pos d1] at k
    exact r_ret (val_c _ (k H S0))
  rw [if_neg (by rw [decide_eq_false d1]; decide)]
  rw [if_neg d1] at k
  refine q_asg ((v_tif (b := decide (m.tr.num < 0)) (z := .str (way m)) (fun Q q => t_op ((hu rfl) _ (val_c _ ⟨_, _, rfl, rfl, _, rfl, q⟩))) (by
    unfold way
    by_cases w1 : m.tr.num < 0
    · rw [if_pos (decide_eq_true w1), if_pos w1]
    · rw [if_neg (by rw [decide_eq_false w1]; decide), if_neg w1])) _ ?_)
  refine q_un (t_op ((hv rfl) _ (val_c _ ⟨_, _, rfl, rfl, _, rfl, ?_⟩)))
  by_cases d2 : m.det.num > 0
  · rw [if_pos (decide_eq_true d2)]
    rw [if_pos d2] at k
    refine q_un (t_op ((hu rfl) _ (val_c _ ⟨rfl, _, rfl, ?_⟩)))
    by_cases w0 : m.tr.num = 0
    · rw [if_pos (decide_eq_true (by rw [w0]))]
      rw [if_pos w0] at k
      exact r_ret (val_c _ (k H S0))
    rw [if_neg (by rw [decide_eq_false (fun z => w0 (V.int.inj z))]; decide)]
    rw [if_neg w0] at k
    have st := tr_sm sm
    have sd := det_sm sm
    have tr := fun σ (h : σ[1]? = some (some (V.ref u))) => el_var (σ := σ) h hU st (by omega)
    have dt := fun σ (h : σ[2]? = some (some (V.ref v))) => el_var (σ := σ) h hV sd (by omega)
    have t2 := fun σ h => el_times (mg := mg) (E := E0) (tr σ h) (tr σ h)
    have f4 := fun σ h => el_times (mg := mg) (E := E0) (el_four (S := H)) (dt σ h)
    refine r_ret (op_in ?_)
    refine (show tB _ _ _ _ from call_1 ((t2 _ rfl).2 H _ S0 fun p1 H1 s1 lo1 => va_1 ((f4 _ rfl).2 H1 _ s1 fun p2 H2 s2 lo2 => ⟨_, _, rfl, .inl ⟨_, _, _, _, (lo1.same s2).rt, lo2.rt, (st.mul st).fit (by omega), ((el_four (σ := []) (S := H)).1.mul sd).fit (by omega), fun H3 s3 => ⟨_, rfl, ?_⟩⟩⟩)))
    have kk := k H3 ((s1.trans s2).trans s3)
    have wl := way_len m
    by_cases lw : (m.tr * m.tr).num * ((4 * m.det).den : Int) < (4 * m.det).num * ((m.tr * m.tr).den : Int)
    · rw [if_pos lw] at kk
      rw [decide_eq_true lw]
      exact iteT <| val_c _ ((val_var rfl) _ ⟨_, _, rfl, rfl, Nat.le_trans (m := 100) (by show 8 + (way m).length ≤ 100; omega) (by decide), kk⟩)
    · rw [if_neg lw] at kk
      rw [decide_eq_false lw]
      exact iteF <| val_c _ ((val_var rfl) _ ⟨_, _, rfl, rfl, Nat.le_trans (m := 100) (by show 9 + (way m).length ≤ 100; omega) (by decide), kk⟩)
  · rw [if_neg (by rw [decide_eq_false d2]; decide)]
    rw [if_neg d2] at k
    refine q_un (t_op ((hu rfl) _ (val_c _ ⟨rfl, _, rfl, ?_⟩)))
    by_cases w0 : m.tr.num = 0
    · rw [if_neg (by rw [decide_eq_true (by rw [w0])]; decide)]
      rw [if_neg (fun z => z w0)] at k
      obtain ⟨w, x, y, z, e, l1, l2, l3, l4⟩ := tup4 hT
      refine r_ret (show tB _ _ _ _ from cb_one ?_)
      have al : All2 (fun v q => ∃ p, v = V.ref p ∧ Lo H p q) [.ref w, .ref x, .ref y, .ref z] m.l := .cons ⟨w, rfl, l1⟩ (.cons ⟨x, rfl, l2⟩ (.cons ⟨y, rfl, l3⟩ (.cons ⟨z, rfl, l4⟩ .nil)))
      refine l_lcT (K := K) (R := fun i v _ => ∃ b, (m.l.map (·.num))[i]? = some b ∧ v = V.int b) (fun _ _ _ _ _ h => h) (fun _ _ _ _ _ _ h _ => h) (val_var rfl) (SqT.of e) (by show 4 ≤ 10000; decide) (fun i v H3 hv s3 => ?_) (fun l2 ns H3 s3 e3 r3 => ?_)
      · obtain ⟨q, hq, p, rfl, lo⟩ := al.get hv
        exact turn_two (SqT.of (lo.same s3)) rfl (em_val (val_var rfl) ⟨_, by rw [List.getElem?_map, hq]; rfl, rfl⟩)
      have en := rows_map r3 rfl
      rw [en] at e3
      refine ⟨l2, m.l.map (·.num), rfl, SqL.of e3, _, rfl, ?_⟩
      have ea : (m.l.map (·.num)).any (· != 0) = m.l.any (fun q => q.num != 0) := by rw [List.any_map]; rfl
      rw [ea]
      have kk := k H3 s3
      cases hb : m.l.any (fun q => q.num != 0) with
      | true =>
        rw [hb, if_pos rfl] at kk
        exact iteT (val_c _ kk)
      | false =>
        rw [hb, if_neg (by decide)] at kk
        exact iteF (val_c _ kk)
    · rw [if_pos (by rw [decide_eq_false (fun z => w0 (V.int.inj z))]; rfl)]
      rw [if_pos w0] at k
      exact r_ret (op_in (val_c _ ((val_var rfl) _ ⟨_, _, rfl, rfl, Nat.le_trans (m := 100) (by have := way_len m; show 5 + (way m).length ≤ 100; omega) (by decide), k H S0⟩)))
end
end LW

namespace LW
open PySem PySem.Spec PyProof.Rows L2 GL
section
variable {P : Program} {w : World} {K : PySem.W.Frag} {mg : Str → Option Value} {base : Heap}

/-! ### the class Kind -/
def mA (K : PySem.W.Frag) (C : Addr) (m : Str) : Addr := match PySem.W.findIn K (.ref C) m with
  | some (some (.ref f)) => f
  | _ => 0
theorem mA_of {K : PySem.W.Frag} {C f : Addr} {m : Str} (h : PySem.W.findIn K (.ref C) m = some (some (.ref f))) : mA K C m = f := by
  unfold mA
  rw [h]
/-- a def of the class -/
structure Me (K : PySem.W.Frag) (C : Addr) (m qual : Str) (st : Stmt) (ps : List Str) : Prop where
  at_ : PySem.W.findIn K (.ref C) m = some (some (.ref (mA K C m)))
  fn : PySem.W.isFn K (.ref (mA K C m)) = true
  F : Fun K m qual st (mA K C m) (fDat K (mA K C m))
  b : L2.Binds K (fDat K (mA K C m)) ps []

abbrev kiA (mg : Str → Option Value) : Addr := fA mg "Kind"
structure KindT (K : PySem.W.Frag) (mg : Str → Option Value) : Prop where
  g : mg "Kind" = some (.ref (kiA mg))
  cls : Cls K (kiA mg)
  mkc : Mk K (kiA mg) (mA K (kiA mg) "__init__")
  no1 : NoAttr K (kiA mg) "trace"
  no2 : NoAttr K (kiA mg) "determinant"
  no3 : NoAttr K (kiA mg) "word"
  m_init : Me K (kiA mg) "__init__" "Kind.__init__" (inClass (top 27) 0) ["self", "trace", "determinant", "word"]
abbrev sKind_init : Stmt := (inClass (top 27) 0)
theorem scKind_init : FnScope ["self", "trace", "determinant", "word"] ["self", "trace", "determinant", "word"] (defScope sKind_init) := ⟨rfl, rfl, rfl, by decide +kernel, rfl, by decide +kernel, by decide +kernel⟩

/-- a value that is kept as it is, or a list that is kept as a tuple -/
def HvT (H : Hp) (v : V) : Option (List V) → Prop
  | none => ∃ n, Is H v n ∧ n ≠ "list"
  | some xs => ∃ b, v = .ref b ∧ H b = some (.lst xs)
def HldT (H' : Hp) (v u : V) : Option (List V) → Prop
  | none => u = v
  | some xs => ∃ t, u = .ref t ∧ H' t = some (.tup xs)
def Kp (a : Addr) (H H' : Hp) : Prop := ∀ b o, H b = some o → b ≠ a → H' b = some o
theorem Kp.of {a : Addr} {H H' : Hp} (s : L2.Same H H') : Kp a H H' := fun b o e _ => s b o e
theorem Kp.trans {a : Addr} {H H1 H2 : Hp} (x : Kp a H H1) (y : Kp a H1 H2) : Kp a H H2 := fun b o e n => y b o (x b o e n) n
theorem Kp.updA {a : Addr} {H : Hp} {o : HO} : Kp a H (_root_.L2.upd H a o) := fun b u e n => by rw [upd_ne n]; exact e
theorem Is.kp {H H' : Hp} {v : V} {n : String} {a C dx : Addr} {fs : List (Str × V)} (h : Is H v n) (ha : H a = some (.ins C dx fs)) (k : Kp a H H') : Is H' v n := by
  cases h with
  | int i => exact .int i
  | bl b => exact .bl b
  | str x => exact .str x
  | non => exact .non
  | lst e => exact .lst (k _ _ e (ne_of e ha (by intro z; cases z)))
  | tup e => exact .tup (k _ _ e (ne_of e ha (by intro z; cases z)))
  | dic e => exact .dic (k _ _ e (ne_of e ha (by intro z; cases z)))
theorem HvT.kp {H H' : Hp} {v : V} {o : Option (List V)} {a C dx : Addr} {fs : List (Str × V)} (h : HvT H v o) (ha : H a = some (.ins C dx fs)) (k : Kp a H H') : HvT H' v o := by
  cases o with
  | none =>
    obtain ⟨n, i, e⟩ := h
    exact ⟨n, i.kp ha k, e⟩
  | some xs =>
    obtain ⟨b, e, z⟩ := h
    exact ⟨b, e, k _ _ z (ne_of z ha (by intro y; cases y))⟩
theorem HldT.kp {H H' : Hp} {v u : V} {o : Option (List V)} {a C dx : Addr} {fs : List (Str × V)} (h : HldT H v u o) (ha : H a = some (.ins C dx fs)) (k : Kp a H H') : HldT H' v u o := by
  cases o with
  | none => exact h
  | some xs =>
    obtain ⟨b, e, z⟩ := h
    exact ⟨b, e, k _ _ z (ne_of z ha (by intro y; cases y))⟩
theorem c_held {H : Hp} {ta : TA} {σ : L2.St} {v : V} {o : Option (List V)} {Q : VK} {E : XK} (h : VA ta σ H [v]) (hv : HvT H v o) (k : ∀ u H', L2.Same H H' → HldT H' v u o → Q u H') : tCall spHeld [] E ta σ H Q := by
  cases o with
  | none =>
    obtain ⟨n, i, e⟩ := hv
    exact c_call h ⟨v, rfl, .inl ⟨n, i, e, k v H (L2.Same.refl H) rfl⟩⟩
  | some xs =>
    obtain ⟨b, rfl, e⟩ := hv
    exact c_call h ⟨.ref b, rfl, .inr ⟨b, xs, rfl, e, fun t ht => k _ _ (Same.new' ht) ⟨t, rfl, upd_same⟩⟩⟩
def KiAt (mg : Str → Option Value) (H : Hp) (a : Addr) (t d w : V) : Prop := ∃ dx, H a = some (.ins (kiA mg) dx [("trace", t), ("determinant", d), ("word", w)])
def spKInit (mg : Str → Option Value) : Sp := fun vs H Q _ => ∃ (a dx : Addr) (t d w : V) (o1 o2 o3 : Option (List V)), vs = [.ref a, t, d, w] ∧ H a = some (.ins (kiA mg) dx []) ∧ HvT H t o1 ∧ HvT H d o2 ∧ HvT H w o3 ∧
  ∀ t' d' w' H', Kp a H H' → HldT H' t t' o1 → HldT H' d d' o2 → HldT H' w w' o3 → KiAt mg H' a t' d' w' → Q .non H'
theorem ok_Kind_init (T : Txt K mg) (TK : KindT K mg) : FnOk P w K mg base CX0 2 (mA K (kiA mg) "__init__") (fDat K (mA K (kiA mg) "__init__")) ["self", "trace", "determinant", "word"] (spKInit mg) := by
  have Gheld := ok_held (P := P) (w := w) (base := base) T
  refine TK.m_init.F.ok scKind_init (fun vs H Q E h => ?_) (fun cdv A outer s H vs Q E hr h => ?_)
  · obtain ⟨a, dx, t, d, w, o1, o2, o3, rfl, _⟩ := h
    rfl
  obtain ⟨a, dx, t, d, w, o1, o2, o3, rfl, ha, h1, h2, h3, k⟩ := h
  refine ⟨_, (pss_cons (ps_fld (pv 0) (pe_c T.held Gheld (hr.mono (by decide)) (pa_cons (pv 1) pa_nil)) (by rfl))
  (pss_cons (ps_fld (pv 0) (pe_c T.held Gheld (hr.mono (by decide)) (pa_cons (pv 2) pa_nil)) (by rfl))
  (pss_one (ps_fld (pv 0) (pe_c T.held Gheld (hr.mono (by decide)) (pa_cons (pv 3) pa_nil)) (by rfl))))), ?_⟩
  refine (show tCall _ _ _ _ _ _ _ from c_held (va_cons (val_var rfl) va_nil) h1 fun u1 H1 s1 l1 => (val_var rfl) _ ⟨a, kiA mg, dx, [], rfl, s1 _ _ ha, TK.cls, TK.no1, by show 0 < 1000; decide, ?_⟩)
  have k1 : Kp a H (upd H1 a (.ins (kiA mg) dx [("trace", u1)])) := (Kp.of s1).trans Kp.updA
  have a1 := upd_same (H := H1) (a := a) (o := .ins (kiA mg) dx [("trace", u1)])
  have l1 := l1.kp (s1 _ _ ha) (Kp.updA (o := .ins (kiA mg) dx [("trace", u1)]))
  refine (show tCall _ _ _ _ _ _ _ from c_held (va_cons (val_var rfl) va_nil) (h2.kp ha k1) fun u2 H2 s2 l2 => (val_var rfl) _ ⟨a, kiA mg, dx, _, rfl, s2 _ _ a1, TK.cls, TK.no2, by show 1 < 1000; decide, ?_⟩)
  have p2 : putF "determinant" u2 ([("trace", u1)] : List (Str × V)) = ([("trace", u1), ("determinant", u2)] : List (Str × V)) := by
    unfold putF
    rw [if_neg (by decide +kernel)]
    rfl
  rw [p2]
  have k2 : Kp a H (upd H2 a (.ins (kiA mg) dx [("trace", u1), ("determinant", u2)])) := (k1.trans (Kp.of s2)).trans Kp.updA
  have a2 := upd_same (H := H2) (a := a) (o := .ins (kiA mg) dx [("trace", u1), ("determinant", u2)])
  have l1 := (l1.kp a1 (Kp.of s2)).kp (s2 _ _ a1) (Kp.updA (o := .ins (kiA mg) dx [("trace", u1), ("determinant", u2)]))
  have l2 := l2.kp (s2 _ _ a1) (Kp.updA (o := .ins (kiA mg) dx [("trace", u1), ("determinant", u2)]))
  refine (show tCall _ _ _ _ _ _ _ from c_held (va_cons (val_var rfl) va_nil) (h3.kp ha k2) fun u3 H3 s3 l3 => (val_var rfl) _ ⟨a, kiA mg, dx, _, rfl, s3 _ _ a2, TK.cls, TK.no3, by show 2 < 1000; decide, ?_⟩)
  have p3 : putF "word" u3 ([("trace", u1), ("determinant", u2)] : List (Str × V)) = ([("trace", u1), ("determinant", u2), ("word", u3)] : List (Str × V)) := by
    unfold putF
    rw [if_neg (by decide +kernel)]
    unfold putF
    rw [if_neg (by decide +kernel)]
    rfl
  rw [p3]
  exact k u1 u2 u3 _ ((k2.trans (Kp.of s3)).trans Kp.updA) ((l1.kp a2 (Kp.of s3)).kp (s3 _ _ a2) Kp.updA) ((l2.kp a2 (Kp.of s3)).kp (s3 _ _ a2) Kp.updA) (l3.kp (s3 _ _ a2) Kp.updA) ⟨dx, upd_same⟩
/-! ### kind, slope_of_form -/
theorem q_par {ta : TA} {tz : TS} {D : Ends} {σ : L2.St} {H : Hp} {i j : Nat} (h : ta σ H fun vs H1 => ∃ v w, vs = [v, w] ∧ tz D ((σ.set i (some v)).set j (some w)) H1) : tSeq (tPar i j ta) tz D σ H := h
def BadRw (mg : Str → Option Value) (H : Hp) (v : V) (E : XK) : Prop := ∀ (d : Addr) (H' : Hp), L2.Same H H' → H d = none → H' d = some (.xd [("row", v)]) → E (.ref (fA mg "BadRow")) (some d) H'
theorem made_kind {H1 : Hp} {t d w : V} {o1 o2 o3 : Option (List V)} {Q : VK} {E : XK} (h1 : HvT H1 t o1) (h2 : HvT H1 d o2) (h3 : HvT H1 w o3) (k : ∀ a t' d' w' H', L2.Same H1 H' → HldT H' t t' o1 → HldT H' d d' o2 → HldT H' w w' o3 → KiAt mg H' a t' d' w' → Q (.ref a) H') :
    ∀ x dx, H1 x = none → H1 dx = none → dx ≠ x → spKInit mg (.ref x :: ([t, d, w] ++ [])) (upd (upd H1 dx (.own x)) x (.ins (kiA mg) dx [])) (fun v H2 => v = .non ∧ Q (.ref x) H2) E := fun x dx hx hdx ne => by
  have S : L2.Same H1 (upd (upd H1 dx (.own x)) x (.ins (kiA mg) dx [])) := fun b o e => by
    rw [upd_ne (ne_of_none e hx), upd_ne (ne_of_none e hdx)]
    exact e
  have hv : ∀ {v : V} {o : Option (List V)}, HvT H1 v o → HvT (upd (upd H1 dx (.own x)) x (.ins (kiA mg) dx [])) v o := fun {v o} h => by
    cases o with
    | none => exact h.imp fun n i => ⟨i.1.same S, i.2⟩
    | some xs => exact h.imp fun b z => ⟨z.1, S _ _ z.2⟩
  exact ⟨x, dx, t, d, w, o1, o2, o3, rfl, upd_same, hv h1, hv h2, hv h3, fun t' d' w' H' keep l1 l2 l3 ki => ⟨rfl, k x t' d' w' H' (fun b o z => keep _ _ (S _ _ z) (ne_of_none z hx)) l1 l2 l3 ki⟩⟩
def spKind (mg : Str → Option Value) : Sp := fun vs H Q E => ∃ v, vs = [v] ∧ ((RwQ H 4 v false ∧ BadRw mg H v E) ∨ ∃ (m : Mt) (n : Nat), RwR H v m.l ∧ Sms n m.l ∧ n ≤ 60 ∧ ∀ k t d H', L2.Same H H' → KiAt mg H' k (.ref t) (.ref d) (.str (wordS m)) → Lo H' t m.tr → Lo H' d m.det → Q (.ref k) H')
theorem ok_kind (T : Txt K mg) (TK : KindT K mg) : FnOk P w K mg base (L2.CX P w) 10 (fA mg "kind") (fDat K (fA mg "kind")) ["matrix"] (spKind mg) := by
  have Grow_of := ok_row_of (P := P) (w := w) (base := base) T
  have Gtrace_of := ok_trace_of (P := P) (w := w) (base := base) T
  have Gdeterminant_of := ok_determinant_of (P := P) (w := w) (base := base) T
  have G_word := ok_word (P := P) (w := w) (base := base) T
  have GKind_init := ok_Kind_init (P := P) (w := w) (base := base) T TK
  have Gi_BadRow := init_BadRow (P := P) (w := w) (base := base) T
  refine T.kind.F.okX sckind (fun vs H Q E h => ?_) (fun cdv A outer s H vs Q E hr h => ?_)
  · obtain ⟨v, rfl, _⟩ := h
    rfl
  obtain ⟨v, rfl, h⟩ := h
  refine ⟨_, (pss_cons (ps_set (i := 1) sckind.nd rfl (Or.inl rfl) (pe_c T.row_of Grow_of (hr.mono (by decide)) (pa_cons (pv 0) (pa_cons pe_int pa_nil))))
  (pss_cons (ps_if (pt_cmpR op_isN (pv 1) pe_non (nomark _)) (pss_one (ps_raise rfl (takes_of rfl rfl rfl rfl) (pmk_oex T.BadRow.o T.BadRow.i T.BadRow.t Gi_BadRow (hr.mono (by decide)) T.BadRow.b .nil pass0 (by rfl) T.BadRow.g (pa_cons (pv 0) pa_nil)))) pss_nil)
  (pss_cons (ps_par (i := 2) (j := 3) (by rfl) sckind.nd rfl rfl (by decide) rfl rfl (pa_cons (pe_c T.trace_of Gtrace_of (hr.mono (by decide)) (pa_cons (pv 1) pa_nil)) (pa_cons (pe_c T.determinant_of Gdeterminant_of (hr.mono (by decide)) (pa_cons (pv 1) pa_nil)) pa_nil)) (by rfl))
  (pss_one (ps_ret (pe_make TK.mkc GKind_init (hr.mono (by decide)) (by rfl) TK.g TK.m_init.b .nil pass0 (pa_cons (pv 2) (pa_cons (pv 3) (pa_cons (pe_c T._word G_word (hr.mono (by decide)) (pa_cons (pv 1) (pa_cons (pv 2) (pa_cons (pv 3) pa_nil)))) pa_nil))))))))), ?_⟩
  rcases h with ⟨rq, bad⟩ | ⟨m, n, rr, sm, hn, k⟩
  · refine q_asg (c_call (va_cons (val_var rfl) (va_cons val_c va_nil)) ⟨v, 4, rfl, by decide, .inl ⟨rq, fun H1 s1 => ?_⟩⟩)
    exact q_when (b := true) (ans_isN (val_var rfl) rfl) (fun _ => x_made1 (va_cons (val_var rfl) va_nil) fun d H' s n e => bad d H' (s1.trans s) (s1.free n) e) (fun z => nomatch z)
  · refine q_asg (c_call (va_cons (val_var rfl) (va_cons val_c va_nil)) ⟨v, 4, rfl, by decide, .inr ⟨m.l, rr, rfl, fun t H1 s1 tp => ?_⟩⟩)
    refine q_when (b := false) (ans_isN (val_var rfl) rfl) (fun z => nomatch z) (fun _ => ?_)
    refine q_par (ta_two (c_call (va_cons (val_var rfl) va_nil) ⟨t, m, n, rfl, tp, sm, hn, fun p2 H2 s2 lo2 => ?_⟩))
    refine c_call (va_cons (val_var rfl) va_nil) ⟨t, m, n, rfl, tp.same s2, sm, hn, fun p3 H3 s3 lo3 => ⟨_, _, rfl, ?_⟩⟩
    refine r_ret (te := tMake _ _ _ _ _) (va_x ((val_var rfl) _ (va_x ((val_var rfl) _ (va_1 (c_call (va_cons (val_var rfl) (va_cons (val_var rfl) (va_cons (val_var rfl) va_nil))) ⟨t, p2, p3, m, n, rfl, (tp.same s2).same s3, lo2.same s3, lo3, sm, hn, fun H4 s4 => ?_⟩))))))
    refine made_kind (o1 := none) (o2 := none) (o3 := none) ⟨_, .tup ((lo2.same s3).same s4), by decide⟩ ⟨_, .tup (lo3.same s4), by decide⟩ ⟨_, .str _, by decide⟩ fun a t' d' w' H5 s5 e1 e2 e3 ki => ?_
    cases e1
    cases e2
    cases e3
    exact k a p2 p3 H5 ((((s1.trans s2).trans s3).trans s4).trans s5) ki (((lo2.same s3).same s4).same s5) ((lo3.same s4).same s5)
def spSlF (mg : Str → Option Value) : Sp := fun vs H Q E => ∃ v u, vs = [v, u] ∧ ((RwQ H 4 v false ∧ (RwQ H 3 u false ∨ ∃ f : Fm, RwR H u f.l) ∧ BadRw mg H v E) ∨ ∃ (m : Mt), RwR H v m.l ∧ ((RwQ H 3 u false ∧ BadRw mg H u E) ∨
  ∃ (f : Fm) (n : Nat), RwR H u f.l ∧ Sms n m.l ∧ Sms n f.l ∧ n ≤ 60 ∧ ∀ p H', L2.Same H H' → Tup H' p (slp m f).l → Q (.ref p) H'))
theorem ok_slope_of_form (T : Txt K mg) : FnOk P w K mg base (L2.CX P w) 10 (fA mg "slope_of_form") (fDat K (fA mg "slope_of_form")) ["matrix", "form"] (spSlF mg) := by
  have Grow_of := ok_row_of (P := P) (w := w) (base := base) T
  have Gslope_of := ok_slope_of (P := P) (w := w) (base := base) T
  have Gi_BadRow := init_BadRow (P := P) (w := w) (base := base) T
  refine T.slope_of_form.F.okX scslope_of_form (fun vs H Q E h => ?_) (fun cdv A outer s H vs Q E hr h => ?_)
  · obtain ⟨v, u, rfl, _⟩ := h
    rfl
  obtain ⟨v, u, rfl, h⟩ := h
  refine ⟨_, (pss_cons (ps_par (i := 2) (j := 3) (by rfl) scslope_of_form.nd rfl rfl (by decide) rfl rfl (pa_cons (pe_c T.row_of Grow_of (hr.mono (by decide)) (pa_cons (pv 0) (pa_cons pe_int pa_nil))) (pa_cons (pe_c T.row_of Grow_of (hr.mono (by decide)) (pa_cons (pv 1) (pa_cons pe_int pa_nil))) pa_nil)) (by rfl))
  (pss_cons (ps_if (pt_cmpR op_isN (pv 2) pe_non (nomark _)) (pss_one (ps_raise rfl (takes_of rfl rfl rfl rfl) (pmk_oex T.BadRow.o T.BadRow.i T.BadRow.t Gi_BadRow (hr.mono (by decide)) T.BadRow.b .nil pass0 (by rfl) T.BadRow.g (pa_cons (pv 0) pa_nil)))) pss_nil)
  (pss_cons (ps_if (pt_cmpR op_isN (pv 3) pe_non (nomark _)) (pss_one (ps_raise rfl (takes_of rfl rfl rfl rfl) (pmk_oex T.BadRow.o T.BadRow.i T.BadRow.t Gi_BadRow (hr.mono (by decide)) T.BadRow.b .nil pass0 (by rfl) T.BadRow.g (pa_cons (pv 1) pa_nil)))) pss_nil)
  (pss_one (ps_ret (pe_c T.slope_of Gslope_of (hr.mono (by decide)) (pa_cons (pv 2) (pa_cons (pv 3) pa_nil)))))))), ?_⟩
  rcases h with ⟨rq, ru, bad⟩ | ⟨m, rr, h⟩
  · refine q_par (ta_two (c_call (va_cons (val_var rfl) (va_cons val_c va_nil)) ⟨v, 4, rfl, by decide, .inl ⟨rq, fun H1 s1 => ?_⟩⟩))
    rcases ru with ru | ⟨f, rf⟩
    · refine c_call (va_cons (val_var rfl) (va_cons val_c va_nil)) ⟨u, 3, rfl, by decide, .inl ⟨ru.same s1, fun H2 s2 => ⟨_, _, rfl, ?_⟩⟩⟩
      exact q_when (b := true) (ans_isN (val_var rfl) rfl) (fun _ => x_made1 (va_cons (val_var rfl) va_nil) fun d H' s n e => bad d H' ((s1.trans s2).trans s) ((s1.trans s2).free n) e) (fun z => nomatch z)
    · refine c_call (va_cons (val_var rfl) (va_cons val_c va_nil)) ⟨u, 3, rfl, by decide, .inr ⟨f.l, rf.same s1, rfl, fun t H2 s2 tp => ⟨_, _, rfl, ?_⟩⟩⟩
      exact q_when (b := true) (ans_isN (val_var rfl) rfl) (fun _ => x_made1 (va_cons (val_var rfl) va_nil) fun d H' s n e => bad d H' ((s1.trans s2).trans s) ((s1.trans s2).free n) e) (fun z => nomatch z)
  · refine q_par (ta_two (c_call (va_cons (val_var rfl) (va_cons val_c va_nil)) ⟨v, 4, rfl, by decide, .inr ⟨m.l, rr, rfl, fun t H1 s1 tp => ?_⟩⟩))
    rcases h with ⟨ru, bad⟩ | ⟨f, n, rf, sm, sf, hn, k⟩
    · refine c_call (va_cons (val_var rfl) (va_cons val_c va_nil)) ⟨u, 3, rfl, by decide, .inl ⟨ru.same s1, fun H2 s2 => ⟨_, _, rfl, ?_⟩⟩⟩
      refine q_when (b := false) (ans_isN (val_var rfl) rfl) (fun z => nomatch z) (fun _ => ?_)
      exact q_when (b := true) (ans_isN (val_var rfl) rfl) (fun _ => x_made1 (va_cons (val_var rfl) va_nil) fun d H' s n e => bad d H' ((s1.trans s2).trans s) ((s1.trans s2).free n) e) (fun z => nomatch z)
    · refine c_call (va_cons (val_var rfl) (va_cons val_c va_nil)) ⟨u, 3, rfl, by decide, .inr ⟨f.l, rf.same s1, rfl, fun t2 H2 s2 tp2 => ⟨_, _, rfl, ?_⟩⟩⟩
      refine q_when (b := false) (ans_isN (val_var rfl) rfl) (fun z => nomatch z) (fun _ => ?_)
      refine q_when (b := false) (ans_isN (val_var rfl) rfl) (fun z => nomatch z) (fun _ => ?_)
      exact r_ret (c_call (va_cons (val_var rfl) (va_cons (val_var rfl) va_nil)) ⟨t, t2, m, f, n, rfl, tp.same s2, tp2, sm, sf, hn, fun p H3 s3 tp3 => k p H3 ((s1.trans s2).trans s3) tp3⟩)
end
end LW

namespace LW
open PySem PySem.Spec PyProof.Rows L2 GL
section
variable {P : Program} {w : World} {K : PySem.W.Frag} {mg : Str → Option Value} {base : Heap}
def spLRatio : Sp := fun vs H Q _ => ∃ (p c : Addr) (m : Nat) (k : Nat), vs = [.ref p, .int (k : Int)] ∧ PenAt H p c m ∧ m + 3 < most ∧ 1 ≤ k ∧ k ≤ 9 ∧ ∀ (t : Addr) (H' : Hp) (q : Rat), Lo H' t q → Sm 10 q → But p H H' → PenAt H' p c (m + 3) → Q (.ref t) H'
theorem ok_law_ratio (T : Txt K mg) : FnOk P w K mg base CX0 5 (fA mg "_law_ratio") (fDat K (fA mg "_law_ratio")) ["_law_pen_here", "_law_most"] spLRatio := by
  have G_law_draw := ok_draw (P := P) (w := w) (base := base) T._law_draw.F T
  have G_law_pick := ok_pick (P := P) (w := w) (base := base) T
  have G_law_q := ok_law_q (P := P) (w := w) (base := base) T
  refine T._law_ratio.F.ok sc_law_ratio (fun vs H Q E h => ?_) (fun cdv A outer s H vs Q E hr h => ?_)
  · obtain ⟨p, c, m, k, rfl, _⟩ := h
    rfl
  obtain ⟨p, c, m, k, rfl, hP, hm, k1, k9, z⟩ := h
  refine ⟨_, (pss_cons (ps_set (i := 2) sc_law_ratio.nd rfl (Or.inl rfl) (pe_c T._law_pick G_law_pick (hr.mono (by decide)) (pa_cons (pv 0) (pa_cons (pe_lst (pa_cons pe_int (pa_cons pe_int (pa_cons pe_int (pa_cons pe_int (pa_cons pe_int (pa_cons pe_int (pa_cons (pe_op op_add pe_int (pe_c T._law_draw G_law_draw (hr.mono (by decide)) (pa_cons (pv 0) (pa_cons pe_int pa_nil)))) pa_nil)))))))) pa_nil))))
  (pss_one (ps_ret (pe_c T._law_q G_law_q (hr.mono (by decide)) (pa_cons (pe_op op_sub (pe_c T._law_draw G_law_draw (hr.mono (by decide)) (pa_cons (pv 0) (pa_cons (pe_op op_add (pe_op op_mulW (pe_op op_mulW pe_int (pv 1)) (pv 2)) pe_int) pa_nil))) (pe_op op_mulW (pv 1) (pv 2))) (pa_cons (pv 2) pa_nil)))))), ?_⟩
  refine q_asg (call_1 ((val_var rfl) _ (va_1 ?_)))
  refine l_s (va_s val_c (va_s val_c (va_s val_c (va_s val_c (va_s val_c (va_s val_c (va_1 (op_l val_c ?_))))))))
  refine c_call (va_cons (val_var rfl) (va_cons val_c va_nil)) ⟨p, c, 99, m, rfl, hP, by omega, by decide, by decide, fun r H1 r0 r1 b1 P1 => ?_⟩
  refine ⟨1, r, rfl, rfl, by show 7 ≤ sizeLine; decide, fun l hl => ?_⟩
  refine ⟨p, c, l, _, m + 1, rfl, P1.same (Same.new hl), by omega, SqL.of upd_same, by show 0 < 7; decide, by show 7 < 1000000000; decide, fun v H2 hv b2 P2 => ?_⟩
  obtain ⟨d, rfl, d0, d1⟩ : ∃ d : Int, v = .int d ∧ 0 < d ∧ d ≤ 99 := by
    simp at hv
    rcases hv with e | e | e | e | e | e
    · exact ⟨1, e, by decide, by decide⟩
    · exact ⟨2, e, by decide, by decide⟩
    · exact ⟨3, e, by decide, by decide⟩
    · exact ⟨7, e, by decide, by decide⟩
    · exact ⟨10, e, by decide, by decide⟩
    · exact ⟨1 + r, e, by omega, by omega⟩
  have c1 : (2 : Nat) ^ 10 < 2 ^ 1000 := Nat.pow_lt_pow_right (by decide) (by decide)
  have kd : 0 < (k : Int) * d := Int.mul_pos (by omega) d0
  have kd2 : (k : Int) * d ≤ 9 * 99 := Int.mul_le_mul (by omega) d1 (by omega) (by omega)
  refine r_ret (te := tCall _ _ _ _) (call_1 ?_)
  have hk : (k : Int).natAbs < 2 ^ 1000 := by omega
  have hd : d.natAbs < 2 ^ 1000 := by omega
  have h2k : (2 * (k : Int)).natAbs < 2 ^ 1000 := by omega
  refine c_call (va_cons (val_var rfl) (va_cons (v_add (v_mul (v_mul val_c (val_var rfl) (fit_mul (by omega) hk)) (val_var rfl) (fit_mul h2k hd)) val_c) va_nil)) ⟨p, c, _, m + 2, rfl, P2, by omega, ?_, ?_, fun r2 H3 r20 r21 b3 P3 => ?_⟩
  · rw [Int.mul_assoc]; omega
  · rw [Int.mul_assoc]; omega
  rw [Int.mul_assoc] at r21
  refine (v_mul (i := (k : Int)) (j := d) (val_var rfl) (val_var rfl) (fit_mul hk hd)) _ ⟨_, _, rfl, rfl, ?_⟩
  have hw : ∀ {i : Int}, i.natAbs < 1024 → i.natAbs < 2 ^ wd := fun h => Nat.lt_trans h (by decide +kernel)
  refine (val_var rfl) _ ?_
  refine ⟨r2 - (k : Int) * d, d, rfl, hw (by omega), hw (by omega), .inl ⟨d0, fun t H4 s4 e4 => ?_⟩⟩
  rw [(low_rat _ d0).1, (low_rat _ d0).2] at e4
  exact z t H4 _ e4 (Sm.div (n := 10) d0 (by show _ < 1024; omega) (by show _ < 1024; omega)) (((b1.trans (But.of (Same.new hl))).trans b2).trans (b3.trans (But.of s4))) (P3.same s4)

theorem c_lminus {H : Hp} {ta : TA} {σ : L2.St} {p q : Addr} {x y : Rat} {n m : Nat} {Q : VK} {E : XK} (h : VA ta σ H [.ref p, .ref q]) (a : Lo H p x) (b : Lo H q y) (hx : Sm n x) (hy : Sm m y) (hn : n ≤ 1000) (hm : m ≤ 1000) (k : ∀ c H', L2.Same H H' → Lo H' c (x - y) → Q (.ref c) H') : tCall sp_law_minus [] E ta σ H Q := by
  have d1 := x.den_pos
  have d2 := y.den_pos
  refine c_call h ⟨p, q, _, _, _, _, rfl, a, b, hx.fit hn, hy.fit hm, by omega, by omega, fun c H' s z => k c H' s ?_⟩
  unfold Lo
  have e : x - y = Rat.divInt (x.num * (y.den : Int) - y.num * (x.den : Int)) ((x.den : Int) * (y.den : Int)) := by
    rw [Rat.sub_eq_add_neg, Rat.add_def', ← Rat.divInt_ofNat, Int.natCast_mul, Rat.neg_num, Rat.neg_den]
    congr 1
    rw [Int.neg_mul]
    omega
  rw [e, ← (low_rat _ (Int.mul_pos (by omega) (by omega))).1, ← (low_rat _ (Int.mul_pos (by omega) (by omega))).2]
  exact z
theorem cs_lplus {H : Hp} {p q : Addr} {x y : Rat} {n m : Nat} {Q : VK} {E : XK} (a : Lo H p x) (b : Lo H q y) (hx : Sm n x) (hy : Sm m y) (hn : n ≤ 1000) (hm : m ≤ 1000) (k : ∀ c H', L2.Same H H' → Lo H' c (x + y) → Q (.ref c) H') : sp_law_plus ([.ref p, .ref q] ++ []) H Q E :=
  c_lplus (E := E) (ta := tCons (tC (.ref p)) (tCons (tC (.ref q)) tNil)) (σ := []) (va_cons val_c (va_cons val_c va_nil)) a b hx hy hn hm k
theorem cs_lminus {H : Hp} {p q : Addr} {x y : Rat} {n m : Nat} {Q : VK} {E : XK} (a : Lo H p x) (b : Lo H q y) (hx : Sm n x) (hy : Sm m y) (hn : n ≤ 1000) (hm : m ≤ 1000) (k : ∀ c H', L2.Same H H' → Lo H' c (x - y) → Q (.ref c) H') : sp_law_minus ([.ref p, .ref q] ++ []) H Q E :=
  c_lminus (E := E) (ta := tCons (tC (.ref p)) (tCons (tC (.ref q)) tNil)) (σ := []) (va_cons val_c (va_cons val_c va_nil)) a b hx hy hn hm k
theorem cs_ltimes {H : Hp} {p q : Addr} {x y : Rat} {n m : Nat} {Q : VK} {E : XK} (a : Lo H p x) (b : Lo H q y) (hx : Sm n x) (hy : Sm m y) (hn : n ≤ 1000) (hm : m ≤ 1000) (k : ∀ c H', L2.Same H H' → Lo H' c (x * y) → Q (.ref c) H') : sp_law_times ([.ref p, .ref q] ++ []) H Q E :=
  c_ltimes (E := E) (ta := tCons (tC (.ref p)) (tCons (tC (.ref q)) tNil)) (σ := []) (va_cons val_c (va_cons val_c va_nil)) a b hx hy hn hm k
/-- a told place as values -/
theorem v_pl {σ : L2.St} {H : Hp} {te : TE} {a x y : Addr} (h : Val te σ H (.ref a)) (e : H a = some (.tup [.ref x, .ref y])) : Val (tOp (rIxT K) te (tC (.int 0))) σ H (.ref x) ∧ Val (tOp (rIxT K) te (tC (.int 1))) σ H (.ref y) :=
  ⟨v_ixT (n := 0) h val_c (SqT.of e) rfl, v_ixT (n := 1) h val_c (SqT.of e) rfl⟩
def halfQ : Rat := Rat.divInt 1 2
theorem half_lo {H : Hp} {t : Addr} (e : H t = some (.tup [.int 1, .int 2])) : Lo H t halfQ := by
  have h1 : halfQ.num = 1 := by decide +kernel
  have h2 : halfQ.den = 2 := by decide +kernel
  unfold Lo
  rw [h1, h2]
  exact e
theorem half_sm : Sm 2 halfQ := by
  have h1 : halfQ.num = 1 := by decide +kernel
  have h2 : halfQ.den = 2 := by decide +kernel
  constructor
  · rw [h1]; decide
  · rw [h2]; decide

/-! ### the law's own matrices -/
section
variable {σ : L2.St} {S : Hp} {t1 t2 : TE} {E : XK} {n m : Nat} {q r : Rat}
theorem lw_plus (h1 : EC t1 σ S n q) (h2 : EC t2 σ S m r) (hn : n ≤ 1000) (hm : m ≤ 1000) : EC (tCall sp_law_plus [] E (tCons t1 (tCons t2 tNil))) σ S (n + m + 1) (q + r) := ⟨h1.1.add h2.1, fun H Q sh k => call_1 (h1.2 H _ sh fun v H1 s1 r1 => va_1 (h2.2 H1 _ (sh.trans s1) fun u H2 s2 r2 => cs_lplus (r1.same s2) r2 h1.1 h2.1 hn hm fun p H3 s3 lo => k _ H3 ((s1.trans s2).trans s3) lo))⟩
theorem lw_minus (h1 : EC t1 σ S n q) (h2 : EC t2 σ S m r) (hn : n ≤ 1000) (hm : m ≤ 1000) : EC (tCall sp_law_minus [] E (tCons t1 (tCons t2 tNil))) σ S (n + m + 1) (q - r) := ⟨h1.1.sub h2.1, fun H Q sh k => call_1 (h1.2 H _ sh fun v H1 s1 r1 => va_1 (h2.2 H1 _ (sh.trans s1) fun u H2 s2 r2 => cs_lminus (r1.same s2) r2 h1.1 h2.1 hn hm fun p H3 s3 lo => k _ H3 ((s1.trans s2).trans s3) lo))⟩
theorem lw_times (h1 : EC t1 σ S n q) (h2 : EC t2 σ S m r) (hn : n ≤ 1000) (hm : m ≤ 1000) : EC (tCall sp_law_times [] E (tCons t1 (tCons t2 tNil))) σ S (n + m) (q * r) := ⟨h1.1.mul h2.1, fun H Q sh k => call_1 (h1.2 H _ sh fun v H1 s1 r1 => va_1 (h2.2 H1 _ (sh.trans s1) fun u H2 s2 r2 => cs_ltimes (r1.same s2) r2 h1.1 h2.1 hn hm fun p H3 s3 lo => k _ H3 ((s1.trans s2).trans s3) lo))⟩
theorem lw_ix {i k : Nat} {l p : Addr} {vs : List V} (h : σ[i]? = some (some (.ref l))) (e : S l = some (.lst vs)) (hk : vs[k]? = some (.ref p)) (lo : Lo S p q) (s : Sm n q) : EC (tOp (rIxL K) (tVar i) (tC (.int (k : Int)))) σ S n q := ⟨s, fun H Q sh kk => (v_ixL (n := k) (val_var h) val_c (SqL.of (sh _ _ e)) hk) _ (kk p H (L2.Same.refl H) (lo.same sh))⟩
theorem lw_var {i : Nat} {p : Addr} (h : σ[i]? = some (some (.ref p))) (lo : Lo S p q) (s : Sm n q) : EC (tVar i) σ S n q := ⟨s, fun H Q sh kk => (val_var h) _ (kk p H (L2.Same.refl H) (lo.same sh))⟩
theorem lw_half : EC (tTup (tCons (tC (.int 1)) (tCons (tC (.int 2)) tNil))) σ S 2 halfQ := ⟨half_sm, fun H Q sh kk => l_tup (va_cons val_c (va_cons val_c va_nil)) (by show 2 ≤ 100000; decide) fun p hp => kk p _ (Same.new' hp) (half_lo upd_same)⟩
end
theorem lst4 {H : Hp} {t : Addr} {a b c d : Rat} (h : Lst H t [a, b, c, d]) : ∃ w x y z, H t = some (.lst [.ref w, .ref x, .ref y, .ref z]) ∧ Lo H w a ∧ Lo H x b ∧ Lo H y c ∧ Lo H z d := by
  obtain ⟨vs, e, al⟩ := h
  cases al with
  | cons r1 al => cases al with
    | cons r2 al => cases al with
      | cons r3 al => cases al with
        | cons r4 al =>
          cases al
          obtain ⟨w, rfl, l1⟩ := r1
          obtain ⟨x, rfl, l2⟩ := r2
          obtain ⟨y, rfl, l3⟩ := r3
          obtain ⟨z, rfl, l4⟩ := r4
          exact ⟨w, x, y, z, e, l1, l2, l3, l4⟩
def spLTr : Sp := fun vs H Q _ => ∃ (l : Addr) (m : Mt) (n : Nat), vs = [.ref l] ∧ Lst H l m.l ∧ Sms n m.l ∧ n ≤ 60 ∧ ∀ p H', L2.Same H H' → Lo H' p m.tr → Q (.ref p) H'
def spLDet : Sp := fun vs H Q _ => ∃ (l : Addr) (m : Mt) (n : Nat), vs = [.ref l] ∧ Lst H l m.l ∧ Sms n m.l ∧ n ≤ 60 ∧ ∀ p H', L2.Same H H' → Lo H' p m.det → Q (.ref p) H'
theorem ok_law_trace (T : Txt K mg) : FnOk P w K mg base CX0 4 (fA mg "_law_trace") (fDat K (fA mg "_law_trace")) ["_law_matrix_here"] spLTr := by
  have G_law_plus := ok_law_plus (P := P) (w := w) (base := base) T
  refine T._law_trace.F.ok sc_law_trace (fun vs H Q E h => ?_) (fun cdv A outer s H vs Q E hr h => ?_)
  · obtain ⟨l, m, n, rfl, _⟩ := h
    rfl
  obtain ⟨l, m, n, rfl, L, sm, hn, k⟩ := h
  refine ⟨_, (pss_one (ps_ret (pe_c T._law_plus G_law_plus (hr.mono (by decide)) (pa_cons (pe_ix ix_list (pv 0) pe_int (fun _ _ => rfl)) (pa_cons (pe_ix ix_list (pv 0) pe_int (fun _ _ => rfl)) pa_nil))))), ?_⟩
  obtain ⟨w, x, y, z, e, l1, l2, l3, l4⟩ := lst4 L
  exact r_ret ((lw_plus (lw_ix (k := 0) rfl e rfl l1 (sm m.a (by simp [Mt.l]))) (lw_ix (k := 3) rfl e rfl l4 (sm m.d (by simp [Mt.l]))) (by omega) (by omega)).2 H _ (L2.Same.refl H) fun p H' s lo => k p H' s lo)
theorem ok_law_det (T : Txt K mg) : FnOk P w K mg base CX0 4 (fA mg "_law_det") (fDat K (fA mg "_law_det")) ["_law_matrix_here"] spLDet := by
  have G_law_minus := ok_law_minus (P := P) (w := w) (base := base) T
  have G_law_times := ok_law_times (P := P) (w := w) (base := base) T
  refine T._law_det.F.ok sc_law_det (fun vs H Q E h => ?_) (fun cdv A outer s H vs Q E hr h => ?_)
  · obtain ⟨l, m, n, rfl, _⟩ := h
    rfl
  obtain ⟨l, m, n, rfl, L, sm, hn, k⟩ := h
  refine ⟨_, (pss_one (ps_ret (pe_c T._law_minus G_law_minus (hr.mono (by decide)) (pa_cons (pe_c T._law_times G_law_times (hr.mono (by decide)) (pa_cons (pe_ix ix_list (pv 0) pe_int (fun _ _ => rfl)) (pa_cons (pe_ix ix_list (pv 0) pe_int (fun _ _ => rfl)) pa_nil))) (pa_cons (pe_c T._law_times G_law_times (hr.mono (by decide)) (pa_cons (pe_ix ix_list (pv 0) pe_int (fun _ _ => rfl)) (pa_cons (pe_ix ix_list (pv 0) pe_int (fun _ _ => rfl)) pa_nil))) pa_nil))))), ?_⟩
  obtain ⟨w, x, y, z, e, l1, l2, l3, l4⟩ := lst4 L
  have a := fun σ (h : σ[0]? = some (some (V.ref l))) => lw_ix (K := K) (k := 0) (σ := σ) h e rfl l1 (sm m.a (by simp [Mt.l]))
  have b := fun σ (h : σ[0]? = some (some (V.ref l))) => lw_ix (K := K) (k := 1) (σ := σ) h e rfl l2 (sm m.b (by simp [Mt.l]))
  have c := fun σ (h : σ[0]? = some (some (V.ref l))) => lw_ix (K := K) (k := 2) (σ := σ) h e rfl l3 (sm m.c (by simp [Mt.l]))
  have d := fun σ (h : σ[0]? = some (some (V.ref l))) => lw_ix (K := K) (k := 3) (σ := σ) h e rfl l4 (sm m.d (by simp [Mt.l]))
  exact r_ret ((lw_minus (lw_times (a _ rfl) (d _ rfl) (by omega) (by omega)) (lw_times (b _ rfl) (c _ rfl) (by omega) (by omega)) (by omega) (by omega)).2 H _ (L2.Same.refl H) fun p H' s lo => k p H' s lo)
end
end LW

namespace LW
open PySem PySem.Spec PyProof.Rows L2 GL
section
variable {P : Program} {w : World} {K : PySem.W.Frag} {mg : Str → Option Value} {base : Heap}
theorem num_lt0 (q : Rat) : q.num < 0 ↔ q < 0 := by
  have h := @Rat.num_nonneg q
  rw [← Int.not_le, h, Rat.not_le]
theorem sq_eq (m : Mt) : (m.a - m.d) * halfQ * ((m.a - m.d) * halfQ) + m.b * m.c = (m.tr * m.tr - 4 * m.det) * (halfQ * halfQ) := by
  have h : halfQ + halfQ = 1 := by decide +kernel
  have h4 : 4 * (halfQ * halfQ) = 1 := by decide +kernel
  unfold Mt.tr Mt.det
  generalize halfQ = x at *
  grind
theorem sq_lt (m : Mt) : ((m.a - m.d) * halfQ * ((m.a - m.d) * halfQ) + m.b * m.c).num < 0 ↔ (m.tr * m.tr).num * ((4 * m.det).den : Int) < (4 * m.det).num * ((m.tr * m.tr).den : Int) := by
  rw [← Rat.lt_iff, num_lt0, sq_eq]
  have h : (0 : Rat) < halfQ * halfQ := by decide +kernel
  generalize m.tr * m.tr = u
  generalize 4 * m.det = v
  generalize halfQ * halfQ = x at *
  constructor
  · intro z
    by_cases e : u < v
    · exact e
    · have e2 : 0 ≤ u - v := by grind
      have := Rat.mul_nonneg e2 (Rat.le_of_lt h)
      grind
  · intro z
    have e2 : 0 < v - u := by grind
    have := Rat.mul_pos e2 h
    grind

/-! ### the law's own word -/
theorem l_lcG {ti te : TE} {tt : TT} {g : TG} {vs : List Nat} {σ : L2.St} {H : Hp} {a : Addr} {xs : List V} {Q : VK} (Pv : Addr → Nat → Hp → Prop) (h : Val ti σ H (.ref a)) (hx : SqL K H a xs) (h0 : ∀ D, H D = none → Pv D 0 (upd H D (.lst []))) (hl : ∀ D i H1, H D = none → Pv D i H1 → SqL K H1 a xs)
    (hs : ∀ D i x H1, H D = none → xs[i]? = some x → Pv D i H1 → g x (wipe σ vs) H1 fun σ2 H2 => wipe σ2 vs = wipe σ vs ∧ tt σ2 H2 fun b H3 => if b = true then te σ2 H3 fun y H4 => ∃ acc, H4 D = some (.lst acc) ∧ acc.length < sizeLine ∧ Pv D (i + 1) (upd H4 D (.lst (acc ++ [y]))) else Pv D (i + 1) H3)
    (hd : ∀ D H1, H D = none → Pv D xs.length H1 → Q (.ref D) H1) : tLc (iList K ti) g tt te vs σ H Q :=
  h _ ⟨a, rfl, ⟨xs, hx⟩, fun D hD => lc_list (K := K) (a := a) (xs := xs) (Pv D) (h0 D hD) (fun i H1 _ p => hl D i H1 hD p) (fun i x H1 e p => hs D i x H1 hD e p) (fun H1 p => hd D H1 hD p)⟩
def qD (q : Rat) : PyData := .tuple [.int q.num, .int (q.den : Int)]
def LoR (H : Hp) (v : V) (q : Rat) : Prop := ∃ p, v = .ref p ∧ Lo H p q
theorem LoR.same {H H' : Hp} {v : V} {q : Rat} (h : LoR H v q) (s : L2.Same H H') : LoR H' v q := h.imp fun p z => ⟨z.1, z.2.same s⟩
theorem lor_dp {H : Hp} {vs : List V} {qs : List Rat} (h : All2 (LoR H) vs qs) : DpAll K H vs (qs.map qD) := by
  induction h with
  | nil => exact .nil
  | cons r _ ih =>
    obtain ⟨p, rfl, lo⟩ := r
    exact .cons (.tup (SqT.of lo) (.cons (.int _) (.cons (.int _) .nil))) ih
theorem qs_shaped (qs : List Rat) : SeqAt.shaped (.list (qs.map qD)) = true := by
  have h : PyData.canLayAll0 (qs.map qD) = true ∧ PyData.depthAll (qs.map qD) ≤ 1 := by
    induction qs with
    | nil => exact ⟨rfl, by simp [PyData.depthAll]⟩
    | cons p r ih =>
      refine ⟨?_, ?_⟩
      · simp [PyData.canLayAll0, ih.1, qD, PyData.canLay0]
      · have := ih.2
        simp [PyData.depthAll, qD, PyData.depth]
        omega
  refine Bool.and_eq_true_iff.mpr ⟨by simp [PyData.canLay0, h.1], decide_eq_true ?_⟩
  have := h.2
  simp [PyData.depth]
  omega
theorem qnil_eqv {qs : List Rat} : PyData.eqv (.list (qs.map qD)) (.list []) = decide (qs = []) := by
  cases qs <;> simp [PyData.eqv, PyData.eqvAll]
theorem lo_updD {H : Hp} {D : Addr} {ws zs : List V} {v : V} {q : Rat} (h : LoR H v q) (e : H D = some (.lst ws)) : LoR (upd H D (.lst zs)) v q := h.imp fun p z => ⟨z.1, lo_upd e z.2⟩
theorem lo_dpL {H : Hp} {p : Addr} {q : Rat} (h : Lo H p q) : Dp K H (.ref p) (.tuple [.int q.num, .int (q.den : Int)]) := .tup (SqT.of h) (.cons (.int _) (.cons (.int _) .nil))
def spLWord : Sp := fun vs H Q _ => ∃ (l : Addr) (m : Mt) (n : Nat), vs = [.ref l] ∧ Lst H l m.l ∧ Sms n m.l ∧ n ≤ 60 ∧ ∀ H', L2.Same H H' → Q (.str (wordS m)) H'
theorem ok_law_word (T : Txt K mg) : FnOk P w K mg base CX0 5 (fA mg "_law_word") (fDat K (fA mg "_law_word")) ["_law_matrix_here"] spLWord := by
  have G_law_plus := ok_law_plus (P := P) (w := w) (base := base) T
  have G_law_minus := ok_law_minus (P := P) (w := w) (base := base) T
  have G_law_times := ok_law_times (P := P) (w := w) (base := base) T
  have G_law_trace := ok_law_trace (P := P) (w := w) (base := base) T
  have G_law_det := ok_law_det (P := P) (w := w) (base := base) T
  refine T._law_word.F.ok sc_law_word (fun vs H Q E h => ?_) (fun cdv A outer s H vs Q E hr h => ?_)
  · obtain ⟨l, m, n, rfl, _⟩ := h
    rfl
  obtain ⟨l, m, n, rfl, L, sm, hn, k⟩ := h
  refine ⟨_, (pss_cons (ps_par (i := 1) (j := 2) (by rfl) sc_law_word.nd rfl rfl (by decide) rfl rfl (pa_cons (pe_c T._law_trace G_law_trace (hr.mono (by decide)) (pa_cons (pv 0) pa_nil)) (pa_cons (pe_c T._law_det G_law_det (hr.mono (by decide)) (pa_cons (pv 0) pa_nil)) pa_nil)) (by rfl))
  (pss_cons (ps_if (pt_cmpR op_lt (pe_ix ix_tup (pv 2) pe_int (fun _ _ => rfl)) pe_int (nomark _)) (pss_one (ps_ret pe_str)) pss_nil)
  (pss_cons (ps_if (pt_cmpR op_eq (pe_ix ix_tup (pv 2) pe_int (fun _ _ => rfl)) pe_int (nomark _)) (pss_cons (ps_if (pt_cmpR op_ne (pe_ix ix_tup (pv 1) pe_int (fun _ _ => rfl)) pe_int (nomark _)) (pss_one (ps_ret (pe_ifExp (pt_cmpR op_lt (pe_ix ix_tup (pv 1) pe_int (fun _ _ => rfl)) pe_int (nomark _)) pe_str pe_str))) pss_nil)
  (pss_one (ps_ret (pe_ifExp (pt_cmpR (op_eqD (hu64 hr)) (pe_lc (own := [("_law_one", 3)]) (g := gName 3) (by rfl) sc_law_word.nd (pi_list (pv 0)) (blkOk_by (own := [("_law_one", 3)]) (N := ["_law_matrix_here", "_law_trace_here", "_law_whole", "_law_one", "_law_half", "_law_square"]) (sc := defScope s_law_word) (by decide +kernel)) (fun _ _ _ _ _ => pg_name (i := 3) sc_law_word.nd rfl (Or.inl rfl)) (fun _ _ _ _ _ => pts_one (pt_cmpR op_ne (pe_ix (show IxR _ (rIxT K) from ix_tup) (pv 3) pe_int (fun _ _ => rfl)) pe_int (nomark _))) (fun _ _ _ _ _ => (pv 3))) (pe_lst pa_nil) (nomark _)) pe_str pe_str)))) pss_nil)
  (pss_cons (ps_if (pt_cmpR op_eq (pe_ix ix_tup (pv 1) pe_int (fun _ _ => rfl)) pe_int (nomark _)) (pss_one (ps_ret pe_str)) pss_nil)
  (pss_cons (ps_set (i := 4) sc_law_word.nd rfl (Or.inl rfl) (pe_c T._law_times G_law_times (hr.mono (by decide)) (pa_cons (pe_c T._law_minus G_law_minus (hr.mono (by decide)) (pa_cons (pe_ix ix_list (pv 0) pe_int (fun _ _ => rfl)) (pa_cons (pe_ix ix_list (pv 0) pe_int (fun _ _ => rfl)) pa_nil))) (pa_cons (pe_tup (pa_cons pe_int (pa_cons pe_int pa_nil))) pa_nil))))
  (pss_cons (ps_set (i := 5) sc_law_word.nd rfl (Or.inl rfl) (pe_c T._law_plus G_law_plus (hr.mono (by decide)) (pa_cons (pe_c T._law_times G_law_times (hr.mono (by decide)) (pa_cons (pv 4) (pa_cons (pv 4) pa_nil))) (pa_cons (pe_c T._law_times G_law_times (hr.mono (by decide)) (pa_cons (pe_ix ix_list (pv 0) pe_int (fun _ _ => rfl)) (pa_cons (pe_ix ix_list (pv 0) pe_int (fun _ _ => rfl)) pa_nil))) pa_nil))))
  (pss_one (ps_ret (pe_op op_add_str (pe_ifExp (pt_cmpR op_lt (pe_ix ix_tup (pv 5) pe_int (fun _ _ => rfl)) pe_int (nomark _)) pe_str pe_str) (pe_ifExp (pt_cmpR op_lt (pe_ix ix_tup (pv 1) pe_int (fun _ _ => rfl)) pe_int (nomark _)) pe_str pe_str)))))))))), ?_⟩
  refine q_par (ta_two (c_call (va_cons (val_var rfl) va_nil) ⟨l, m, n, rfl, L, sm, hn, fun u H1 s1 lo1 => ?_⟩))
  refine c_call (va_cons (val_var rfl) va_nil) ⟨l, m, n, rfl, L.same s1, sm, hn, fun v H2 s2 lo2 => ⟨_, _, rfl, ?_⟩⟩
  have S2 := s1.trans s2
  have hU := lo1.same s2
  have hV := lo2
  have L := L.same S2
  have k : ∀ H', L2.Same H2 H' → Q (.str (wordS m)) H' := fun H' s => k H' (S2.trans s)
  have S0 := L2.Same.refl H2
  unfold wordS at k
  have hu : ∀ {σ : L2.St}, σ[1]? = some (some (V.ref u)) → Val (tOp (rIxT K) (tVar 1) (tC (.int 0))) σ H2 (.int m.tr.num) := fun e => v_ixT (n := 0) (val_var e) val_c (SqT.of hU) rfl
  have hv : ∀ {σ : L2.St}, σ[2]? = some (some (V.ref v)) → Val (tOp (rIxT K) (tVar 2) (tC (.int 0))) σ H2 (.int m.det.num) := fun e => v_ixT (n := 0) (val_var e) val_c (SqT.of hV) rfl
  refine q_un (t_op ((hv rfl) _ (val_c _ ⟨_, _, rfl, rfl, _, rfl, ?_⟩)))
  by_cases d1 : m.det.num < 0
  · rw [if_pos (decide_eq_true d1)]
    rw [if_pos d1] at k
    exact r_ret (val_c _ (k H2 S0))
  rw [if_neg (by rw [decide_eq_false d1]; decide)]
  rw [if_neg d1] at k
  refine q_un (t_op ((hv rfl) _ (val_c _ ⟨rfl, _, rfl, ?_⟩)))
  by_cases d0 : m.det.num = 0
  · rw [if_pos (decide_eq_true (by rw [d0]))]
    rw [if_neg (show ¬ m.det.num > 0 by omega)] at k
    refine q_un (t_op ((hu rfl) _ (val_c _ ⟨rfl, _, rfl, ?_⟩)))
    by_cases w0 : m.tr.num = 0
    · rw [if_neg (by rw [decide_eq_true (by rw [w0])]; decide)]
      rw [if_neg (fun z => z w0)] at k
      obtain ⟨w, x, y, z, e, l1, l2, l3, l4⟩ := lst4 L
      have al : All2 (LoR H2) [.ref w, .ref x, .ref y, .ref z] m.l := .cons ⟨w, rfl, l1⟩ (.cons ⟨x, rfl, l2⟩ (.cons ⟨y, rfl, l3⟩ (.cons ⟨z, rfl, l4⟩ .nil)))
      refine r_ret (show tIf _ _ _ _ _ _ from t_op ?_)
      refine (l_lcG (K := K) (xs := [.ref w, .ref x, .ref y, .ref z]) (fun D i H3 => ∃ ys qs, L2.Same H2 H3 ∧ H3 D = some (.lst ys) ∧ All2 (LoR H3) ys qs ∧ ys.length ≤ i ∧ (qs = [] ↔ (m.l.take i).any (fun q => q.num != 0) = false)) (val_var rfl) (SqL.of e)
        (fun D hD => ⟨[], [], Same.new' hD, upd_same, .nil, Nat.le_refl _, by simp⟩) (fun D i H3 _ ⟨_, _, s, _⟩ => SqL.of (s _ _ e)) (fun D i v H3 hD hv pv => ?_) (fun D H3 hD pv => ?_))
      · obtain ⟨ys, qs, s, eD, ay, ln, iff⟩ := pv
        obtain ⟨q, hq, p, rfl, lo⟩ := al.get hv
        have tk : (m.l.take (i + 1)).any (fun q => q.num != 0) = ((m.l.take i).any (fun q => q.num != 0) || (q.num != 0)) := by
          rw [List.take_succ, hq, List.any_append]
          simp
        refine g_name ⟨rfl, t_op ((v_ixT (n := 0) (val_var rfl) val_c (SqT.of (lo.same s)) rfl) _ (val_c _ ⟨rfl, _, rfl, ?_⟩))⟩
        by_cases z0 : q.num = 0
        · rw [if_neg (by rw [decide_eq_true (by rw [z0])]; decide)]
          refine ⟨ys, qs, s, eD, ay, by omega, ?_⟩
          rw [tk, z0]
          simpa using iff
        · rw [if_pos (by rw [decide_eq_false (fun e => z0 (V.int.inj e))]; rfl)]
          refine (val_var rfl) _ ⟨ys, eD, Nat.lt_of_le_of_lt ln (Nat.lt_of_lt_of_le (show i < 4 from (List.getElem?_eq_some_iff.mp hv).1) (by decide)), ys ++ [.ref p], qs ++ [q], fun b o eb => by rw [upd_ne (ne_of_none eb hD)]; exact s _ _ eb, upd_same, ?_, by rw [List.length_append]; show ys.length + 1 ≤ i + 1; omega, ?_⟩
          · refine All2.mk (by rw [List.length_append, List.length_append, ay.len]; rfl) fun j a b ha hb => ?_
            by_cases hj : j < ys.length
            · rw [List.getElem?_append_left hj] at ha
              rw [List.getElem?_append_left (by rw [← ay.len]; exact hj)] at hb
              obtain ⟨b', eb, r⟩ := ay.get ha
              rw [hb] at eb
              cases eb
              exact lo_updD r eD
            · have le := ay.len
              rw [List.getElem?_append_right (by omega)] at ha
              rw [List.getElem?_append_right (by omega), ← le] at hb
              have j0 : j - ys.length = 0 := by
                have := (List.getElem?_eq_some_iff.mp ha).1
                simp at this
                omega
              rw [j0] at ha hb
              cases ha
              cases hb
              exact lo_updD ⟨p, rfl, lo.same s⟩ eD
          · rw [tk]
            have nz : (q.num != 0) = true := by simp [z0]
            rw [nz]
            simp
      · obtain ⟨ys, qs, s, eD, ay, _, iff⟩ := pv
        refine l_lst va_nil (by decide) fun e0 he0 => ?_
        have s0 := Same.new' (o := .lst []) he0
        refine ⟨_, _, .lst (SqL.of (s0 _ _ eD)) (lor_dp (ay.imp fun _ _ r => r.same s0)), .lst (SqL.of upd_same) .nil, qs_shaped qs, qs_shaped [], _, rfl, ?_⟩
        rw [qnil_eqv]
        have kk := k _ (s.trans s0)
        have full : m.l.take 4 = m.l := rfl
        rw [show ([V.ref w, V.ref x, V.ref y, V.ref z] : List V).length = 4 from rfl, full] at iff
        by_cases q0 : qs = []
        · rw [decide_eq_true q0]
          rw [if_neg (by rw [iff.mp q0]; decide)] at kk
          exact iteT (val_c _ kk)
        · rw [decide_eq_false q0]
          rw [if_pos (by
            cases hb : m.l.any (fun q => q.num != 0) with
            | true => rfl
            | false => exact (q0 (iff.mpr hb)).elim)] at kk
          exact iteF (val_c _ kk)
    · rw [if_pos (by rw [decide_eq_false (fun z => w0 (V.int.inj z))]; rfl)]
      rw [if_pos w0] at k
      refine r_ret (show tIf _ _ _ _ _ _ from t_op ((hu rfl) _ (val_c _ ⟨_, _, rfl, rfl, _, rfl, ?_⟩)))
      have kk := k H2 S0
      unfold way at kk
      by_cases w1 : m.tr.num < 0
      · rw [if_pos (decide_eq_true w1)]
        rw [if_pos w1] at kk
        exact val_c _ kk
      · rw [if_neg (by rw [decide_eq_false w1]; decide)]
        rw [if_neg w1] at kk
        exact val_c _ kk
  rw [if_neg (by rw [decide_eq_false (fun z => d0 (V.int.inj z))]; decide)]
  rw [if_pos (show m.det.num > 0 by omega)] at k
  refine q_un (t_op ((hu rfl) _ (val_c _ ⟨rfl, _, rfl, ?_⟩)))
  by_cases w0 : m.tr.num = 0
  · rw [if_pos (decide_eq_true (by rw [w0]))]
    rw [if_pos w0] at k
    exact r_ret (val_c _ (k H2 S0))
  rw [if_neg (by rw [decide_eq_false (fun z => w0 (V.int.inj z))]; decide)]
  rw [if_neg w0] at k
  obtain ⟨w, x, y, z, e, l1, l2, l3, l4⟩ := lst4 L
  have a := fun σ (h : σ[0]? = some (some (V.ref l))) => lw_ix (K := K) (k := 0) (σ := σ) h e rfl l1 (sm m.a (by simp [Mt.l]))
  have b := fun σ (h : σ[0]? = some (some (V.ref l))) => lw_ix (K := K) (k := 1) (σ := σ) h e rfl l2 (sm m.b (by simp [Mt.l]))
  have c := fun σ (h : σ[0]? = some (some (V.ref l))) => lw_ix (K := K) (k := 2) (σ := σ) h e rfl l3 (sm m.c (by simp [Mt.l]))
  have d := fun σ (h : σ[0]? = some (some (V.ref l))) => lw_ix (K := K) (k := 3) (σ := σ) h e rfl l4 (sm m.d (by simp [Mt.l]))
  have hm := lw_times (E := E0) (lw_minus (E := E0) (a [some (.ref l), some (.ref u), some (.ref v), none, none, none] rfl) (d _ rfl) (by omega) (by omega)) lw_half (by omega) (by omega)
  refine q_asg (hm.2 H2 _ S0 fun hf H3 s3 lo3 => ?_)
  have hh := fun σ (h : σ[4]? = some (some (V.ref hf))) => lw_var (σ := σ) h lo3 hm.1
  have up : ∀ {te : TE} {σ : L2.St} {n : Nat} {q : Rat}, EC te σ H2 n q → EC te σ H3 n q := fun h => ⟨h.1, fun H Q sh k => h.2 H Q (s3.trans sh) k⟩
  refine q_asg ((lw_plus (lw_times (hh _ rfl) (hh _ rfl) (by omega) (by omega)) (lw_times (up (b _ rfl)) (up (c _ rfl)) (by omega) (by omega)) (by omega) (by omega)).2 H3 _ (L2.Same.refl _) fun sq H4 s4 lo4 => ?_)
  refine r_ret (op_in (show tIf _ _ _ _ _ _ from t_op ((v_ixT (n := 0) (val_var rfl) val_c (SqT.of lo4) rfl) _ (val_c _ ⟨_, _, rfl, rfl, _, rfl, ?_⟩))))
  have kk := k H4 (s3.trans s4)
  have hu4 : ∀ {σ : L2.St}, σ[1]? = some (some (V.ref u)) → Val (tOp (rIxT K) (tVar 1) (tC (.int 0))) σ H4 (.int m.tr.num) := fun e => v_ixT (n := 0) (val_var e) val_c (SqT.of ((hU.same s3).same s4)) rfl
  have sl := sq_lt m
  unfold way at kk
  by_cases lt : ((m.a - m.d) * halfQ * ((m.a - m.d) * halfQ) + m.b * m.c).num < 0
  · rw [decide_eq_true lt]
    rw [if_pos (sl.mp lt)] at kk
    refine iteT (val_c _ (show tIf _ _ _ _ _ _ from t_op ((hu4 rfl) _ (val_c _ ⟨_, _, rfl, rfl, _, rfl, ?_⟩))))
    by_cases w1 : m.tr.num < 0
    · rw [decide_eq_true w1]
      rw [if_pos w1] at kk
      exact iteT (val_c _ ⟨_, _, rfl, rfl, by decide, kk⟩)
    · rw [decide_eq_false w1]
      rw [if_neg w1] at kk
      exact iteF (val_c _ ⟨_, _, rfl, rfl, by decide, kk⟩)
  · rw [decide_eq_false lt]
    rw [if_neg (fun z => lt (sl.mpr z))] at kk
    refine iteF (val_c _ (show tIf _ _ _ _ _ _ from t_op ((hu4 rfl) _ (val_c _ ⟨_, _, rfl, rfl, _, rfl, ?_⟩))))
    by_cases w1 : m.tr.num < 0
    · rw [decide_eq_true w1]
      rw [if_pos w1] at kk
      exact iteT (val_c _ ⟨_, _, rfl, rfl, by decide, kk⟩)
    · rw [decide_eq_false w1]
      rw [if_neg w1] at kk
      exact iteF (val_c _ ⟨_, _, rfl, rfl, by decide, kk⟩)
end
end LW

namespace LW
open PySem PySem.Spec PyProof.Rows L2 GL
section
variable {P : Program} {w : World} {K : PySem.W.Frag} {mg : Str → Option Value} {base : Heap}
/-! ### comprehensions that draw from the pen -/
section
variable {σ : L2.St} {H : Hp} {te ti : TE} {ta : TA} {vs : List Nat} {Q : VK} {a p c : Addr} {xs : List V} {R : Addr → Nat → V → Hp → Prop} {m k j : Nat}
def EB (p c : Addr) (te : TE) (σ : L2.St) (H : Hp) (m : Nat) (R : V → Hp → Prop) : Prop := ∀ Q : VK, (∀ v H', But p H H' → PenAt H' p c m → R v H' → Q v H') → te σ H Q
def BuS (R : Addr → Nat → V → Hp → Prop) : Prop := ∀ D i v H H' p c m, R D i v H → PenAt H p c m → But p H H' → R D i v H'
def OffD (R : Addr → Nat → V → Hp → Prop) : Prop := ∀ D i v H ys zs, R D i v H → H D = some (.lst ys) → R D i v (upd H D (.lst zs))
def LcB (R : Addr → Nat → V → Hp → Prop) (p c : Addr) (H : Hp) (m k : Nat) (D : Addr) (i : Nat) (H' : Hp) : Prop := ∃ ys, But p H H' ∧ PenAt H' p c (m + k * i) ∧ H' D = some (.lst ys) ∧ H D = none ∧ Run (R D) 0 ys H' ∧ ys.length = i
theorem Run.map {R S : Nat → V → Hp → Prop} {H H' : Hp} (f : ∀ k v, R k v H → S k v H') : ∀ {k : Nat} {xs : List V}, Run R k xs H → Run S k xs H'
  | _, [], _ => trivial
  | _, _ :: _, ⟨x, y⟩ => ⟨f _ _ x, Run.map f y⟩
theorem PenAt.updN {H H0 : Hp} {D : Addr} {ys zs : List V} {m0 : Nat} (P : PenAt H p c m) (P0 : PenAt H0 p c m0) (n0 : H0 D = none) (e : H D = some (.lst ys)) : PenAt (upd H D (.lst zs)) p c m := by
  obtain ⟨kvs, hd⟩ := P.dk
  obtain ⟨_, _, _, _, ns, _, hc, _⟩ := P0
  refine P.off (fun o h => ?_) (fun o h => ?_)
  · rw [upd_ne (ne_of hd e (by intro z; cases z))]
    exact h
  · rw [upd_ne (ne_of_none hc n0)]
    exact h
theorem lcB_0 {D : Addr} (P0 : PenAt H p c m) (hD : H D = none) : LcB R p c H m k D 0 (upd H D (.lst [])) := ⟨[], But.of (Same.new' hD), P0.same (Same.new' hD), upd_same, hD, trivial, rfl⟩
theorem lcB_step (bu : BuS R) (of : OffD R) {x : V} {i : Nat} {D : Addr} {H1 : Hp} (P0 : PenAt H p c m) (b : LcB R p c H m k D i H1) (hn : i < 10000) (hw : wipe ((wipe σ vs).set j (some x)) vs = wipe σ vs)
    (ht : But p H H1 → PenAt H1 p c (m + k * i) → H D = none → (∃ ys, H1 D = some (.lst ys)) → EB p c te ((wipe σ vs).set j (some x)) H1 (m + k * (i + 1)) (R D i)) :
    gName j x (wipe σ vs) H1 fun σ2 H2 => wipe σ2 vs = wipe σ vs ∧ tYes σ2 H2 fun b H3 => if b = true then te σ2 H3 fun y H4 => ∃ acc, H4 D = some (.lst acc) ∧ acc.length < sizeLine ∧ LcB R p c H m k D (i + 1) (upd H4 D (.lst (acc ++ [y]))) else LcB R p c H m k D (i + 1) H3 := by
  obtain ⟨ys, bb, P, eD, nD, r, len⟩ := b
  refine g_name ⟨hw, ?_⟩
  show (if true = true then te _ _ _ else LcB R p c H m k D (i + 1) H1)
  rw [if_pos rfl]
  refine ht bb P nD ⟨ys, eD⟩ _ fun v H4 b4 P4 rv => ?_
  obtain ⟨kvs, hd⟩ := P.dk
  have e4 := b4 _ _ eD (ne_of eD hd (by intro z; cases z))
  refine ⟨ys, e4, by rw [len]; exact Nat.lt_of_lt_of_le hn (by decide), ys ++ [v], fun b o z hb => ?_, P4.updN P0 nD e4, upd_same, nD, ?_, by rw [List.length_append, len]; rfl⟩
  · rw [upd_ne (ne_of_none z nD)]
    exact b4 _ _ (bb _ _ z hb) hb
  · refine Run.map (fun k v h => of D k v _ _ _ h e4) (Run.app (Run.map (fun k v h => bu D k v _ _ _ _ _ h P b4) r) ⟨?_, trivial⟩)
    rw [len, Nat.zero_add]
    exact rv
theorem l_lcBL (bu : BuS R) (of : OffD R) (P0 : PenAt H p c m) (h : Val ti σ H (.ref a)) (hx : SqL K H a xs) (hn : xs.length ≤ 10000) (hw : ∀ x, wipe ((wipe σ vs).set j (some x)) vs = wipe σ vs)
    (hs : ∀ D i x H1, xs[i]? = some x → But p H H1 → PenAt H1 p c (m + k * i) → H D = none → (∃ ys, H1 D = some (.lst ys)) → EB p c te ((wipe σ vs).set j (some x)) H1 (m + k * (i + 1)) (R D i))
    (q : ∀ D ys H', But p H H' → PenAt H' p c (m + k * xs.length) → H D = none → H' D = some (.lst ys) → Run (R D) 0 ys H' → ys.length = xs.length → Q (.ref D) H') : tLc (iList K ti) (gName j) tYes te vs σ H Q := by
  obtain ⟨kvs, hd⟩ := P0.dk
  exact h _ ⟨a, rfl, ⟨xs, hx⟩, fun D hD => lc_list (K := K) (a := a) (xs := xs) (LcB R p c H m k D) (lcB_0 P0 hD) (fun i H1 _ b => b.choose_spec.1.seq hd hx) (fun i x H1 e b => lcB_step bu of P0 b (by
    have := (List.getElem?_eq_some_iff.mp e).1
    omega) (hw x) (hs D i x H1 e)) (fun H1 ⟨ys, b, P, e, nD, r, l⟩ => q D ys H1 b P nD e r l)⟩
theorem rngB (bu : BuS R) (of : OffD R) (P0 : PenAt H p c m) {n : Int} (h0 : 0 ≤ n) (hn : n ≤ 10000) (hw : ∀ x, wipe ((wipe σ vs).set j (some x)) vs = wipe σ vs)
    (hs : ∀ D i x H1, i < n.toNat → But p H H1 → PenAt H1 p c (m + k * i) → H D = none → (∃ ys, H1 D = some (.lst ys)) → EB p c te ((wipe σ vs).set j (some x)) H1 (m + k * (i + 1)) (R D i))
    (q : ∀ D ys H', But p H H' → PenAt H' p c (m + k * n.toNat) → H D = none → H' D = some (.lst ys) → Run (R D) 0 ys H' → ys.length = n.toNat → Q (.ref D) H') : tLc (fun _ H R => R (Itr 0 n.toNat) H) (gName j) tYes te vs σ H Q :=
  fun D hD => lc_range (lo := 0) (n := n.toNat) (LcB R p c H m k D) (lcB_0 P0 hD) (fun i H1 hi b => lcB_step bu of P0 b (by omega) (hw _) (hs D i _ H1 hi)) (fun H1 ⟨ys, b, P, e, nD, r, l⟩ => q D ys H1 b P nD e r l)
theorem l_rngU {g : TG} {tt : TT} (h : ta σ H fun ws H1 => ∃ j : Int, ws = [.int j] ∧ -(2 ^ 62) ≤ j ∧ j < 2 ^ 62 ∧ tLc (fun _ H R => R (Itr 0 j.toNat) H) g tt te vs σ H1 Q) : tLc (iRng1 ta) g tt te vs σ H Q := h
end

theorem Rq.but {H H' : Hp} {p c : Addr} {m : Nat} {v : V} {q : Rat} (h : Rq H v q) (P : PenAt H p c m) (b : But p H H') : Rq H' v q := by
  obtain ⟨kvs, hd⟩ := P.dk
  obtain ⟨i, j, r, f, e⟩ := h
  refine ⟨i, j, ?_, f, e⟩
  cases r with
  | int i => exact .int i
  | pair h hj =>
    refine .pair ?_ hj
    rcases h with h | h
    · exact .inl (b _ _ h (ne_of h hd (by intro z; cases z)))
    · exact .inr (b _ _ h (ne_of h hd (by intro z; cases z)))
def Fin (q : Rat) : Prop := q.num.natAbs ≤ 10 ^ 18 ∧ q.den ≤ 10 ^ 18
theorem Lo.low {H : Hp} {t : Addr} {q : Rat} (h : Lo H t q) (f : Fin q) : Low H t q.num (q.den : Int) := by
  have d := q.den_pos
  refine ⟨h, by omega, ?_, f.1, by have := f.2; omega⟩
  unfold gI
  rw [Int.natAbs_natCast]
  exact congrArg Nat.cast q.reduced
theorem c_passed {H : Hp} {p c t : Addr} {m : Nat} {q : Rat} {ta : TA} {σ : L2.St} {Q : VK} {E : XK} (h : VA ta σ H [.ref p, .ref t]) (P : PenAt H p c m) (hm : m + 3 < most) (lo : Lo H t q) (f : Fin q) (k : ∀ v H', But p H H' → PenAt H' p c (m + 3) → Rq H' v q → (∀ x, v = .ref x → H x = none) → Q v H') : tCall spPassed [] E ta σ H Q :=
  c_call h ⟨p, c, t, m, _, _, rfl, P, hm, lo.low f, fun v H' s s0 s3 r fr b P' => k v H' b P' ⟨_, _, r, by
    have d := q.den_pos
    have h1 := f.1
    have h2 := f.2
    have b1 : (3 * 10 ^ 18 : Nat) < 2 ^ 1000 := Nat.lt_of_lt_of_le (show 3 * 10 ^ 18 < 2 ^ 62 by decide) (Nat.pow_le_pow_right (by decide) (by decide))
    constructor
    · rw [Int.natAbs_mul]
      exact Nat.lt_of_le_of_lt (Nat.mul_le_mul h1 (show s.natAbs ≤ 3 by omega)) (by omega)
    · rw [Int.natAbs_mul, Int.natAbs_natCast]
      exact Nat.lt_of_le_of_lt (Nat.mul_le_mul h2 (show s.natAbs ≤ 3 by omega)) (by omega), by
    rw [Rat.divInt_mul_right (by omega), Rat.divInt_ofNat, Rat.mkRat_self]⟩ fr⟩
def RqD (f : Nat → Rat) (D : Addr) (i : Nat) (v : V) (H : Hp) : Prop := Rq H v (f i) ∧ v ≠ .ref D
theorem rqd_bu (f : Nat → Rat) : BuS (RqD f) := fun D i v H H' p c m r P b => ⟨r.1.but P b, r.2⟩
theorem rqd_off (f : Nat → Rat) : OffD (RqD f) := fun D i v H ys zs r e => by
  obtain ⟨⟨x, y, rt, ft, eq⟩, n⟩ := r
  refine ⟨⟨x, y, ?_, ft, eq⟩, n⟩
  cases rt with
  | int => exact .int _
  | @pair a _ _ h hj =>
    have na : a ≠ D := fun z => n (by rw [z])
    refine .pair ?_ hj
    rcases h with h | h
    · exact .inl (by rw [upd_ne na]; exact h)
    · exact .inr (by rw [upd_ne na]; exact h)

theorem Sm.fin {q : Rat} (h : Sm 59 q) : Fin q := by
  have h1 := h.1
  have h2 := h.2
  have : (2 : Nat) ^ 59 < 10 ^ 18 := by decide
  exact ⟨by omega, by omega⟩

/-! ### a row as a caller may pass it -/

def Fins (xs : List Rat) : Prop := ∀ q ∈ xs, Fin q
def spShown : Sp := fun vs H Q _ => ∃ (p c l : Addr) (m : Nat) (qs : List Rat), vs = [.ref p, .ref l] ∧ PenAt H p c m ∧ Lst H l qs ∧ Fins qs ∧ qs.length ≤ 10 ∧ m + 40 < most ∧ ∀ v H', RwR H' v qs → But p H H' → PenAt H' p c (m + 40) → Q v H'
theorem ok_law_shown (T : Txt K mg) : FnOk P w K mg base CX0 5 (fA mg "_law_shown") (fDat K (fA mg "_law_shown")) ["_law_pen_here", "_law_row"] spShown := by
  have G_law_passed := ok_passed (P := P) (w := w) (base := base) T
  have G_law_pick := ok_pick (P := P) (w := w) (base := base) T
  refine T._law_shown.F.ok sc_law_shown (fun vs H Q E h => ?_) (fun cdv A outer s H vs Q E hr h => ?_)
  · obtain ⟨p, c, l, m, qs, rfl, _⟩ := h
    rfl
  obtain ⟨p, c, l, m, qs, rfl, hP, L, fs, l10, hm, k⟩ := h
  refine ⟨_, (pss_cons (ps_setLc (i := 2) (own := [("_law_ratio_here", 3)]) (g := gName 3) (tt := tYes) (by rfl) sc_law_shown.nd rfl rfl (sw_true rfl rfl rfl (by decide +kernel)) (pi_list (pv 1)) (blkOk_by (own := [("_law_ratio_here", 3)]) (N := ["_law_pen_here", "_law_row", "_law_passed_here", "_law_ratio_here"]) (sc := defScope s_law_shown) (by decide +kernel)) (fun _ _ _ _ _ => pg_name (i := 3) sc_law_shown.nd rfl (Or.inl rfl)) (fun _ _ _ _ _ => pts_nil) (fun _ _ _ _ _ => (pe_c T._law_passed G_law_passed (hr.mono (by decide)) (pa_cons (pv 0) (pa_cons (pv 3) pa_nil)))))
  (pss_one (ps_ret (pe_c T._law_pick G_law_pick (hr.mono (by decide)) (pa_cons (pv 0) (pa_cons (pe_lst (pa_cons (pv 2) (pa_cons (pe_callTy call_tuple_of (by rfl) T.tuple (by decide +kernel) (pa_cons (pv 2) pa_nil)) pa_nil))) pa_nil)))))), ?_⟩
  obtain ⟨vs, ev, al⟩ := L
  have lv := al.len
  refine q_asg (l_lcBL (rqd_bu (co qs)) (rqd_off (co qs)) (k := 3) hP (val_var rfl) (SqL.of ev) (by omega) (fun _ => rfl) (fun D i x H1 ex b1 P1 nD eD => fun Q' q => ?_) (fun D ys H1 b1 P1 nD e1 run ly => ?_))
  · obtain ⟨r, er, t, rfl, lo⟩ := al.get ex
    have hi : i < vs.length := (List.getElem?_eq_some_iff.mp ex).1
    have ec : co qs i = r := by unfold co; rw [er]; rfl
    refine c_passed (va_cons (val_var rfl) (va_cons (val_var rfl) va_nil)) P1 (by omega) (b1.lo hP lo) (fs r (get_mem er)) fun v H2 b2 P2 rq fr => q v H2 b2 (P2.le (by omega)) ⟨by rw [ec]; exact rq, fun z => ?_⟩
    obtain ⟨yD, eD⟩ := eD
    have := fr D z
    rw [this] at eD
    cases eD
  · have ay : All2 (Rq H1) ys qs := All2.mk (by rw [ly, lv]) fun i v q hv hq => by
      have r := (run.get hv).1
      rw [Nat.zero_add, show co qs i = q by unfold co; rw [hq]; rfl] at r
      exact r
    refine r_ret (te := tCall _ _ _ _) (call_1 ((val_var rfl) _ (va_1 (l_two ((val_var rfl) _ (cb_one ((val_var rfl) _ ⟨D, ys, rfl, .inl ⟨SqL.of e1, fun t ht => ⟨by show 2 ≤ sizeLine; decide, fun q hq => ?_⟩⟩⟩)))))))
    have s2 := Same.new' (o := .tup ys) ht
    have s3 := Same.new' (o := .lst [.ref D, .ref t]) hq
    have S := s2.trans s3
    refine ⟨p, c, q, _, _, rfl, P1.same S, by omega, SqL.of upd_same, by show 0 < 2; decide, by show 2 < 1000000000; decide, fun v H4 hv b4 P4 => ?_⟩
    have et := s3 _ _ (upd_same (H := H1) (a := t) (o := .tup ys))
    obtain ⟨kvs, hd⟩ := (P1.same S).dk
    have a4 : All2 (Rq H4) ys qs := ay.imp fun _ _ r => (r.same S).but (P1.same S) b4
    refine k v H4 ?_ ((b1.trans (But.of S)).trans b4) (P4.le (by omega))
    simp only [List.mem_cons, List.not_mem_nil, or_false] at hv
    rcases hv with rfl | rfl
    · exact ⟨D, ys, rfl, .inl (b4 _ _ (S _ _ e1) (ne_of (S _ _ e1) hd (by intro z; cases z))), a4⟩
    · exact ⟨t, ys, rfl, .inr (b4 _ _ et (ne_of et hd (by intro z; cases z))), a4⟩
end
end LW

namespace LW
open PySem PySem.Spec PyProof.Rows L2 GL
section
variable {P : Program} {w : World} {K : PySem.W.Frag} {mg : Str → Option Value} {base : Heap}
theorem int_lo {H : Hp} {t : Addr} {i : Int} (e : H t = some (.tup [.int i, .int 1])) : Lo H t (i : Rat) := by
  unfold Lo
  rw [Rat.num_intCast, Rat.den_intCast]
  exact e
theorem int_sm {i : Int} {n : Nat} (h : i.natAbs < 2 ^ n) (n1 : 1 ≤ n) : Sm n (i : Rat) := by
  refine ⟨by rw [Rat.num_intCast]; exact h, ?_⟩
  rw [Rat.den_intCast]
  exact Nat.one_lt_two_pow (by omega)
theorem run_lst {S : Rat → Prop} {H : Hp} : ∀ {ys : List V} {k : Nat}, Run (fun _ v H => ∃ t q, v = .ref t ∧ Lo H t q ∧ S q) k ys H → ∃ xs, All2 (fun v q => ∃ p, v = V.ref p ∧ Lo H p q) ys xs ∧ ∀ q ∈ xs, S q
  | [], _, _ => ⟨[], .nil, fun _ h => nomatch h⟩
  | y :: ys, k, ⟨⟨t, q, e, lo, sm⟩, h⟩ => by
    obtain ⟨xs, al, s⟩ := run_lst h
    refine ⟨q :: xs, .cons ⟨t, e, lo⟩ al, fun q' hq => ?_⟩
    rcases List.mem_cons.mp hq with rfl | h
    · exact sm
    · exact s _ h

/-! ### drawn matrices -/
theorem but_none {p c : Addr} {m : Nat} {H H2 : Hp} {q : Addr} (b : But p H H2) (P2 : PenAt H2 p c m) (h : H2 q = none) : H q = none := by
  cases e : H q with
  | none => rfl
  | some o =>
    by_cases z : q = p
    · obtain ⟨kvs, hd⟩ := P2.dk
      rw [z, hd] at h
      cases h
    · rw [b q o e z] at h
      cases h
def spLMat : Sp := fun vs H Q _ => ∃ (p c : Addr) (m : Nat), vs = [.ref p, .int 5] ∧ PenAt H p c m ∧ m + 30 < most ∧ ∀ (l : Addr) (H' : Hp) (M : Mt), Lst H' l M.l → Sms 12 M.l → H l = none → But p H H' → PenAt H' p c (m + 30) → Q (.ref l) H'
theorem ok_law_matrix (T : Txt K mg) : FnOk P w K mg base CX0 6 (fA mg "_law_matrix") (fDat K (fA mg "_law_matrix")) ["_law_pen_here", "_law_most"] spLMat := by
  have G_law_ratio := ok_law_ratio (P := P) (w := w) (base := base) T
  have G_law_pick := ok_pick (P := P) (w := w) (base := base) T
  have G_law_times := ok_law_times (P := P) (w := w) (base := base) T
  refine T._law_matrix.F.ok sc_law_matrix (fun vs H Q E h => ?_) (fun cdv A outer s H vs Q E hr h => ?_)
  · obtain ⟨p, c, m, rfl, _⟩ := h
    rfl
  obtain ⟨p, c, m, rfl, hP, hm, k⟩ := h
  refine ⟨_, (pss_cons (ps_setLc (i := 2) (own := [("_law_k", 3)]) (g := gName 3) (tt := tYes) (by rfl) sc_law_matrix.nd rfl rfl (sw_true rfl rfl rfl (by decide +kernel)) (pi_range1 (by rfl) T.range (pa_cons pe_int pa_nil)) (blkOk_by (own := [("_law_k", 3)]) (N := ["_law_pen_here", "_law_most", "_law_row", "_law_k"]) (sc := defScope s_law_matrix) (by decide +kernel)) (fun _ _ _ _ _ => pg_name (i := 3) sc_law_matrix.nd rfl (Or.inl rfl)) (fun _ _ _ _ _ => pts_nil) (fun _ _ _ _ _ => (pe_c T._law_pick G_law_pick (hr.mono (by decide)) (pa_cons (pv 0) (pa_cons (pe_lst (pa_cons (pe_tup (pa_cons pe_int (pa_cons pe_int pa_nil))) (pa_cons (pe_tup (pa_cons pe_int (pa_cons pe_int pa_nil))) (pa_cons (pe_tup (pa_cons (pe_un un_neg pe_int) (pa_cons pe_int pa_nil))) (pa_cons (pe_c T._law_ratio G_law_ratio (hr.mono (by decide)) (pa_cons (pv 0) (pa_cons (pv 1) pa_nil))) pa_nil))))) pa_nil)))))
  (pss_one (ps_ret (pe_c T._law_pick G_law_pick (hr.mono (by decide)) (pa_cons (pv 0) (pa_cons (pe_lst (pa_cons (pv 2) (pa_cons (pv 2) (pa_cons (pe_lst (pa_cons (pe_ix ix_list (pv 2) pe_int (fun _ _ => rfl)) (pa_cons (pe_ix ix_list (pv 2) pe_int (fun _ _ => rfl)) (pa_cons (pe_c T._law_times G_law_times (hr.mono (by decide)) (pa_cons (pe_ix ix_list (pv 2) pe_int (fun _ _ => rfl)) (pa_cons (pe_tup (pa_cons (pe_un un_neg pe_int) (pa_cons pe_int pa_nil))) pa_nil))) (pa_cons (pe_ix ix_list (pv 2) pe_int (fun _ _ => rfl)) pa_nil))))) (pa_cons (pe_op op_rep (pe_lst (pa_cons (pe_ix ix_list (pv 2) pe_int (fun _ _ => rfl)) (pa_cons (pe_ix ix_list (pv 2) pe_int (fun _ _ => rfl)) pa_nil))) pe_int) pa_nil))))) pa_nil)))))), ?_⟩
  refine q_asg (l_rngU (va_1 (val_c _ ⟨4, rfl, by decide, by decide, rngB (k := 4) (R := fun D i v H => ∃ t q, v = .ref t ∧ Lo H t q ∧ Sm 10 q) (fun D i v H H' p c m ⟨t, q, e, lo, sm⟩ P b => ⟨t, q, e, b.lo P lo, sm⟩) (fun D i v H ys zs ⟨t, q, e, lo, sm⟩ h => ⟨t, q, e, lo_upd h lo, sm⟩) hP (by decide) (by decide) (fun _ => rfl) (fun D i x H2 hi b2 P2 _ _ => fun Q q => ?_) (fun D ys H2 b2 P2 nD e2 r2 l2 => ?_)⟩)))
  · have hi : i < 4 := hi
    refine call_1 ((val_var rfl) _ (va_1 (l_s (va_x (l_tup (va_cons val_c (va_cons val_c va_nil)) (by show 2 ≤ 100000; decide) fun t0 h0 => va_x (l_tup (va_cons val_c (va_cons val_c va_nil)) (by show 2 ≤ 100000; decide) fun t1 h1 => va_x (l_tup (va_cons (v_neg val_c) (va_cons val_c va_nil)) (by show 2 ≤ 100000; decide) fun t2 h2 => va_1 (c_call (va_cons (val_var rfl) (va_cons (val_var rfl) va_nil)) ⟨p, c, _, 5, rfl, ((P2.same (Same.new' h0)).same (Same.new' h1)).same (Same.new' h2), by omega, by decide, by decide, fun t3 H6 q3 lo3 sm3 b6 P6 => ⟨by show 4 ≤ sizeLine; decide, fun s hs => ?_⟩⟩))))))))
    have s0 := Same.new' (o := .tup [.int 0, .int 1]) h0
    have s1 := Same.new' (o := .tup [.int 1, .int 1]) h1
    have s2 := Same.new' (o := .tup [.int (-1), .int 1]) h2
    have s3 := Same.new' (o := .lst [.ref t0, .ref t1, .ref t2, .ref t3]) hs
    have P5 := ((P2.same s0).same s1).same s2
    refine ⟨p, c, s, _, _, rfl, P6.same s3, by omega, SqL.of upd_same, by show 0 < 4; decide, by show 4 < 1000000000; decide, fun v H8 hv b8 P8 => ?_⟩
    have B := (((But.of ((s0.trans s1).trans s2)).trans b6).trans (But.of s3)).trans b8
    refine q v H8 B (P8.le (by omega)) ?_
    have lo : ∀ {t : Addr} {q : Rat}, Lo (upd (upd (upd H2 t0 (.tup [.int 0, .int 1])) t1 (.tup [.int 1, .int 1])) t2 (.tup [.int (-1), .int 1])) t q → Lo H8 t q := fun h => b8.lo (P6.same s3) ((b6.lo P5 h).same s3)
    simp only [List.mem_cons, List.not_mem_nil, or_false] at hv
    rcases hv with rfl | rfl | rfl | rfl
    · exact ⟨t0, ((0 : Int) : Rat), rfl, lo ((int_lo upd_same).same (s1.trans s2)), int_sm (by decide) (by decide)⟩
    · exact ⟨t1, ((1 : Int) : Rat), rfl, lo ((int_lo upd_same).same s2), int_sm (by decide) (by decide)⟩
    · exact ⟨t2, ((-1 : Int) : Rat), rfl, lo (int_lo upd_same), int_sm (by decide) (by decide)⟩
    · exact ⟨t3, q3, rfl, b8.lo (P6.same s3) (lo3.same s3), sm3⟩
  · obtain ⟨xs, al, sm⟩ := run_lst (S := Sm 10) r2
    have lx : xs.length = 4 := by
      have := al.len
      have l4 : ys.length = 4 := l2
      omega
    obtain ⟨a, b, cc, d, rfl⟩ : ∃ a b c d, xs = [a, b, c, d] := by
      match xs, lx with
      | [a, b, c, d], _ => exact ⟨a, b, c, d, rfl⟩
    obtain ⟨w, x, y, z, e, l1, l2, l3, l4⟩ := lst4 (H := H2) (t := D) ⟨ys, e2, al⟩
    have sa := sm a (by simp)
    have sb := sm b (by simp)
    have i0 := fun H' (h : L2.Same H2 H') => v_ixL (K := K) (n := 0) (H := H') (σ := [some (.ref p), some (.int 5), some (.ref D), none]) (te := tVar 2) (tb := tC (.int 0)) (val_var rfl) val_c (SqL.of (h _ _ e)) rfl
    have i1 := fun H' (h : L2.Same H2 H') => v_ixL (K := K) (n := 1) (H := H') (σ := [some (.ref p), some (.int 5), some (.ref D), none]) (te := tVar 2) (tb := tC (.int 1)) (val_var rfl) val_c (SqL.of (h _ _ e)) rfl
    have S0 := L2.Same.refl H2
    refine r_ret (te := tCall _ _ _ _) (call_1 ((val_var rfl) _ (va_1 (l_s (va_s (val_var rfl) (va_s (val_var rfl) (va_x (l_s (va_s (i0 _ S0) (va_s (i1 _ S0) (va_x (call_1 ((i1 _ S0) _ (va_1 (l_tup (va_cons (v_neg val_c) (va_cons val_c va_nil)) (by show 2 ≤ 100000; decide) fun t1 h1 => ?_)))))))))))))))
    have s1 := Same.new' (o := .tup [.int (-1), .int 1]) h1
    refine cs_ltimes (l2.same s1) (int_lo upd_same) sb (int_sm (n := 1) (by decide) (by decide)) (by decide) (by decide) fun t2 H4 s4 lo4 => va_1 ((i0 _ (s1.trans s4)) _ ⟨by show 4 ≤ sizeLine; decide, fun q1 h2 => ?_⟩)
    have s5 := Same.new' (o := .lst [.ref w, .ref x, .ref t2, .ref w]) h2
    have S5 := (s1.trans s4).trans s5
    refine va_1 (op_in (l_s (va_s (i0 _ S5) (va_s (i1 _ S5) ⟨by show 2 ≤ sizeLine; decide, fun q2 h3 => ?_⟩))))
    have s6 := Same.new' (o := .lst [.ref w, .ref x]) h3
    refine val_c _ ⟨q2, 2, _, rfl, rfl, upd_same, by decide, by decide, by show 2 * 2 ≤ sizeLine; decide, fun q3 h4 => ⟨by show 4 ≤ sizeLine; decide, fun q4 h5 => ?_⟩⟩
    have s7 := Same.new' (o := .lst [.ref w, .ref x, .ref w, .ref x]) h4
    have s8 := Same.new' (o := .lst [.ref D, .ref D, .ref q1, .ref q3]) h5
    have S8 := ((S5.trans s6).trans s7).trans s8
    refine ⟨p, c, q4, _, _, rfl, P2.same S8, by omega, SqL.of upd_same, by show 0 < 4; decide, by show 4 < 1000000000; decide, fun v H9 hv b9 P9 => ?_⟩
    have B := (b2.trans (But.of S8)).trans b9
    have P9 := P9.le (show _ ≤ m + 30 by show m + 4 * 4 + 1 ≤ m + 30; omega)
    have P8 := P2.same S8
    have cells : ∀ {l : Addr} {xs : List V}, upd (upd (upd (upd H4 q1 (.lst [.ref w, .ref x, .ref t2, .ref w])) q2 (.lst [.ref w, .ref x])) q3 (.lst [.ref w, .ref x, .ref w, .ref x])) q4 (.lst [.ref D, .ref D, .ref q1, .ref q3]) l = some (.lst xs) → H9 l = some (.lst xs) := fun e => by
      obtain ⟨kvs, hd⟩ := P8.dk
      exact b9 _ _ e (ne_of e hd (by intro z; cases z))
    have lo : ∀ {t : Addr} {q : Rat}, Lo H2 t q → Lo H9 t q := fun h => b9.lo P8 (h.same S8)
    have lo4' : Lo H9 t2 (b * ((-1 : Int) : Rat)) := b9.lo P8 ((((lo4.same s5).same s6).same s7).same s8)
    have sc := sm cc (by simp)
    have sd := sm d (by simp)
    have m12 : ∀ {q : Rat}, Sm 10 q → Sm 12 q := fun h => h.mono (by decide)
    have sb1 : Sm 12 (b * ((-1 : Int) : Rat)) := (sb.mul (int_sm (n := 1) (by decide) (by decide))).mono (by decide)
    simp only [List.mem_cons, List.not_mem_nil, or_false] at hv
    rcases hv with rfl | rfl | rfl | rfl
    · refine k D H9 ⟨a, b, cc, d⟩ ⟨_, cells (S8 _ _ e), .cons ⟨w, rfl, lo l1⟩ (.cons ⟨x, rfl, lo l2⟩ (.cons ⟨y, rfl, lo l3⟩ (.cons ⟨z, rfl, lo l4⟩ .nil)))⟩ (fun q hq => ?_) nD B P9
      simp only [Mt.l, List.mem_cons, List.not_mem_nil, or_false] at hq
      rcases hq with rfl | rfl | rfl | rfl <;> exact m12 (by assumption)
    · refine k D H9 ⟨a, b, cc, d⟩ ⟨_, cells (S8 _ _ e), .cons ⟨w, rfl, lo l1⟩ (.cons ⟨x, rfl, lo l2⟩ (.cons ⟨y, rfl, lo l3⟩ (.cons ⟨z, rfl, lo l4⟩ .nil)))⟩ (fun q hq => ?_) nD B P9
      simp only [Mt.l, List.mem_cons, List.not_mem_nil, or_false] at hq
      rcases hq with rfl | rfl | rfl | rfl <;> exact m12 (by assumption)
    · refine k q1 H9 ⟨a, b, b * ((-1 : Int) : Rat), a⟩ ⟨_, cells (s8 _ _ (s7 _ _ (s6 _ _ upd_same))), .cons ⟨w, rfl, lo l1⟩ (.cons ⟨x, rfl, lo l2⟩ (.cons ⟨t2, rfl, lo4'⟩ (.cons ⟨w, rfl, lo l1⟩ .nil)))⟩ (fun q hq => ?_) (but_none b2 P2 ((s1.trans s4).free h2)) B P9
      simp only [Mt.l, List.mem_cons, List.not_mem_nil, or_false] at hq
      rcases hq with rfl | rfl | rfl | rfl
      · exact m12 sa
      · exact m12 sb
      · exact sb1
      · exact m12 sa
    · refine k q3 H9 ⟨a, b, a, b⟩ ⟨_, cells (s8 _ _ upd_same), .cons ⟨w, rfl, lo l1⟩ (.cons ⟨x, rfl, lo l2⟩ (.cons ⟨w, rfl, lo l1⟩ (.cons ⟨x, rfl, lo l2⟩ .nil)))⟩ (fun q hq => ?_) (but_none b2 P2 ((S5.trans s6).free h4)) B P9
      simp only [Mt.l, List.mem_cons, List.not_mem_nil, or_false] at hq
      rcases hq with rfl | rfl | rfl | rfl <;> exact m12 (by assumption)
end
end LW


/-! dicts whose keys are pairs of ints: copied by dict(d), written as a display, walked -/
namespace L2
open PySem PySem.Spec PyProof.Rows
section
variable {X : Cx}
/-- a pair's hash -/
def pairH (i j : Int) : Int := reduceHash (Builtin.Tuple.tupleHashOf [hashInt i, hashInt j])
abbrev kP (i j : Int) : List Key := [Sum.inl i, Sum.inl j]
theorem hash_pair {P : Program} {w : World} {i j : Int} : (tupleKind (mixKind P w)).hash (kP i j) = pairH i j := rfl
def rDictT : List V → Hp → VK → Prop := fun xs H Q => ∃ (a : Addr) (kvs : List (List Key × V)) (ps : List (Int × Int)), xs = [.ref a] ∧ Rd H a (.dT kvs) ∧ kvs.map (·.1) = ps.map (fun p => kP p.1 p.2) ∧ (ps.map fun p => pairH p.1 p.2).Nodup ∧
  ∀ p, H p = none → Q (.ref p) (upd H p (.dT kvs))
theorem cr_dictT (hu : X.A.units + 64 < cLine) : CallR X (.type "dict") rDictT := by
  intro pins s σ H xs us Q I r q
  obtain ⟨o, kvs, ps, rfl, hd, hks, hap, q⟩ := q
  obtain ⟨u, rfl, rx⟩ := r.one
  cases rx
  obtain ⟨z, hoS, more, rel, ho⟩ := dt_rd I.hok hd
  have hl : more.length ≤ sizeLine := by rw [← Paired.length rel]; exact z
  have ek : more.map (·.1) = ps.map (fun p => kP p.1 p.2) := by
    rw [← hks]
    clear hks hd ho z hl q
    induction rel with
    | nil => rfl
    | cons h t ih => rw [List.map_cons, List.map_cons, ih, h.1]
  have hn : (more.map (·.1)).Nodup := ho.nodup
  have hh : (more.map fun x => (tupleKind (mixKind X.prog X.w)).hash x.1).Nodup := by
    have e : (more.map fun x => (tupleKind (mixKind X.prog X.w)).hash x.1) = ps.map fun p => pairH p.1 p.2 := by
      have e1 := congrArg (List.map (tupleKind (mixKind X.prog X.w)).hash) ek
      rw [List.map_map, List.map_map] at e1
      exact e1
    rw [e]; exact hap
  refine callType_codes (Q₁ := fun obj s₁ => obj = .ref s.heap.objs.size ∧ s₁ = { s with heap := s.heap.push { cls := .type "dict", data := .dict #[] } }) F.kt_called_dict (F.kt_typeCall_dict_1 _) F.entry_dict_init (kt_code_dict_new _ ⟨rfl, rfl⟩) ?_
  rintro obj s₁ ⟨rfl, rfl⟩
  have hnew : (s.heap.push { cls := .type "dict", data := .dict #[] }).DictOfH (tupleKind (mixKind X.prog X.w)) s.heap.objs.size [] := Heap.DictOfH.new s.heap
  have hty0 : ∀ x ∈ more, (tupleKind (mixKind X.prog X.w)).is s.heap x.1 x.2.1 := by
    obtain ⟨_, _, _, _, _, _, _, his, _⟩ := id ho
    exact his
  have pk : ∀ b ob, s.heap.get? b = some ob → (s.heap.push { cls := .type "dict", data := .dict #[] }).get? b = some ob := fun b ob e => Heap.get?_push_of_some _ e
  have ho' : (s.heap.push { cls := .type "dict", data := .dict #[] }).DictOfH (tupleKind (mixKind X.prog X.w)) o more := by
    obtain ⟨oo, es, ep, h1, h2, h3, h4, h5, h6⟩ := id ho
    exact ⟨oo, es, ep, pk _ _ h1, h2, h3, h4, fun x hx => tupleKind_stays.stays (fun b ob _ _ e _ => pk b ob e) (h5 x hx), h6⟩
  have hdo : s.heap.objs.size ≠ o := by
    obtain ⟨_, _, _, hg, _⟩ := ho
    exact fun e => absurd (Heap.lt_size hg) (by rw [e]; exact Nat.lt_irrefl _)
  refine ⟨hnew.typeIs, F.args_dict_init_2 _ _, ?_⟩
  unfold Builtin.«dict.__init__»
  refine wpAny_bind ?_
  unfold Builtin.Dict.selfAndRest
  refine wpAny_bind (wpAny_notOrdered_dict hnew.typeIs ?_)
  show wpAny _ _ (pure (s.heap.objs.size, [Value.ref o])) _ _ _
  refine wpAny_pure ?_
  show wpAny _ _ (Builtin.Dict.updateFrom "dict.__init__" s.heap.objs.size (.ref o) [] .none) _ _ _
  refine updateFrom_dictH (knd := tupleKind (mixKind X.prog X.w)) .none (show X.A.in1.in1.units < cLine from by have : X.A.in1.in1.units = X.A.units + 2 := rfl; omega) hdo hoS hnew ho' (.inr ⟨fun x hx => ?_, hh⟩) (by rw [List.length_nil]; omega) (fun h' hd' _ hs' => ?_)
  · exact tupleKind_stays.tuple (s := { s with heap := s.heap.push { cls := .type "dict", data := .dict #[] } }) (tupleKind_stays.stays (fun b ob _ _ e _ => pk b ob e) (hty0 x hx))
  · rw [storedAllH_nil_of_nodup more hn] at hd'
    refine ⟨rfl, ?_⟩
    have hm : (s.heap.objs.size == sysModules) = false := beq_eq_false_iff_ne.mpr (Nat.ne_of_gt I.big)
    obtain ⟨oo, es, ep, h1, h2, h3, h4, h5, h6⟩ := id hd'
    have fr := I.hok.fresh (Nat.le_refl s.heap.objs.size)
    refine ⟨.ref s.heap.objs.size, upd H s.heap.objs.size (.dT kvs), I.laid (t' := s.toks) (fun b u e => (hs'.2 b (Nat.ne_of_lt (Heap.lt_size e))).trans (Heap.get?_push_of_some _ e)) (Nat.le_refl _)
      (show ObjOk X.prog X.w _ _ _ (.dT kvs) from ⟨z, hm, more, ?_, oo, es, ep, h1, h2, h3, h4, h6⟩), rfl, q _ fr⟩
    exact KT.keeps rel fun b ys e => by rw [upd_ne (ne_of_none e fr)]; exact e
end
end L2

namespace L2
open PySem PySem.Spec PyProof.Rows
section
def mergeT (kvs more : List (List Key × V)) : List (List Key × V) := more.foldl (fun acc kv => putK acc kv.1 kv.2) kvs
theorem KT.merge {H : Hp} : ∀ {more : List (List Key × V)} {rs : List (List Key × Addr × Value)} {kvs : List (List Key × V)} {vs : List (List Key × Addr × Value)}, KT H more rs → KT H kvs vs → KT H (mergeT kvs more) (storedAllH vs rs) := by
  intro more rs kvs vs r
  unfold KT at r
  induction r generalizing kvs vs with
  | nil => intro q; exact q
  | @cons p q ps qs h t ih =>
    intro r0
    have e : KT H (putK kvs p.1 p.2) (storedH vs q.1 q.2.1 q.2.2) := by
      have := r0.put p.1 h.2.1 h.2.2
      rw [← h.1]; exact this
    exact ih e
theorem length_mergeT : ∀ (more kvs : List (List Key × V)), (mergeT kvs more).length ≤ kvs.length + more.length
  | [], kvs => by show kvs.length ≤ kvs.length + 0; omega
  | p :: r, kvs => by
    have h1 := length_mergeT r (putK kvs p.1 p.2)
    have h2 := length_putK kvs p.1 p.2
    show (mergeT (putK kvs p.1 p.2) r).length ≤ _
    rw [List.length_cons]; omega
/-- a pair of values is a key and its value -/
def KeyOf (H : Hp) (q : V × V) (kv : List Key × V) : Prop := (∃ b, q.1 = .ref b ∧ H b = some (.tup (kv.1.map kV))) ∧ q.2 = kv.2
theorem carriesT_of {P : Program} {w : World} {H : Hp} {h : Heap} (ok : HOk P w H h) : ∀ {ps : List (V × V)} {kvs : List (List Key × V)} {ws : List (Value × Value)}, Paired (KeyOf H) ps kvs → VV ps ws → ∃ rs, CarriesH (tupleKind (mixKind P w)) h ws rs ∧ KT H kvs rs
  | _, _, _, .nil, r => by cases r; exact ⟨[], True.intro, .nil⟩
  | (_, _) :: _, (k, v) :: _, _, .cons ⟨⟨b, e1, e2⟩, e3⟩ t, r => by
    cases r with
    | @cons a c as bs h1 t1 =>
      obtain ⟨rs, cr, q⟩ := carriesT_of ok t t1
      obtain ⟨b1, b2⟩ := c
      obtain ⟨r1, r2⟩ := h1
      dsimp only at e1 e2 e3 r1 r2
      subst e1
      subst e3
      cases (show b1 = Value.ref b from r1)
      exact ⟨(k, b, b2) :: rs, ⟨rfl, rfl, key_of ok e2, cr⟩, .cons ⟨rfl, e2, r2⟩ q⟩
/-- {k: v, ..} with keys tuples; the new dict stands empty while the pairs are made -/
def tDispT (trs : List (TE × TE)) : TE := fun σ H Q => ∀ p, H p = none → tPairs trs σ (upd H p (.dT [])) fun ps H2 => H2 p = some (.dT []) ∧ ∃ kvs : List (List Key × V), Paired (KeyOf H2) ps kvs ∧ kvs.length ≤ 15 ∧ Q (.ref p) (upd H2 p (.dT (mergeT [] kvs)))
theorem pe_dispT {X : Cx} {pos : Pos} {keys : List (Option Expr)} {values : List Expr} {trs : List (TE × TE)} (hu : X.A.units + 64 < cLine) (h : PPs X pos keys values trs) (hall : keys.all (·.isSome) = true) (hl : keys.length = values.length) (h0 : keys ≠ [])
    (h15 : keys.length ≤ 15) : PE X (.Dict keys values pos) (tDispT trs) := by
  refine ⟨fun pins s σ H Q I q => ?_⟩
  have hn := I.hok.fresh (Nat.le_refl s.heap.objs.size)
  have I1 := I.laid (a := s.heap.objs.size) (o := .dT []) (h' := s.heap.push { cls := .type "dict", data := .dict #[] }) (t' := s.toks) (fun _ _ q => Heap.get?_push_of_some _ q) (Nat.le_refl _) (dt_empty s.heap I.big)
  have ln := pairTrees_length keys values X.env pos hall hl
  rw [arm_eval_Dict, zip_pairTrees keys values X.env pos hall hl, dictDisplay_pairs (pairTrees keys values X.env pos) (fun he => by
    rw [he] at ln
    exact h0 (List.length_eq_zero_iff.mp ln.symm)) (by omega)]
  refine wpAny_bind (wpAny_standAt (wpAny_bind (wpAny_subDictH (knd := tupleKind (mixKind X.prog X.w)) (show X.A.units < cLine by omega) (by omega)
    (thn (h.run pins _ σ _ _ I1 (q _ hn)) fun ws s2 ⟨ps, H2, I2, rel, e, kvs, pr, lk, q2⟩ => ?_))))
  obtain ⟨rs, c, rk⟩ := carriesT_of I2.hok pr rel
  obtain ⟨z, hd, vs0, r0, dd⟩ := dt_of I2.hok e
  cases r0
  refine ⟨rs, c, dd, fun h' tk dd' hs => wpAny_pure ⟨.ref s.heap.objs.size, _, ?_, rfl, q2⟩⟩
  have hz : (mergeT [] kvs).length ≤ sizeLine := by
    have h1 := length_mergeT kvs []
    rw [List.length_nil] at h1
    rw [sizeLine_eq]; omega
  obtain ⟨qo, es, ep, hq, h2, h3, h4, _, h5⟩ := dd'
  have J := d_write (t' := tk) I2 (ob := .dT (mergeT [] kvs)) (by rw [e]; exact True.intro) hs ⟨qo, hq⟩ ⟨hz, hd, _, (rk.merge .nil).keeps fun c ys ec => by
    rw [upd_ne (ne_of ec e (fun z => nomatch z))]
    exact ec, qo, es, ep, hq, h2, h3, h4, h5⟩
  exact J
end
end L2

namespace L2
open PySem PySem.Spec PyProof.Rows
/-- locked, or locked by the caller -/
def tLockO (t : TS) : TS := fun D σ H => tLock t D σ H ∨ t D σ H
theorem ps_lockO {X : Cx} {st : Stmt} {t : TS} (h : PS X st t) : PS X st (tLockO t) := ⟨fun pins s σ H D I hw => hw.elim (fun z => (ps_lock h).run pins s σ H D I z) fun z => h.run pins s σ H D I z⟩
section
variable {σ : L2.St} {H : Hp} {d : Addr} {kvs : List (List Key × V)} {i j : Nat} {tb : TS} {D : Ends} {u : TS}
theorem tkeys_walk {HL : Hp} {od : Obj} (hi : σ[i]? = some (some (.ref d))) (e : HL d = some (.frz od (.dT kvs))) (Pv : Nat → L2.St → Hp → Prop) (h0 : Pv 0 σ HL)
    (hq : ∀ i σ H', Pv i σ H' → H' d = HL d)
    (hs : ∀ i k v q σ H', kvs[i]? = some (k, v) → Pv i σ H' → H' q = some (.tup (k.map kV)) → ∀ D' : Ends, D'.nx = Pv (i + 1) → D'.ct = Pv (i + 1) → tb D' (σ.set j (some (.ref q))) H')
    (hd : ∀ σ H', Pv kvs.length σ H' → D.nx σ H') : tFor (iKeys (tVar i)) (gName j) tb D σ HL := by
  refine ⟨_, hi, d, od, rfl, .inr ⟨kvs, e, fun n m σ H' => m = kvs.length - n ∧ n ≤ kvs.length ∧ Pv n σ H', ⟨_, rfl, Nat.zero_le _, h0⟩, ?_⟩⟩
  rintro n m σ H' ⟨rfl, hn, p⟩
  have q := hq n σ H' p
  rw [e] at q
  rcases Nat.lt_or_ge n kvs.length with lt | ge
  · refine .inr ⟨⟨q, lt⟩, Pv (n + 1), fun σ' H2 p' => ⟨kvs.length - (n + 1), by omega, rfl, lt, p'⟩, ?_⟩
    rintro v H2 ⟨rfl, k, w, t, hk, rfl, ht⟩
    exact hs n k w t σ H2 hk p ht _ rfl rfl
  · obtain rfl : n = kvs.length := by omega
    exact .inl ⟨⟨q, Nat.le_refl _⟩, hd σ H' p⟩
/-- for k in d: .., d a dict whose keys are tuples -/
theorem q_keys (hi : σ[i]? = some (some (.ref d))) (hd : Rd H d (.dT kvs)) (Pv : Hp → Nat → L2.St → Hp → Prop)
    (h0 : ∀ HL, (∀ b, b ≠ d → HL b = H b) → Rd HL d (.dT kvs) → Pv HL 0 σ HL)
    (hq : ∀ HL i σ H', Pv HL i σ H' → H' d = HL d)
    (hs : ∀ HL i k v q σ H', Rd HL d (.dT kvs) → kvs[i]? = some (k, v) → Pv HL i σ H' → H' q = some (.tup (k.map kV)) → ∀ D' : Ends, D'.nx = Pv HL (i + 1) → D'.ct = Pv HL (i + 1) → tb D' (σ.set j (some (.ref q))) H')
    (he : ∀ HL σ H', Pv HL kvs.length σ H' → ∀ H'', (∀ b, b ≠ d → H'' b = H' b) → H'' d = H d → u D σ H'') :
    tSeq (tLockO (tFor (iKeys (tVar i)) (gName j) tb)) u D σ H := by
  rcases hd with hd | ⟨od, hd⟩
  · refine .inl ⟨d, _, hd, True.intro, fun od => ?_⟩
    have e : upd H d (.frz od (.dT kvs)) d = some (.frz od (.dT kvs)) := upd_same
    refine tkeys_walk hi e (Pv (upd H d (.frz od (.dT kvs)))) (h0 _ (fun b nb => upd_ne nb) (.inr ⟨od, e⟩)) (fun i σ H' p => hq _ i σ H' p) (fun i k v q σ H' hk p ht => hs _ i k v q σ H' (.inr ⟨od, e⟩) hk p ht) (fun σ H' p => ⟨?_, ?_⟩)
    · have z := hq _ _ σ H' p
      rw [e] at z
      exact z
    · exact he _ σ H' p _ (fun b nb => upd_ne nb) (by rw [upd_same, hd])
  · refine .inr ?_
    exact tkeys_walk (D := { D with nx := u D }) hi hd (Pv H) (h0 H (fun b nb => rfl) (.inr ⟨od, hd⟩)) (fun i σ H' p => hq _ i σ H' p) (fun i k v q σ H' hk p ht => hs _ i k v q σ H' (.inr ⟨od, hd⟩) hk p ht) (fun σ H' p => he H σ H' p H' (fun b nb => rfl) (hq _ _ σ H' p))
end
end L2

/-! sums of entries: polynomials of two letters as lists of powers and ratios -/
namespace LW
open PySem PySem.Spec PyProof.Rows L2 GL
abbrev En := (Nat × Nat) × Rat
def rs {α : Type} (f : α → Rat) : List α → Rat
  | [] => 0
  | a :: l => f a + rs f l
theorem rs_app {α : Type} (f : α → Rat) : ∀ (l m : List α), rs f (l ++ m) = rs f l + rs f m
  | [], m => by show rs f m = 0 + rs f m; grind
  | a :: l, m => by
    show f a + rs f (l ++ m) = f a + rs f l + rs f m
    rw [rs_app f l m]; grind
theorem rs_congr {α : Type} {f g : α → Rat} : ∀ {l : List α}, (∀ a ∈ l, f a = g a) → rs f l = rs g l
  | [], _ => rfl
  | a :: l, h => by
    show f a + rs f l = g a + rs g l
    rw [h a (List.mem_cons_self ..), rs_congr (l := l) fun b hb => h b (List.mem_cons_of_mem _ hb)]
theorem rs_add {α : Type} (f g : α → Rat) : ∀ (l : List α), rs (fun a => f a + g a) l = rs f l + rs g l
  | [] => by show (0 : Rat) = 0 + 0; grind
  | a :: l => by
    show f a + g a + rs _ l = f a + rs f l + (g a + rs g l)
    rw [rs_add f g l]; grind
theorem rs_mulL {α : Type} (c : Rat) (f : α → Rat) : ∀ (l : List α), rs (fun a => c * f a) l = c * rs f l
  | [] => by show (0 : Rat) = c * 0; grind
  | a :: l => by
    show c * f a + rs _ l = c * (f a + rs f l)
    rw [rs_mulL c f l]; grind
theorem rs_zero {α : Type} {f : α → Rat} : ∀ {l : List α}, (∀ a ∈ l, f a = 0) → rs f l = 0
  | [], _ => rfl
  | a :: l, h => by
    show f a + rs f l = 0
    rw [h a (List.mem_cons_self ..), rs_zero (l := l) fun b hb => h b (List.mem_cons_of_mem _ hb)]; grind
theorem rs_perm {α : Type} {f : α → Rat} {l m : List α} (h : l.Perm m) : rs f l = rs f m := by
  induction h with
  | nil => rfl
  | cons a _ ih => show f a + rs f _ = f a + rs f _; rw [ih]
  | swap a b l => show f b + (f a + rs f l) = f a + (f b + rs f l); grind
  | trans _ _ a b => exact a.trans b
theorem rs_map {α β : Type} (f : β → Rat) (g : α → β) : ∀ (l : List α), rs f (l.map g) = rs (fun a => f (g a)) l
  | [] => rfl
  | a :: l => by show f (g a) + rs f (l.map g) = _; rw [rs_map f g l]; rfl
theorem rs_filter {α : Type} (f : α → Rat) (p : α → Bool) : ∀ (l : List α), (∀ a ∈ l, p a = false → f a = 0) → rs f (l.filter p) = rs f l
  | [], _ => rfl
  | a :: l, h => by
    have ih := rs_filter f p l fun b hb => h b (List.mem_cons_of_mem _ hb)
    rw [List.filter_cons]
    by_cases e : p a = true
    · rw [if_pos e]
      show f a + _ = f a + _
      rw [ih]
    · rw [if_neg e, ih]
      show _ = f a + _
      rw [h a (List.mem_cons_self ..) (by simpa using e)]; grind
/-- the coefficient at x ^ i y ^ j -/
def cf (L : List En) (i j : Nat) : Rat := rs (fun e => if e.1 = (i, j) then e.2 else 0) L
theorem cf_nil {i j : Nat} : cf [] i j = 0 := rfl
theorem cf_app {L M : List En} {i j : Nat} : cf (L ++ M) i j = cf L i j + cf M i j := rs_app _ _ _
theorem cf_one {k : Nat × Nat} {q : Rat} {i j : Nat} : cf [(k, q)] i j = if k = (i, j) then q else 0 := by
  show (if k = (i, j) then q else 0) + 0 = _
  grind
theorem cf_cons {e : En} {L : List En} {i j : Nat} : cf (e :: L) i j = (if e.1 = (i, j) then e.2 else 0) + cf L i j := rfl
theorem cf_out {L : List En} {i j : Nat} (h : (i, j) ∉ L.map (·.1)) : cf L i j = 0 := rs_zero fun a ha => by
  rw [if_neg]
  intro z
  exact h (List.mem_map.mpr ⟨a, ha, z⟩)
theorem cf_in {k : Nat × Nat} {q : Rat} : ∀ {L : List En}, (k, q) ∈ L → (L.map (·.1)).Nodup → cf L k.1 k.2 = q
  | [], h, _ => nomatch h
  | e :: L, h, nd => by
    rw [List.map_cons, List.nodup_cons] at nd
    rw [cf_cons]
    rcases List.mem_cons.mp h with rfl | h
    · rw [if_pos rfl, cf_out nd.1]; grind
    · have : e.1 ≠ k := fun z => nd.1 (by rw [z]; exact List.mem_map.mpr ⟨_, h, rfl⟩)
      rw [if_neg this, cf_in h nd.2]; grind
/-- an entry stored -/
def putE (L : List En) (k : Nat × Nat) (q : Rat) : List En := if L.any (fun e => decide (e.1 = k)) then L.map (fun e => if e.1 = k then (e.1, q) else e) else L ++ [(k, q)]
theorem keys_put {L : List En} {k : Nat × Nat} {q : Rat} : (putE L k q).map (·.1) = if k ∈ L.map (·.1) then L.map (·.1) else L.map (·.1) ++ [k] := by
  unfold putE
  by_cases h : k ∈ L.map (·.1)
  · have h2 : L.any (fun e => decide (e.1 = k)) = true := by
      rw [List.any_eq_true]
      obtain ⟨e, he, rfl⟩ := List.mem_map.mp h
      exact ⟨e, he, by simp⟩
    rw [if_pos h2, if_pos h, List.map_map]
    exact List.map_congr_left fun e _ => by
      show (if e.1 = k then (e.1, q) else e).1 = e.1
      split <;> rfl
  · have h2 : ¬ L.any (fun e => decide (e.1 = k)) = true := by
      intro z
      obtain ⟨e, he, hk⟩ := List.any_eq_true.mp z
      exact h (List.mem_map.mpr ⟨e, he, by simpa using hk⟩)
    rw [if_neg h2, if_neg h, List.map_append]
    rfl
theorem nodup_put {L : List En} {k : Nat × Nat} {q : Rat} (h : (L.map (·.1)).Nodup) : ((putE L k q).map (·.1)).Nodup := by
  rw [keys_put]
  split
  · exact h
  · rename_i z
    exact List.nodup_append.mpr ⟨h, by simp, fun a ha b hb => by
      rw [List.mem_singleton.mp hb]
      exact fun e => z (e ▸ ha)⟩
theorem cf_put {L : List En} {k : Nat × Nat} {q : Rat} {i j : Nat} (nd : (L.map (·.1)).Nodup) : cf (putE L k q) i j = if k = (i, j) then q else cf L i j := by
  by_cases h : k ∈ L.map (·.1)
  · by_cases e : k = (i, j)
    · subst e
      rw [if_pos rfl]
      have hm : ((i, j), q) ∈ putE L (i, j) q := by
        unfold putE
        have h2 : L.any (fun e => decide (e.1 = (i, j))) = true := by
          rw [List.any_eq_true]
          obtain ⟨e, he, z⟩ := List.mem_map.mp h
          exact ⟨e, he, by simpa using z⟩
        rw [if_pos h2]
        obtain ⟨e, he, z⟩ := List.mem_map.mp h
        exact List.mem_map.mpr ⟨e, he, by rw [if_pos z, z]⟩
      exact cf_in hm (nodup_put nd)
    · rw [if_neg e]
      unfold putE
      split
      · unfold cf
        rw [rs_map]
        refine rs_congr fun a _ => ?_
        by_cases z : a.1 = k
        · rw [if_pos z]
          show (if a.1 = (i, j) then q else 0) = _
          rw [if_neg (by rw [z]; exact e), if_neg (by rw [z]; exact e)]
        · rw [if_neg z]
      · rw [cf_app, cf_one, if_neg e]; grind
  · have h2 : ¬ L.any (fun e => decide (e.1 = k)) = true := by
      intro z
      obtain ⟨e, he, hk⟩ := List.any_eq_true.mp z
      exact h (List.mem_map.mpr ⟨e, he, by simpa using hk⟩)
    unfold putE
    rw [if_neg h2, cf_app, cf_one]
    split
    · rename_i z
      rw [cf_out (z ▸ h)]; grind
    · grind
theorem mem_put {L : List En} {k : Nat × Nat} {q : Rat} {e : En} (h : e ∈ putE L k q) : e = (k, q) ∨ e ∈ L := by
  unfold putE at h
  split at h
  · obtain ⟨a, ha, rfl⟩ := List.mem_map.mp h
    split
    · rename_i z
      exact .inl (by rw [z])
    · exact .inr ha
  · rcases List.mem_append.mp h with h | h
    · exact .inr h
    · exact .inl (List.mem_singleton.mp h)
theorem len_put {L : List En} {k : Nat × Nat} {q : Rat} : (putE L k q).length ≤ L.length + 1 := by
  unfold putE
  split
  · rw [List.length_map]; omega
  · rw [List.length_append]; exact Nat.le_refl _
/-- a sum over entries, taken by coefficients over a row of powers that holds all -/
theorem rs_box (g : Nat × Nat → Rat) {B : List (Nat × Nat)} (nb : B.Nodup) : ∀ {L : List En}, (∀ e ∈ L, g e.1 ≠ 0 → e.1 ∈ B) → rs (fun e => e.2 * g e.1) L = rs (fun p => cf L p.1 p.2 * g p) B
  | [], _ => (rs_zero fun p _ => by show (0 : Rat) * _ = 0; grind).symm
  | e :: L, h => by
    show e.2 * g e.1 + rs _ L = _
    rw [rs_box g nb (L := L) fun a ha => h a (List.mem_cons_of_mem _ ha)]
    have e1 : rs (fun p => cf (e :: L) p.1 p.2 * g p) B = rs (fun p => (if e.1 = p then e.2 else 0) * g p + cf L p.1 p.2 * g p) B := rs_congr fun p _ => by
      rw [cf_cons]
      grind
    rw [e1, rs_add]
    have e2 : rs (fun p => (if e.1 = p then e.2 else 0) * g p) B = e.2 * g e.1 := by
      by_cases z : g e.1 = 0
      · rw [z]
        refine (rs_zero fun p _ => ?_).trans (by grind)
        by_cases y : e.1 = p
        · rw [← y, z]; grind
        · rw [if_neg y]; grind
      · have hb := h e (List.mem_cons_self ..) z
        clear e1 h
        induction B with
        | nil => exact nomatch hb
        | cons b B ih =>
          rw [List.nodup_cons] at nb
          show (if e.1 = b then e.2 else 0) * g b + rs _ B = _
          by_cases y : e.1 = b
          · rw [if_pos y, rs_zero fun p hp => ?_]
            · rw [y]; grind
            · rw [if_neg (fun w => nb.1 (by rw [← y, w]; exact hp))]; grind
          · rw [if_neg y, ih nb.2 ((List.mem_cons.mp hb).resolve_left y)]; grind
    rw [e2]
/-- the product's coefficient, entry by entry -/
def tm1 (a : En) (M : List En) (i j : Nat) : Rat := rs (fun b => if (a.1.1 + b.1.1, a.1.2 + b.1.2) = (i, j) then a.2 * b.2 else 0) M
def tm (L M : List En) (i j : Nat) : Rat := rs (fun a => tm1 a M i j) L
def box (i j : Nat) : List (Nat × Nat) := (List.range (i + 1)).flatMap fun a => (List.range (j + 1)).map fun b => (a, b)
theorem mem_box {i j : Nat} {p : Nat × Nat} : p ∈ box i j ↔ p.1 ≤ i ∧ p.2 ≤ j := by
  unfold box
  rw [List.mem_flatMap]
  constructor
  · rintro ⟨a, ha, h⟩
    obtain ⟨b, hb, rfl⟩ := List.mem_map.mp h
    rw [List.mem_range] at ha hb
    exact ⟨by omega, by omega⟩
  · rintro ⟨h1, h2⟩
    exact ⟨p.1, List.mem_range.mpr (by omega), List.mem_map.mpr ⟨p.2, List.mem_range.mpr (by omega), rfl⟩⟩
theorem nodup_box (i j : Nat) : (box i j).Nodup := by
  unfold box
  rw [List.flatMap]
  show List.Pairwise _ _
  rw [List.pairwise_flatten]
  refine ⟨fun l hl => ?_, ?_⟩
  · obtain ⟨a, _, rfl⟩ := List.mem_map.mp hl
    show List.Pairwise _ _
    rw [List.pairwise_map]
    exact (List.nodup_range (n := j + 1)).imp fun ne e => ne (Prod.mk.inj e).2
  · rw [List.pairwise_map]
    refine List.Pairwise.imp_of_mem ?_ (List.nodup_range (n := i + 1))
    intro a b _ _ ne x hx y hy
    obtain ⟨_, _, rfl⟩ := List.mem_map.mp hx
    obtain ⟨_, _, rfl⟩ := List.mem_map.mp hy
    exact fun e => ne (Prod.mk.inj e).1
/-- .. is a sum over the powers below -/
theorem tm_box (L M : List En) (i j : Nat) : tm L M i j = rs (fun p => cf L p.1 p.2 * cf M (i - p.1) (j - p.2)) (box i j) := by
  have e1 : ∀ a : En, tm1 a M i j = a.2 * (if a.1.1 ≤ i ∧ a.1.2 ≤ j then cf M (i - a.1.1) (j - a.1.2) else 0) := fun a => by
    unfold tm1
    split
    · rename_i h
      unfold cf
      rw [← rs_mulL]
      refine rs_congr fun b _ => ?_
      by_cases z : b.1 = (i - a.1.1, j - a.1.2)
      · rw [if_pos z, if_pos (by rw [z]; simp; omega)]
      · rw [if_neg z, if_neg (fun w => z (by
          rw [Prod.mk.injEq] at w
          exact Prod.ext (by show b.1.1 = _; omega) (by show b.1.2 = _; omega)))]
        grind
    · rename_i h
      refine (rs_zero fun b _ => if_neg fun w => ?_).trans (by grind)
      rw [Prod.mk.injEq] at w
      omega
  unfold tm
  rw [rs_congr fun a _ => e1 a]
  rw [rs_box (fun p => if p.1 ≤ i ∧ p.2 ≤ j then cf M (i - p.1) (j - p.2) else 0) (nodup_box i j) (fun e _ h => mem_box.mpr (by
    by_cases z : e.1.1 ≤ i ∧ e.1.2 ≤ j
    · exact z
    · exact (h (if_neg z)).elim))]
  refine rs_congr fun p hp => ?_
  rw [if_pos (mem_box.mp hp)]
end LW

/-! dicts that hold polynomials of two letters -/
namespace LW
open PySem PySem.Spec PyProof.Rows L2 GL
section
variable {P : Program} {w : World} {K : PySem.W.Frag} {mg : Str → Option Value} {base : Heap}
/-- tuples stay -/
def Tu (H H' : Hp) : Prop := ∀ b xs, H b = some (.tup xs) → H' b = some (.tup xs)
theorem Tu.refl {H : Hp} : Tu H H := fun _ _ e => e
theorem Tu.trans {H H1 H2 : Hp} (a : Tu H H1) (b : Tu H1 H2) : Tu H H2 := fun c xs e => b c xs (a c xs e)
theorem Tu.of {H H' : Hp} (s : L2.Same H H') : Tu H H' := fun b xs e => s _ _ e
theorem Tu.but {H H' : Hp} {d : Addr} {kvs : List (List Key × V)} (s : But d H H') (e : H d = some (.dT kvs)) : Tu H H' := fun b xs eb => s _ _ eb (ne_of eb e (by intro z; cases z))
theorem Tu.putT {H : Hp} {d : Addr} {kvs kvs' : List (List Key × V)} (e : H d = some (.dT kvs)) : Tu H (upd H d (.dT kvs')) := fun b xs eb => by
  rw [upd_ne (ne_of eb e (by intro z; cases z))]; exact eb
theorem Lo.tu {H H' : Hp} {t : Addr} {q : Rat} (h : Lo H t q) (s : Tu H H') : Lo H' t q := s _ _ h
abbrev kN (k : Nat × Nat) : List Key := kP (k.1 : Int) (k.2 : Int)
theorem kN_inj {k l : Nat × Nat} (e : kN k = kN l) : k = l := by
  have e1 := List.cons.inj e
  have e2 := List.cons.inj e1.2
  exact Prod.ext (Int.ofNat.inj (Sum.inl.inj e1.1)) (Int.ofNat.inj (Sum.inl.inj e2.1))
def EnOk (H : Hp) (kv : List Key × V) (e : En) : Prop := kv.1 = kN e.1 ∧ ∃ t, kv.2 = .ref t ∧ Lo H t e.2
def DE (H : Hp) (kvs : List (List Key × V)) (L : List En) : Prop := All2 (EnOk H) kvs L ∧ (L.map (·.1)).Nodup
/-- d holds the polynomial L, to be read -/
def DP (H : Hp) (d : Addr) (L : List En) : Prop := ∃ kvs, Rd H d (.dT kvs) ∧ DE H kvs L
/-- .. to be written -/
def DW (H : Hp) (d : Addr) (L : List En) : Prop := ∃ kvs, H d = some (.dT kvs) ∧ DE H kvs L
theorem DW.dp {H : Hp} {d : Addr} {L : List En} (h : DW H d L) : DP H d L := h.imp fun _ z => ⟨.inl z.1, z.2⟩
theorem DE.tu {H H' : Hp} {kvs : List (List Key × V)} {L : List En} (h : DE H kvs L) (s : Tu H H') : DE H' kvs L := ⟨h.1.imp fun _ _ ⟨a, t, b, lo⟩ => ⟨a, t, b, lo.tu s⟩, h.2⟩
theorem Rd.same {H H' : Hp} {d : Addr} {u : HO} (h : Rd H d u) (s : L2.Same H H') : Rd H' d u := h.elim (fun z => .inl (s _ _ z)) fun ⟨o, z⟩ => .inr ⟨o, s _ _ z⟩
theorem DP.same {H H' : Hp} {d : Addr} {L : List En} (h : DP H d L) (s : L2.Same H H') : DP H' d L := h.imp fun _ z => ⟨Rd.same z.1 s, z.2.tu (Tu.of s)⟩
theorem DW.same {H H' : Hp} {d : Addr} {L : List En} (h : DW H d L) (s : L2.Same H H') : DW H' d L := h.imp fun _ z => ⟨s _ _ z.1, z.2.tu (Tu.of s)⟩
theorem DP.at {H H' : Hp} {d : Addr} {L : List En} (h : DP H d L) (e : H' d = H d) (s : Tu H H') : DP H' d L := h.imp fun kvs z => ⟨by
  have := z.1
  unfold Rd at this ⊢
  rw [e]
  exact this, z.2.tu s⟩
theorem DE.val {H : Hp} {kvs : List (List Key × V)} {L : List En} (h : All2 (EnOk H) kvs L) (k : Nat × Nat) : (valV kvs (kN k) = none ∧ k ∉ L.map (·.1)) ∨ ∃ t q, valV kvs (kN k) = some (.ref t) ∧ Lo H t q ∧ (k, q) ∈ L := by
  induction h with
  | nil => exact .inl ⟨rfl, by simp⟩
  | @cons kv e as bs r _ ih =>
    obtain ⟨e1, t, e2, lo⟩ := r
    by_cases z : e.1 = k
    · exact .inr ⟨t, e.2, by rw [valV_pos (by rw [e1, z]), e2], lo, by rw [← z]; exact List.mem_cons_self ..⟩
    · have n : ¬ kv.1 = kN k := fun y => z (kN_inj (e1.symm.trans y))
      rw [valV_neg n]
      rcases ih with ⟨a, b⟩ | ⟨t, q, a, b, c⟩
      · exact .inl ⟨a, fun y => by
          rw [List.map_cons] at y
          exact (List.mem_cons.mp y).elim (fun w => z w.symm) b⟩
      · exact .inr ⟨t, q, a, b, List.mem_cons_of_mem _ c⟩
theorem All2.app {α β : Type} {R : α → β → Prop} {as as' : List α} {bs bs' : List β} (h : All2 R as bs) (g : All2 R as' bs') : All2 R (as ++ as') (bs ++ bs') := by
  induction h with
  | nil => exact g
  | cons r _ ih => exact .cons r ih
theorem all2_putany {H : Hp} {kvs : List (List Key × V)} {L : List En} (h : All2 (EnOk H) kvs L) (k : Nat × Nat) : (kvs.any fun kv => decide (kv.1 = kN k)) = L.any (fun e => decide (e.1 = k)) := by
  induction h with
  | nil => rfl
  | @cons kv e as bs r _ ih =>
    rw [List.any_cons, List.any_cons, ih]
    have : decide (kv.1 = kN k) = decide (e.1 = k) := decide_eq_decide.mpr ⟨fun y => kN_inj (r.1.symm.trans y), fun y => by rw [r.1, y]⟩
    rw [this]
theorem all2_putmap {H : Hp} {kvs : List (List Key × V)} {L : List En} (h : All2 (EnOk H) kvs L) {k : Nat × Nat} {t : Addr} {q : Rat} (lo : Lo H t q) :
    All2 (EnOk H) (kvs.map fun kv => if kv.1 = kN k then (kv.1, .ref t) else kv) (L.map fun e => if e.1 = k then (e.1, q) else e) := by
  induction h with
  | nil => exact .nil
  | @cons kv e as bs r _ ih =>
    rw [List.map_cons, List.map_cons]
    refine .cons ?_ ih
    by_cases z : e.1 = k
    · rw [if_pos z, if_pos (by rw [r.1, z])]
      exact ⟨r.1, t, rfl, lo⟩
    · rw [if_neg z, if_neg (fun y => z (kN_inj (r.1.symm.trans y)))]
      exact r
theorem DE.put {H : Hp} {kvs : List (List Key × V)} {L : List En} (h : DE H kvs L) {k : Nat × Nat} {t : Addr} {q : Rat} (lo : Lo H t q) : DE H (putK kvs (kN k) (.ref t)) (putE L k q) := by
  refine ⟨?_, nodup_put h.2⟩
  unfold putK putE
  rw [all2_putany h.1 k]
  split
  · exact all2_putmap h.1 lo
  · exact h.1.app (.cons ⟨rfl, t, rfl, lo⟩ .nil)
theorem DE.len {H : Hp} {kvs : List (List Key × V)} {L : List En} (h : DE H kvs L) : kvs.length = L.length := h.1.len
theorem perm_all2 {α β : Type} {R : α → β → Prop} {as bs : List α} (p : as.Perm bs) : ∀ {L : List β}, All2 R bs L → ∃ M, M.Perm L ∧ All2 R as M := by
  induction p with
  | nil => intro L h; exact ⟨L, .refl _, h⟩
  | cons a _ ih =>
    intro L h
    cases h with
    | cons r t =>
      obtain ⟨M, pm, am⟩ := ih t
      exact ⟨_ :: M, pm.cons _, .cons r am⟩
  | swap a b l =>
    intro L h
    cases h with
    | cons r t =>
      cases t with
      | cons r2 t => exact ⟨_, .swap _ _ _, .cons r2 (.cons r t)⟩
  | trans _ _ ih1 ih2 =>
    intro L h
    obtain ⟨M, pm, am⟩ := ih2 h
    obtain ⟨N, pn, an⟩ := ih1 am
    exact ⟨N, pn.trans pm, an⟩
theorem DE.keysAt {H : Hp} {kvs : List (List Key × V)} {L : List En} (h : All2 (EnOk H) kvs L) : ∀ {cs : List Addr}, IsKeys H kvs cs → All2 (fun b (e : En) => H b = some (.tup [.int (e.1.1 : Int), .int (e.1.2 : Int)])) cs L := by
  induction h with
  | nil => intro cs ik; cases ik; exact .nil
  | @cons kv e as bs r _ ih =>
    intro cs ik
    cases ik with
    | cons h1 t1 =>
      rw [r.1] at h1
      exact .cons h1 (ih t1)
theorem DE.pairs {H : Hp} {kvs : List (List Key × V)} {L : List En} (h : All2 (EnOk H) kvs L) : ∀ p ∈ kvs, ∃ i j : Int, p.1 = [Sum.inl i, Sum.inl j] := by
  induction h with
  | nil => exact fun p hp => nomatch hp
  | @cons kv e as bs r _ ih =>
    intro p hp
    rcases List.mem_cons.mp hp with rfl | hp
    · exact ⟨_, _, r.1⟩
    · exact ih p hp
theorem v_dgetT {td ty : TE} {σ : L2.St} {H : Hp} {d b : Addr} {kvs : List (List Key × V)} {k : List Key} {v : V} (h1 : Val td σ H (.ref d)) (h2 : Val ty σ H (.ref b)) (hd : Rd H d (.dT kvs)) (hb : H b = some (.tup (k.map kV))) (e : valV kvs k = some v) :
    Val (tDGet td ty) σ H v := fun Q q => h1 _ (h2 _ ⟨d, v, rfl, .inr ⟨kvs, k, b, hd, rfl, hb, e.symm⟩, q⟩)
theorem s_dputT {td ty tv : TE} {D : Ends} {σ : L2.St} {H : Hp} (h : tv σ H fun v H1 => ∃ d b kvs k, Val td σ H1 (.ref d) ∧ Val ty σ H1 (.ref b) ∧ H1 d = some (.dT kvs) ∧ H1 b = some (.tup (k.map kV)) ∧ kvs.length ≤ 1000 ∧ D.nx σ (upd H1 d (.dT (putK kvs k v))))
    (mono : ∀ {R S : VK}, (∀ v H', R v H' → S v H') → tv σ H R → tv σ H S) : sDPut td ty tv D σ H :=
  mono (fun v H1 ⟨d, b, kvs, k, h1, h2, e1, e2, l, q⟩ => h1 _ (h2 _ ⟨d, _, rfl, DPut.t e1 e2 (Nat.lt_of_le_of_lt l (by decide)), q⟩)) h
end
end LW

/-! the law's own polynomials of two letters -/
namespace LW
open PySem PySem.Spec PyProof.Rows L2 GL
section
variable {P : Program} {w : World} {K : PySem.W.Frag} {mg : Str → Option Value} {base : Heap}

def spVPlain : Sp := fun vs H Q _ => ∃ (d : Addr) (L : List En), vs = [.ref d] ∧ DP H d L ∧ L.length ≤ 900 ∧ ∀ (p : Addr) (H' : Hp) (M : List En), L2.Same H H' → H p = none → DW H' p M → (∀ i j, cf M i j = cf L i j) → (∀ e ∈ M, e ∈ L ∧ e.2 ≠ 0) → M.length ≤ L.length → Q (.ref p) H'
theorem ok_law_v_plain (T : Txt K mg) : FnOk P w K mg base CX0 1 (fA mg "_law_v_plain") (fDat K (fA mg "_law_v_plain")) ["_law_plane"] spVPlain := by
  refine T._law_v_plain.F.ok sc_law_v_plain (fun vs H Q E h => ?_) (fun cdv A outer s H vs Q E hr h => ?_)
  · obtain ⟨d, L, rfl, _⟩ := h
    rfl
  obtain ⟨d, L, rfl, ⟨kvs, rd, de⟩, hl, k⟩ := h
  refine ⟨_, (pss_cons (ps_set (i := 1) sc_law_v_plain.nd rfl (Or.inl rfl) pe_dnewT)
  (pss_cons (ps_for PassesOwn.never rfl (pi_list (pe_callB (cr_sortedDT rfl) (by rfl) T.sorted (by decide +kernel) (pa_cons (pv 0) pa_nil))) (pg_name (i := 2) sc_law_v_plain.nd rfl (Or.inl rfl))
  (pss_one (ps_if (pt_cmpR op_ne (pe_ix ix_tup (pe_dget (hu_of hr) (pv 0) (pv 2) (fun _ _ => rfl)) pe_int (fun _ _ => rfl)) pe_int (nomark _)) (pss_one (ps_dput (hu_of hr) (pv 1) (pv 2) (pe_dget (hu_of hr) (pv 0) (pv 2) (fun _ _ => rfl)) rfl)) pss_nil)))
  (pss_one (ps_ret (pv 1))))), ?_⟩
  refine q_asg fun f hf => ?_
  have sf := Same.new' (o := .dT []) hf
  have rd1 := Rd.same rd sf
  have de1 := de.tu (Tu.of sf)
  show tFor (iList K (tCB rSortDT (tCons (tVar 0) tNil))) (gName 2) _ _ _ _
  refine (val_var rfl) _ ⟨d, kvs, rfl, rd1, DE.pairs de.1, fun l bs cs hlN ik pm => ?_⟩
  obtain ⟨Lp, pL, all⟩ := perm_all2 pm (DE.keysAt de1.1 ik)
  have sl := Same.new' (o := .lst (bs.map V.ref)) hlN
  have S0 := sf.trans sl
  have nf : f ≠ l := ne_of_none upd_same hlN
  have ndp : (Lp.map (·.1)).Nodup := (pL.map (·.1)).nodup_iff.mpr de.2
  have lp : Lp.length = L.length := pL.length_eq
  have lb : bs.length = L.length := by rw [all.len, lp]
  refine ⟨l, rfl, ⟨_, SqL.of upd_same⟩, for_list (K := K) (a := l) (xs := bs.map V.ref) (fun m σ H' => ∃ (c : Option V) (F : List En), σ = [some (.ref d), some (.ref f), c] ∧ L2.Same H H' ∧ H' l = some (.lst (bs.map V.ref)) ∧ (∀ b ∈ bs, ∀ o, (upd (upd H f (.dT [])) l (.lst (bs.map V.ref))) b = some o → b ≠ f → H' b = some o) ∧ DW H' f F ∧ (∀ i j, cf F i j = cf (Lp.take m) i j) ∧ (∀ e ∈ F, e ∈ L ∧ e.2 ≠ 0) ∧ F.length ≤ m)
    ⟨none, [], rfl, S0, upd_same, fun b _ o e _ => e, ⟨[], by rw [upd_ne nf, upd_same], .nil, by simp⟩, fun i j => rfl, (fun e he => nomatch he), Nat.le_refl _⟩ (fun i σ H' _ ⟨_, _, _, _, e, _⟩ => SqL.of e) ?_ ?_⟩
  · rintro m x σ H' hm ⟨c, F, rfl, sH, eL, keysT, ⟨fk, ef, df⟩, hcf, hmem, hln⟩
    obtain ⟨b, hb, rfl⟩ : ∃ b, bs[m]? = some b ∧ x = .ref b := by
      rw [List.getElem?_map] at hm
      cases e : bs[m]? with
      | none => rw [e] at hm; cases hm
      | some z => rw [e] at hm; exact ⟨z, rfl, (Option.some.inj hm).symm⟩
    obtain ⟨e, he, eb⟩ := all.get hb
    have mlt : m < L.length := by
      have := (List.getElem?_eq_some_iff.mp hb).1
      omega
    have eb' : H' b = some (.tup ((kN e.1).map kV)) := by
      have e0 : (upd (upd H f (.dT [])) l (.lst (bs.map V.ref))) b = some (.tup ((kN e.1).map kV)) := sl _ _ eb
      refine keysT b (List.mem_of_getElem? hb) _ e0 (fun z => ?_)
      rw [z, upd_same] at eb
      cases eb
    have rdH := Rd.same rd sH
    have deH := de.tu (Tu.of sH)
    have eL' : e ∈ L := pL.mem_iff.mp (List.mem_of_getElem? he)
    obtain ⟨t, q, ev, lo, hq⟩ : ∃ t q, valV kvs (kN e.1) = some (.ref t) ∧ Lo H' t q ∧ (e.1, q) ∈ L := by
      rcases DE.val deH.1 e.1 with ⟨_, n⟩ | z
      · exact (n (List.mem_map.mpr ⟨e, eL', rfl⟩)).elim
      · exact z
    have eq : q = e.2 := by
      have a1 := cf_in hq de.2
      have a2 := cf_in (k := e.1) (q := e.2) eL' de.2
      exact a1.symm.trans a2
    subst eq
    have tk : ∀ i j, cf (Lp.take (m + 1)) i j = cf (Lp.take m) i j + (if e.1 = (i, j) then e.2 else 0) := fun i j => by
      rw [List.take_succ, he, cf_app]
      show _ + cf [e] i j = _
      rw [show e = (e.1, e.2) from rfl, cf_one]
    have fresh : cf (Lp.take m) e.1.1 e.1.2 = 0 := cf_out fun z => by
      have nd2 : ((Lp.take m ++ Lp.drop m).map (·.1)).Nodup := by rw [List.take_append_drop]; exact ndp
      rw [List.map_append, List.nodup_append] at nd2
      have h2 : e ∈ Lp.drop m := by
        have hh : (Lp.drop m)[0]? = some e := by rw [List.getElem?_drop]; exact he
        exact List.mem_of_getElem? hh
      exact nd2.2.2 _ z _ (List.mem_map.mpr ⟨e, h2, rfl⟩) rfl
    refine g_name ?_
    have get : ∀ {σ : L2.St}, σ[0]? = some (some (V.ref d)) → σ[2]? = some (some (V.ref b)) → Val (tDGet (tVar 0) (tVar 2)) σ H' (.ref t) := fun h1 h2 => v_dgetT (val_var h1) (val_var h2) rdH eb' ev
    refine t_op ((v_ixT (n := 0) (get rfl rfl) val_c (SqT.of lo) rfl) _ (val_c _ ⟨rfl, _, rfl, ?_⟩))
    by_cases z0 : e.2.num = 0
    · rw [if_neg (by rw [decide_eq_true (by rw [z0])]; decide)]
      refine ⟨_, F, rfl, sH, eL, keysT, ⟨fk, ef, df⟩, fun i j => ?_, hmem, by omega⟩
      rw [hcf, tk, Rat.num_eq_zero.mp z0]
      split <;> grind
    · rw [if_pos (by rw [decide_eq_false (fun e => z0 (V.int.inj e))]; rfl)]
      refine (get rfl rfl) _ ((val_var rfl) _ ((val_var rfl) _ ⟨f, _, rfl, DPut.t ef eb' (Nat.lt_of_le_of_lt (show fk.length ≤ 1000 by have := df.len; omega) (by decide)), ?_⟩))
      have tu : Tu H' (upd H' f (.dT (putK fk (kN e.1) (.ref t)))) := Tu.putT ef
      refine ⟨_, putE F e.1 e.2, rfl, fun b o eb => ?_, ?_, fun b hb o eo nb => ?_, ⟨_, upd_same, (df.put lo).tu tu⟩, fun i j => ?_, fun e' he' => ?_, Nat.le_trans len_put (by omega)⟩
      · rw [upd_ne (ne_of_none eb hf)]
        exact sH _ _ eb
      · rw [upd_ne (Ne.symm nf)]
        exact eL
      · rw [upd_ne nb]
        exact keysT b hb o eo nb
      · rw [cf_put df.2, hcf, tk]
        split
        · rename_i z
          have := congrArg Prod.fst z
          have h1 : i = e.1.1 := by rw [z]
          have h2 : j = e.1.2 := by rw [z]
          rw [h1, h2, fresh]; grind
        · grind
      · rcases mem_put he' with rfl | h
        · exact ⟨eL', fun z => z0 (by rw [show e.2 = 0 from z]; rfl)⟩
        · exact hmem _ h
  · rintro σ H' ⟨c, F, rfl, sH, eL, keysT, dw, hcf, hmem, hln⟩
    have h3 := hln
    rw [List.length_map, lb] at h3
    refine r_ret ((val_var rfl) _ (k f H' F sH hf dw (fun i j => ?_) hmem h3))
    rw [hcf, List.length_map, List.take_of_length_le (by omega)]
    exact rs_perm pL

/-! ### keys of a box have hashes of their own -/
def bxN : Nat := 16
def boxP : List (Nat × Nat) := (List.range bxN).flatMap fun i => (List.range bxN).map fun j => (i, j)
def boxH : List Int := boxP.map fun p => pairH (p.1 : Int) (p.2 : Int)
theorem boxH_nodup : boxH.Nodup := by decide +kernel
theorem map_inj {α β : Type} {f : α → β} : ∀ {l : List α}, (l.map f).Nodup → ∀ {a b : α}, a ∈ l → b ∈ l → f a = f b → a = b
  | [], _, _, _, h, _, _ => nomatch h
  | x :: l, nd, a, b, ha, hb, e => by
    rw [List.map_cons, List.nodup_cons] at nd
    rcases List.mem_cons.mp ha with h1 | h1
    · rcases List.mem_cons.mp hb with h2 | h2
      · rw [h1, h2]
      · exact (nd.1 (List.mem_map.mpr ⟨b, h2, by rw [← e, h1]⟩)).elim
    · rcases List.mem_cons.mp hb with h2 | h2
      · exact (nd.1 (List.mem_map.mpr ⟨a, h1, by rw [e, h2]⟩)).elim
      · exact map_inj nd.2 h1 h2 e
def Bx (N : Nat) (L : List En) : Prop := ∀ e ∈ L, e.1.1 < N ∧ e.1.2 < N
theorem pairH_inj {p q : Nat × Nat} (hp : p.1 < bxN ∧ p.2 < bxN) (hq : q.1 < bxN ∧ q.2 < bxN) (e : pairH (p.1 : Int) (p.2 : Int) = pairH (q.1 : Int) (q.2 : Int)) : p = q := by
  have nd := boxH_nodup
  unfold boxH at nd
  have mem : ∀ {p : Nat × Nat}, p.1 < bxN ∧ p.2 < bxN → p ∈ boxP := fun {p} h =>
    List.mem_flatMap.mpr ⟨p.1, List.mem_range.mpr h.1, List.mem_map.mpr ⟨p.2, List.mem_range.mpr h.2, rfl⟩⟩
  exact map_inj nd (mem hp) (mem hq) e
theorem apart : ∀ {L : List En}, Bx bxN L → (L.map (·.1)).Nodup → (L.map fun e => pairH (e.1.1 : Int) (e.1.2 : Int)).Nodup
  | [], _, _ => by simp
  | e :: L, b, nd => by
    rw [List.map_cons, List.nodup_cons] at nd ⊢
    refine ⟨fun h => ?_, apart (fun a ha => b a (List.mem_cons_of_mem _ ha)) nd.2⟩
    obtain ⟨a, ha, z⟩ := List.mem_map.mp h
    exact nd.1 (List.mem_map.mpr ⟨a, ha, pairH_inj (b a (List.mem_cons_of_mem _ ha)) (b e (List.mem_cons_self ..)) z⟩)
theorem DE.kvs {H : Hp} {kvs : List (List Key × V)} {L : List En} (h : All2 (EnOk H) kvs L) : kvs.map (·.1) = (L.map fun e => ((e.1.1 : Int), (e.1.2 : Int))).map fun p => kP p.1 p.2 := by
  induction h with
  | nil => rfl
  | cons r _ ih => rw [List.map_cons, List.map_cons, List.map_cons, ih, r.1]
/-! ### while a dict is walked -/
structure Wk (H0 HL : Hp) (d f : Addr) (kvs : List (List Key × V)) (H' : Hp) : Prop where
  off : ∀ b, b ≠ d → HL b = H0 b
  rd : Rd HL d (.dT kvs)
  but : But f HL H'
  ne : d ≠ f
theorem Wk.at {H0 HL H' : Hp} {d f : Addr} {kvs : List (List Key × V)} (w : Wk H0 HL d f kvs H') : H' d = HL d := by
  rcases w.rd with e | ⟨o, e⟩
  · rw [e]; exact w.but _ _ e w.ne
  · rw [e]; exact w.but _ _ e w.ne
theorem Wk.rdH {H0 HL H' : Hp} {d f : Addr} {kvs : List (List Key × V)} (w : Wk H0 HL d f kvs H') : Rd H' d (.dT kvs) := by
  have := w.rd
  unfold Rd at this ⊢
  rw [w.at]
  exact this
theorem Wk.step {H0 HL H' H2 : Hp} {d f : Addr} {kvs : List (List Key × V)} (w : Wk H0 HL d f kvs H') (b : But f H' H2) : Wk H0 HL d f kvs H2 := ⟨w.off, w.rd, w.but.trans b, w.ne⟩
theorem Wk.fin {H0 HL H' H2 : Hp} {d f : Addr} {kvs : List (List Key × V)} (w : Wk H0 HL d f kvs H') (h : ∀ b, b ≠ d → H2 b = H' b) (hd : H2 d = H0 d) : But f H0 H2 ∧ Tu H' H2 ∧ H2 f = H' f := by
  refine ⟨fun b o e nb => ?_, fun b xs e => ?_, h f (Ne.symm w.ne)⟩
  · by_cases z : b = d
    · rw [z, hd, ← z]; exact e
    · rw [h b z]
      exact w.but b o (by rw [w.off b z]; exact e) nb
  · by_cases z : b = d
    · rw [z, w.at] at e
      rcases w.rd with y | ⟨o, y⟩ <;> rw [y] at e <;> cases e
    · rw [h b z]; exact e
theorem Wk.tu {H0 HL H' : Hp} {d f : Addr} {kvs fk : List (List Key × V)} (w : Wk H0 HL d f kvs H') (n : H0 f = some (.dT fk)) (r : Rd H0 d (.dT kvs)) : Tu H0 H' := fun b xs e => by
  by_cases z : b = d
  · rw [z] at e
    rcases r with y | ⟨o, y⟩ <;> rw [y] at e <;> cases e
  · exact w.but b _ (by rw [w.off b z]; exact e) (fun y => by rw [y, n] at e; cases e)
def SmC (n : Nat) (L : List En) : Prop := ∀ i j, Sm n (cf L i j)
def spVPlus : Sp := fun vs H Q _ => ∃ (d1 d2 : Addr) (La Lb : List En) (n m : Nat), vs = [.ref d1, .ref d2] ∧ DP H d1 La ∧ DP H d2 Lb ∧ Bx bxN La ∧ La.length ≤ 400 ∧ Lb.length ≤ 400 ∧ SmC n La ∧ SmC m Lb ∧ n ≤ 1000 ∧ m ≤ 1000 ∧
  ∀ (p : Addr) (H' : Hp) (M : List En), L2.Same H H' → H p = none → DW H' p M → (∀ i j, cf M i j = cf La i j + cf Lb i j) → (∀ e ∈ M, (e.1 ∈ La.map (·.1) ∨ e.1 ∈ Lb.map (·.1)) ∧ e.2 ≠ 0) → M.length ≤ La.length + Lb.length → Q (.ref p) H'
end
end LW

/-! the law's own polynomials of two letters -/
namespace LW
open PySem PySem.Spec PyProof.Rows L2 GL
section
variable {P : Program} {w : World} {K : PySem.W.Frag} {mg : Str → Option Value} {base : Heap}

/-- .. as the last statement of a block -/
theorem q_keysE {σ : L2.St} {H : Hp} {d : Addr} {kvs : List (List Key × V)} {i j : Nat} {tb : TS} {D : Ends} (hi : σ[i]? = some (some (.ref d))) (hd : Rd H d (.dT kvs)) (Pv : Hp → Nat → L2.St → Hp → Prop)
    (h0 : ∀ HL, (∀ b, b ≠ d → HL b = H b) → Rd HL d (.dT kvs) → Pv HL 0 σ HL)
    (hq : ∀ HL i σ H', Pv HL i σ H' → H' d = HL d)
    (hs : ∀ HL i k v q σ H', Rd HL d (.dT kvs) → kvs[i]? = some (k, v) → Pv HL i σ H' → H' q = some (.tup (k.map kV)) → ∀ D' : Ends, D'.nx = Pv HL (i + 1) → D'.ct = Pv HL (i + 1) → tb D' (σ.set j (some (.ref q))) H')
    (he : ∀ HL σ H', Pv HL kvs.length σ H' → ∀ H'', (∀ b, b ≠ d → H'' b = H' b) → H'' d = H d → D.nx σ H'') :
    tLockO (tFor (iKeys (tVar i)) (gName j) tb) D σ H := q_keys (u := fun D => D.nx) hi hd Pv h0 hq hs he
theorem SmC.of {n : Nat} (h1 : 1 ≤ n) {L : List En} (h : ∀ e ∈ L, Sm n e.2) (nd : (L.map (·.1)).Nodup) : SmC n L := fun i j => by
  by_cases z : (i, j) ∈ L.map (·.1)
  · obtain ⟨e, he, y⟩ := List.mem_map.mp z
    have := cf_in (k := e.1) (q := e.2) he nd
    rw [y] at this
    rw [show cf L i j = e.2 from this]
    exact h e he
  · rw [cf_out z]
    exact ⟨Nat.lt_of_lt_of_le (show (0 : Nat) < 2 by decide) (Nat.le_trans (Nat.le_of_eq (Nat.pow_one 2).symm) (Nat.pow_le_pow_right (by decide) h1)), Nat.one_lt_two_pow (by omega)⟩
theorem zero_lo {H : Hp} {t : Addr} (e : H t = some (.tup [.int 0, .int 1])) : Lo H t (0 : Rat) := by
  have := int_lo (i := 0) e
  exact this
/-- what a dict gives for a key, else the ratio 0 -/
theorem DE.getD {H : Hp} {kvs : List (List Key × V)} {L : List En} (h : DE H kvs L) (k : Nat × Nat) {t0 : Addr} (z : Lo H t0 0) : ∃ t, (valV kvs (kN k)).getD (.ref t0) = .ref t ∧ Lo H t (cf L k.1 k.2) := by
  rcases DE.val h.1 k with ⟨e, n⟩ | ⟨t, q, e, lo, hq⟩
  · exact ⟨t0, by rw [e]; rfl, by rw [cf_out n]; exact z⟩
  · exact ⟨t, by rw [e]; rfl, by rw [cf_in hq h.2]; exact lo⟩
theorem cf_take {L : List En} {m : Nat} {e : En} (he : L[m]? = some e) (i j : Nat) : cf (L.take (m + 1)) i j = cf (L.take m) i j + (if e.1 = (i, j) then e.2 else 0) := by
  rw [List.take_succ, he, cf_app]
  show _ + cf [e] i j = _
  rw [show e = (e.1, e.2) from rfl, cf_one]
theorem cf_fresh {L : List En} {m : Nat} {e : En} (he : L[m]? = some e) (nd : (L.map (·.1)).Nodup) : cf (L.take m) e.1.1 e.1.2 = 0 := cf_out fun z => by
  have nd2 : ((L.take m ++ L.drop m).map (·.1)).Nodup := by rw [List.take_append_drop]; exact nd
  rw [List.map_append, List.nodup_append] at nd2
  have h2 : e ∈ L.drop m := by
    have hh : (L.drop m)[0]? = some e := by rw [List.getElem?_drop]; exact he
    exact List.mem_of_getElem? hh
  exact nd2.2.2 _ z _ (List.mem_map.mpr ⟨e, h2, rfl⟩) rfl
theorem ok_law_v_plus (T : Txt K mg) : FnOk P w K mg base CX0 4 (fA mg "_law_v_plus") (fDat K (fA mg "_law_v_plus")) ["_law_one", "_law_two"] spVPlus := by
  have G_law_plus := ok_law_plus (P := P) (w := w) (base := base) T
  have G_law_v_plain := ok_law_v_plain (P := P) (w := w) (base := base) T
  refine T._law_v_plus.F.ok sc_law_v_plus (fun vs H Q E h => ?_) (fun cdv A outer s H vs Q E hr h => ?_)
  · obtain ⟨d1, d2, La, Lb, n, m, rfl, _⟩ := h
    rfl
  obtain ⟨d1, d2, La, Lb, n, m, rfl, ⟨k1, rd1, de1⟩, ⟨k2, rd2, de2⟩, bx, l1, l2, s1, s2, hn, hm, k⟩ := h
  refine ⟨_, (pss_cons (ps_set (i := 2) sc_law_v_plus.nd rfl (Or.inl rfl) (pe_callTy (cr_dictT (hu64 hr)) (by rfl) T.dict (by decide +kernel) (pa_cons (pv 0) pa_nil)))
  (pss_cons (ps_lockO (ps_for PassesOwn.never rfl (pi_keys (pv 1)) (pg_name (i := 3) sc_law_v_plus.nd rfl (Or.inl rfl))
  (pss_one (ps_dput (hu_of hr) (pv 2) (pv 3) (pe_c T._law_plus G_law_plus (hr.mono (by decide)) (pa_cons (pe_dget2 (hu_of hr) (pv 2) (pv 3) (pe_tup (pa_cons pe_int (pa_cons pe_int pa_nil))) ⟨by rfl, by rfl, by rfl, by rfl⟩) (pa_cons (pe_dget (hu_of hr) (pv 1) (pv 3) (fun _ _ => rfl)) pa_nil))) rfl))))
  (pss_one (ps_ret (pe_c T._law_v_plain G_law_v_plain (hr.mono (by decide)) (pa_cons (pv 2) pa_nil)))))), ?_⟩
  refine q_asg ((val_var rfl) _ ⟨d1, k1, _, rfl, rd1, DE.kvs de1.1, ?_, fun f hf => ?_⟩)
  · rw [List.map_map]
    exact apart bx de1.2
  have sf := Same.new' (o := .dT k1) hf
  have rd2' := Rd.same rd2 sf
  have ne : d2 ≠ f := fun z => by
    rw [z] at rd2
    rcases rd2 with y | ⟨o, y⟩ <;> rw [hf] at y <;> cases y
  refine q_keys (kvs := k2) (d := d2) rfl rd2' (fun HL x σ H' => ∃ (c : Option V) (F : List En), σ = [some (.ref d1), some (.ref d2), some (.ref f), c] ∧ Wk (upd H f (.dT k1)) HL d2 f k2 H' ∧ DW H' f F ∧ (∀ i j, cf F i j = cf La i j + cf (Lb.take x) i j) ∧ (∀ e ∈ F, e.1 ∈ La.map (·.1) ∨ e.1 ∈ Lb.map (·.1)) ∧ F.length ≤ La.length + x)
    (fun HL off rdL => ?_) (fun HL x σ H' ⟨_, _, _, w, _⟩ => w.at) ?_ ?_
  · have w : Wk (upd H f (.dT k1)) HL d2 f k2 HL := ⟨off, rdL, But.refl, ne⟩
    refine ⟨none, La, rfl, w, ⟨k1, by rw [off f (Ne.symm ne), upd_same], (de1.tu (Tu.of sf)).tu (w.tu upd_same rd2')⟩, fun i j => ?_, fun e he => .inl (List.mem_map.mpr ⟨e, he, rfl⟩), Nat.le_refl _⟩
    show _ = _ + (0 : Rat)
    grind
  · rintro HL x kk v b σ H' rdL hk ⟨c, F, rfl, w, ⟨fk, ef, df⟩, hcf, hky, hln⟩ hb D' hnx hct
    obtain ⟨e, he, ek, t2, ev, lo2⟩ := de2.1.get hk
    dsimp only at ek ev
    subst ek
    subst ev
    have xlt : x < Lb.length := (List.getElem?_eq_some_iff.mp he).1
    have eL : e ∈ Lb := List.mem_of_getElem? he
    have c2 := cf_in (k := e.1) (q := e.2) eL de2.2
    clear lo2
    obtain ⟨t2, q, vk, lo2, hq⟩ : ∃ t q, valV k2 (kN e.1) = some (.ref t) ∧ Lo H t q ∧ (e.1, q) ∈ Lb := by
      rcases DE.val de2.1 e.1 with ⟨_, n⟩ | z
      · exact (n (List.mem_map.mpr ⟨e, eL, rfl⟩)).elim
      · exact z
    have eq : q = e.2 := (cf_in hq de2.2).symm.trans c2
    subst eq
    have tuH : Tu H H' := (Tu.of sf).trans (w.tu upd_same rd2')
    refine call_1 ((val_var rfl) _ ⟨f, rfl, .inr ⟨fk, .inl ef⟩, (val_var rfl) _ (l_tup (va_cons val_c (va_cons val_c va_nil)) (by show 2 ≤ 100000; decide) fun t0 h0 => ⟨_, DGet.t (Same.new' h0 _ _ ef) (Same.new' h0 _ _ hb), ?_⟩)⟩)
    have s0 := Same.new' (o := .tup [.int 0, .int 1]) h0
    obtain ⟨t1, e1, lo1⟩ := (df.tu (Tu.of s0)).getD e.1 (zero_lo (H := upd H' t0 (.tup [.int 0, .int 1])) upd_same)
    rw [e1]
    have w1 := w.step (But.of (p := f) s0)
    have lo2' := (lo2.tu tuH).same s0
    refine va_1 ((v_dgetT (val_var rfl) (val_var rfl) w1.rdH (s0 _ _ hb) vk) _ ?_)
    have cz : cf F e.1.1 e.1.2 = cf La e.1.1 e.1.2 := by
      rw [hcf, cf_fresh he de2.2]; grind
    refine cs_lplus lo1 lo2' (by rw [cz]; exact s1 _ _) (by rw [← c2]; exact s2 _ _) hn hm fun t3 H2 s3 lo3 => ?_
    have b2 : But f H' H2 := But.of (s0.trans s3)
    have ef2 : H2 f = some (.dT fk) := s3 _ _ (s0 _ _ ef)
    refine (val_var rfl) _ ((val_var rfl) _ ⟨f, _, rfl, DPut.t ef2 (s3 _ _ (s0 _ _ hb)) (Nat.lt_of_le_of_lt (show fk.length ≤ 1000 by have := df.len; omega) (by decide)), ?_⟩)
    rw [hnx]
    have w2 := (w1.step (But.of (p := f) s3)).step (show But f H2 (upd H2 f (.dT (putK fk (kN e.1) (.ref t3)))) from fun b o eb nb => by rw [upd_ne nb]; exact eb)
    refine ⟨_, putE F e.1 _, rfl, w2, ⟨_, upd_same, ((df.tu (Tu.of (s0.trans s3))).put lo3).tu (Tu.putT ef2)⟩, fun i j => ?_, fun a ha => ?_, Nat.le_trans len_put (by omega)⟩
    · rw [cf_put df.2, cf_take he]
      split
      · rename_i z
        have h1 : i = e.1.1 := by rw [z]
        have h2 : j = e.1.2 := by rw [z]
        rw [h1, h2, hcf]
        grind
      · rw [hcf]; grind
    · rcases mem_put ha with rfl | h
      · exact .inr (List.mem_map.mpr ⟨e, eL, rfl⟩)
      · exact hky _ h
  · rintro HL σ H' ⟨c, F, rfl, w, dw, hcf, hky, hln⟩ H2 h2 hd2
    obtain ⟨b0, tu2, ff⟩ := w.fin h2 hd2
    obtain ⟨fk, ef, df⟩ := dw
    have l2k : k2.length = Lb.length := de2.len
    rw [l2k] at hln
    have sH : L2.Same H H2 := fun b o e => b0 b o (sf _ _ e) (ne_of_none e hf)
    have df2 : DP H2 f F := ⟨fk, .inl (by rw [ff]; exact ef), df.tu tu2⟩
    refine r_ret (te := tCall _ _ _ _) (c_call (va_cons (val_var rfl) va_nil) ⟨f, F, rfl, df2, by omega, fun p H3 M s3 np dM cM mM lM => k p H3 M (sH.trans s3) ?_ dM (fun i j => ?_) (fun e he => ⟨hky e (mM e he).1, (mM e he).2⟩) (by omega)⟩)
    · exact sH.free np
    · rw [cM, hcf, l2k, List.take_length]

/-! ### products -/
theorem tm1_take {a : En} {L : List En} {m : Nat} {e : En} (he : L[m]? = some e) (i j : Nat) : tm1 a (L.take (m + 1)) i j = tm1 a (L.take m) i j + (if (a.1.1 + e.1.1, a.1.2 + e.1.2) = (i, j) then a.2 * e.2 else 0) := by
  unfold tm1
  rw [List.take_succ, he, rs_app]
  show _ + ((if (a.1.1 + e.1.1, a.1.2 + e.1.2) = (i, j) then a.2 * e.2 else 0) + 0) = _
  grind
theorem tm_take {L M : List En} {m : Nat} {a : En} (ha : L[m]? = some a) (i j : Nat) : tm (L.take (m + 1)) M i j = tm (L.take m) M i j + tm1 a M i j := by
  unfold tm
  rw [List.take_succ, ha, rs_app]
  show _ + (tm1 a M i j + 0) = _
  grind
/-- at most one entry of the other gives a power -/
theorem tm1_one {a : En} {i j : Nat} : ∀ {M : List En}, (M.map (·.1)).Nodup → tm1 a M i j = 0 ∨ ∃ b ∈ M, (a.1.1 + b.1.1, a.1.2 + b.1.2) = (i, j) ∧ tm1 a M i j = a.2 * b.2
  | [], _ => .inl rfl
  | b :: M, nd => by
    rw [List.map_cons, List.nodup_cons] at nd
    have e0 : tm1 a (b :: M) i j = (if (a.1.1 + b.1.1, a.1.2 + b.1.2) = (i, j) then a.2 * b.2 else 0) + tm1 a M i j := rfl
    rcases tm1_one (M := M) nd.2 with z | ⟨c, hc, e1, e2⟩
    · by_cases y : (a.1.1 + b.1.1, a.1.2 + b.1.2) = (i, j)
      · exact .inr ⟨b, List.mem_cons_self .., y, by rw [e0, if_pos y, z]; grind⟩
      · exact .inl (by rw [e0, if_neg y, z]; grind)
    · by_cases y : (a.1.1 + b.1.1, a.1.2 + b.1.2) = (i, j)
      · refine (nd.1 (List.mem_map.mpr ⟨c, hc, ?_⟩)).elim
        rw [← e1] at y
        rw [Prod.mk.injEq] at y
        exact Prod.ext (by omega) (by omega)
      · exact .inr ⟨c, List.mem_cons_of_mem _ hc, e1, by rw [e0, if_neg y, e2]; grind⟩
theorem tm1_fresh {a : En} {L : List En} {m : Nat} {e : En} (he : L[m]? = some e) (nd : (L.map (·.1)).Nodup) : tm1 a (L.take m) (a.1.1 + e.1.1) (a.1.2 + e.1.2) = 0 := by
  have nd2 : ((L.take m ++ L.drop m).map (·.1)).Nodup := by rw [List.take_append_drop]; exact nd
  rw [List.map_append, List.nodup_append] at nd2
  rcases tm1_one (a := a) (i := a.1.1 + e.1.1) (j := a.1.2 + e.1.2) nd2.1 with z | ⟨b, hb, e1, _⟩
  · exact z
  · have h2 : e ∈ L.drop m := by
      have hh : (L.drop m)[0]? = some e := by rw [List.getElem?_drop]; exact he
      exact List.mem_of_getElem? hh
    rw [Prod.mk.injEq] at e1
    exact (nd2.2.2 _ (List.mem_map.mpr ⟨b, hb, rfl⟩) _ (List.mem_map.mpr ⟨e, h2, rfl⟩) (Prod.ext (by omega) (by omega))).elim
theorem Sm.zero {n : Nat} (h : 1 ≤ n) : Sm n 0 := ⟨Nat.lt_of_lt_of_le (show (0 : Nat) < 2 by decide) (Nat.le_trans (Nat.le_of_eq (Nat.pow_one 2).symm) (Nat.pow_le_pow_right (by decide) h)), Nat.one_lt_two_pow (by omega)⟩
theorem tm1_sm {a : En} {M : List En} {n m : Nat} (nd : (M.map (·.1)).Nodup) (h1 : 1 ≤ n + m) (ha : Sm n a.2) (hM : SmC m M) (i j : Nat) : Sm (n + m) (tm1 a M i j) := by
  rcases tm1_one (a := a) (i := i) (j := j) nd with z | ⟨b, hb, _, e⟩
  · rw [z]; exact Sm.zero h1
  · rw [e]
    have := cf_in (k := b.1) (q := b.2) hb nd
    exact ha.mul (this ▸ hM _ _)
theorem tm_sm {M : List En} {n m : Nat} (nd : (M.map (·.1)).Nodup) (h1 : 1 ≤ n + m) (hM : SmC m M) (i j : Nat) : ∀ {L : List En}, (∀ e ∈ L, Sm n e.2) → Sm ((n + m + 1) * L.length + 1) (tm L M i j)
  | [], _ => Sm.zero (by omega)
  | a :: L, h => by
    have ih := tm_sm nd h1 hM i j (L := L) fun e he => h e (List.mem_cons_of_mem _ he)
    have := (tm1_sm nd h1 (h a (List.mem_cons_self ..)) hM i j).add ih
    refine Sm.mono (q := tm1 a M i j + tm L M i j) this ?_
    rw [List.length_cons, Nat.mul_succ]
    omega
def spVTimes : Sp := fun vs H Q _ => ∃ (d1 d2 : Addr) (La Lb : List En) (n m : Nat), vs = [.ref d1, .ref d2] ∧ DP H d1 La ∧ DP H d2 Lb ∧ La.length * Lb.length ≤ 900 ∧ SmC n La ∧ SmC m Lb ∧ 1 ≤ n + m ∧ (n + m + 1) * (La.length + 1) + 1 ≤ 1000 ∧
  ∀ (p : Addr) (H' : Hp) (M : List En), L2.Same H H' → H p = none → DW H' p M → (∀ i j, cf M i j = tm La Lb i j) → (∀ e ∈ M, (∃ a ∈ La, ∃ b ∈ Lb, e.1 = (a.1.1 + b.1.1, a.1.2 + b.1.2)) ∧ e.2 ≠ 0) → M.length ≤ La.length * Lb.length → Q (.ref p) H'
theorem ok_law_v_times (T : Txt K mg) : FnOk P w K mg base CX0 4 (fA mg "_law_v_times") (fDat K (fA mg "_law_v_times")) ["_law_one", "_law_two"] spVTimes := by
  have G_law_plus := ok_law_plus (P := P) (w := w) (base := base) T
  have G_law_times := ok_law_times (P := P) (w := w) (base := base) T
  have G_law_v_plain := ok_law_v_plain (P := P) (w := w) (base := base) T
  refine T._law_v_times.F.ok sc_law_v_times (fun vs H Q E h => ?_) (fun cdv A outer s H vs Q E hr h => ?_)
  · obtain ⟨d1, d2, La, Lb, n, m, rfl, _⟩ := h
    rfl
  obtain ⟨d1, d2, La, Lb, n, m, rfl, ⟨k1, rd1, de1⟩, ⟨k2, rd2, de2⟩, ll, s1, s2, h1, hnm, k⟩ := h
  refine ⟨_, (pss_cons (ps_set (i := 2) sc_law_v_times.nd rfl (Or.inl rfl) pe_dnewT)
  (pss_cons (ps_lockO (ps_for PassesOwn.never rfl (pi_keys (pv 0)) (pg_name (i := 3) sc_law_v_times.nd rfl (Or.inl rfl))
  (pss_one (ps_lockO (ps_for PassesOwn.never rfl (pi_keys (pv 1)) (pg_name (i := 4) sc_law_v_times.nd rfl (Or.inl rfl))
  (pss_cons (ps_set (i := 5) sc_law_v_times.nd rfl (Or.inl rfl) (pe_tup (pa_cons (pe_op op_add (pe_ix ix_tup (pv 3) pe_int (fun _ _ => rfl)) (pe_ix ix_tup (pv 4) pe_int (fun _ _ => rfl))) (pa_cons (pe_op op_add (pe_ix ix_tup (pv 3) pe_int (fun _ _ => rfl)) (pe_ix ix_tup (pv 4) pe_int (fun _ _ => rfl))) pa_nil))))
  (pss_one (ps_dput (hu_of hr) (pv 2) (pv 5) (pe_c T._law_plus G_law_plus (hr.mono (by decide)) (pa_cons (pe_dget2 (hu_of hr) (pv 2) (pv 5) (pe_tup (pa_cons pe_int (pa_cons pe_int pa_nil))) ⟨by rfl, by rfl, by rfl, by rfl⟩) (pa_cons (pe_c T._law_times G_law_times (hr.mono (by decide)) (pa_cons (pe_dget (hu_of hr) (pv 0) (pv 3) (fun _ _ => rfl)) (pa_cons (pe_dget (hu_of hr) (pv 1) (pv 4) (fun _ _ => rfl)) pa_nil))) pa_nil))) rfl))))))))
  (pss_one (ps_ret (pe_c T._law_v_plain G_law_v_plain (hr.mono (by decide)) (pa_cons (pv 2) pa_nil)))))), ?_⟩
  refine q_asg fun f hf => ?_
  have sf := Same.new' (o := .dT []) hf
  have rd1' := Rd.same rd1 sf
  have rd2' := Rd.same rd2 sf
  have ne1 : d1 ≠ f := fun z => by
    rw [z] at rd1
    rcases rd1 with y | ⟨o, y⟩ <;> rw [hf] at y <;> cases y
  have ne2 : d2 ≠ f := fun z => by
    rw [z] at rd2
    rcases rd2 with y | ⟨o, y⟩ <;> rw [hf] at y <;> cases y
  have snd : ∀ {H1 HL H' : Hp} {d d' : Addr} {kvs kvs' : List (List Key × V)}, Wk H1 HL d f kvs H' → d' ≠ f → Rd H1 d' (.dT kvs') → Rd H1 d (.dT kvs) → Rd H' d' (.dT kvs') := fun {H1 HL H' d d' kvs kvs'} w nf r rr => by
    by_cases z : d' = d
    · subst z
      have e : kvs' = kvs := by
        rcases r with y | ⟨o, y⟩ <;> rcases rr with x | ⟨o', x⟩ <;> rw [y] at x <;> cases x <;> rfl
      rw [e]
      exact w.rdH
    · rcases r with y | ⟨o, y⟩
      · exact .inl (w.but _ _ (by rw [w.off _ z]; exact y) nf)
      · exact .inr ⟨o, w.but _ _ (by rw [w.off _ z]; exact y) nf⟩
  have len1 := de1.len
  have len2 := de2.len
  have sLa : ∀ e ∈ La, Sm n e.2 := fun e he => by
    have := cf_in (k := e.1) (q := e.2) he de1.2
    exact this ▸ s1 _ _
  refine q_keys (kvs := k1) (d := d1) rfl rd1' (fun HL x σ H' => ∃ (c c2 c3 : Option V) (F : List En), σ = [some (.ref d1), some (.ref d2), some (.ref f), c, c2, c3] ∧ Wk (upd H f (.dT [])) HL d1 f k1 H' ∧ DW H' f F ∧ (∀ i j, cf F i j = tm (La.take x) Lb i j) ∧ (∀ e ∈ F, ∃ a ∈ La, ∃ b ∈ Lb, e.1 = (a.1.1 + b.1.1, a.1.2 + b.1.2)) ∧ F.length ≤ x * Lb.length)
    (fun HL off rdL => ?_) (fun HL x σ H' ⟨_, _, _, _, _, w, _⟩ => w.at) ?_ ?_
  · have w : Wk (upd H f (.dT [])) HL d1 f k1 HL := ⟨off, rdL, But.refl, ne1⟩
    exact ⟨none, none, none, [], rfl, w, ⟨[], by rw [off f (Ne.symm ne1), upd_same], .nil, by simp⟩, fun i j => rfl, (fun e he => nomatch he), Nat.zero_le _⟩
  · rintro HL x kk v b σ H' rdL hk ⟨c, c2, c3, F, rfl, w, ⟨fk, ef, df⟩, hcf, hky, hln⟩ hb D' hnx hct
    obtain ⟨a, ha, ek, _, _, _⟩ := de1.1.get hk
    dsimp only at ek
    subst ek
    have xlt : x < La.length := (List.getElem?_eq_some_iff.mp ha).1
    have aL : a ∈ La := List.mem_of_getElem? ha
    have rd2H := snd w ne2 rd2' rd1'
    have xl : x * Lb.length + Lb.length ≤ La.length * Lb.length := by
      have := Nat.mul_le_mul_right Lb.length (show x + 1 ≤ La.length from xlt)
      rw [Nat.add_mul, Nat.one_mul] at this
      exact this
    have ta : Tu H H' := (Tu.of sf).trans (w.tu upd_same rd1')
    refine q_keysE (kvs := k2) (d := d2) rfl rd2H (fun HL2 y σ H2 => ∃ (c2 c3 : Option V) (F : List En), σ = [some (.ref d1), some (.ref d2), some (.ref f), some (.ref b), c2, c3] ∧ Wk H' HL2 d2 f k2 H2 ∧ DW H2 f F ∧ (∀ i j, cf F i j = tm (La.take x) Lb i j + tm1 a (Lb.take y) i j) ∧ (∀ e ∈ F, ∃ a ∈ La, ∃ b ∈ Lb, e.1 = (a.1.1 + b.1.1, a.1.2 + b.1.2)) ∧ F.length ≤ x * Lb.length + y)
      (fun HL2 off rdL2 => ?_) (fun HL2 y σ H2 ⟨_, _, _, _, w, _⟩ => w.at) ?_ ?_
    · have w2 : Wk H' HL2 d2 f k2 HL2 := ⟨off, rdL2, But.refl, ne2⟩
      refine ⟨c2, c3, F, rfl, w2, ⟨fk, by rw [off f (Ne.symm ne2)]; exact ef, df.tu (w2.tu ef rd2H)⟩, fun i j => ?_, hky, hln⟩
      rw [hcf]
      show _ = _ + (0 : Rat)
      grind
    · rintro HL2 y kk2 v2 b2 σ H2 rdL2 hk2 ⟨c2, c3, F2, rfl, w2, ⟨fk2, ef2, df2⟩, hcf2, hky2, hln2⟩ hb2 D2 hnx2 hct2
      obtain ⟨e, he, ek, _, _, _⟩ := de2.1.get hk2
      dsimp only at ek
      subst ek
      have ylt : y < Lb.length := (List.getElem?_eq_some_iff.mp he).1
      have eL : e ∈ Lb := List.mem_of_getElem? he
      have hb' : H2 b = some (.tup ((kN a.1).map kV)) := (w2.tu ef rd2H) _ _ hb
      have tH2 : Tu H H2 := ta.trans (w2.tu ef rd2H)
      have rd1H2 : Rd H2 d1 (.dT k1) := snd w2 ne1 w.rdH rd2H
      have rd2H2 : Rd H2 d2 (.dT k2) := w2.rdH
      have gt : ∀ {kvs : List (List Key × V)} {L : List En} {e : En}, DE H kvs L → e ∈ L → ∃ t, valV kvs (kN e.1) = some (.ref t) ∧ Lo H t e.2 := fun {kvs L e} de he => by
        rcases DE.val de.1 e.1 with ⟨_, n⟩ | ⟨t, q, e1, lo, hq⟩
        · exact (n (List.mem_map.mpr ⟨e, he, rfl⟩)).elim
        · have eq : q = e.2 := (cf_in hq de.2).symm.trans (cf_in (k := e.1) (q := e.2) he de.2)
          exact ⟨t, e1, eq ▸ lo⟩
      obtain ⟨ta1, va1, loa⟩ := gt de1 aL
      obtain ⟨tb1, vb1, lob⟩ := gt de2 eL
      refine q_asg (l_tup (vs := [.int ((a.1.1 : Int) + (e.1.1 : Int)), .int ((a.1.2 : Int) + (e.1.2 : Int))]) (va_cons (v_add (v_ixT (n := 0) (val_var rfl) val_c (SqT.of hb') rfl) (v_ixT (n := 0) (val_var rfl) val_c (SqT.of hb2) rfl)) (va_cons (v_add (v_ixT (n := 1) (val_var rfl) val_c (SqT.of hb') rfl) (v_ixT (n := 1) (val_var rfl) val_c (SqT.of hb2) rfl)) va_nil)) (by show 2 ≤ 100000; decide) fun sp hsp => ?_)
      have s0 := Same.new' (o := .tup [.int ((a.1.1 : Int) + (e.1.1 : Int)), .int ((a.1.2 : Int) + (e.1.2 : Int))]) hsp
      have esp : (upd H2 sp (.tup [.int ((a.1.1 : Int) + (e.1.1 : Int)), .int ((a.1.2 : Int) + (e.1.2 : Int))])) sp = some (.tup ((kN (a.1.1 + e.1.1, a.1.2 + e.1.2)).map kV)) := by
        rw [upd_same]
        rfl
      generalize upd H2 sp (.tup [.int ((a.1.1 : Int) + (e.1.1 : Int)), .int ((a.1.2 : Int) + (e.1.2 : Int))]) = H3 at s0 esp ⊢
      refine call_1 ((val_var rfl) _ ⟨f, rfl, .inr ⟨fk2, .inl (s0 _ _ ef2)⟩, (val_var rfl) _ (l_tup (va_cons val_c (va_cons val_c va_nil)) (by show 2 ≤ 100000; decide) fun t0 h0 => ⟨_, DGet.t (Same.new' h0 _ _ (s0 _ _ ef2)) (Same.new' h0 _ _ esp), ?_⟩)⟩)
      have s1' := Same.new' (o := .tup [.int 0, .int 1]) h0
      have z0 : Lo (upd H3 t0 (.tup [.int 0, .int 1])) t0 (0 : Rat) := zero_lo upd_same
      generalize upd H3 t0 (.tup [.int 0, .int 1]) = H4 at s1' z0 ⊢
      have S4 := s0.trans s1'
      obtain ⟨t1, e1, lo1⟩ := (df2.tu (Tu.of S4)).getD (a.1.1 + e.1.1, a.1.2 + e.1.2) z0
      rw [e1]
      refine va_1 (call_1 ((v_dgetT (val_var rfl) (val_var rfl) (Rd.same rd1H2 S4) (S4 _ _ hb') va1) _ (va_1 ((v_dgetT (val_var rfl) (val_var rfl) (Rd.same rd2H2 S4) (S4 _ _ hb2) vb1) _ ?_))))
      have sa : Sm n a.2 := sLa a aL
      have sb : Sm m e.2 := by
        have := cf_in (k := e.1) (q := e.2) eL de2.2
        exact this ▸ s2 _ _
      have big : n + m + 1 ≤ 1000 := by
        rw [Nat.mul_succ] at hnm
        omega
      refine cs_ltimes ((loa.tu tH2).same S4) ((lob.tu tH2).same S4) sa sb (by omega) (by omega) fun t3 H5 s5 lo3 => ?_
      have cz : cf F2 (a.1.1 + e.1.1) (a.1.2 + e.1.2) = tm (La.take x) Lb (a.1.1 + e.1.1) (a.1.2 + e.1.2) := by
        rw [hcf2, tm1_fresh he de2.2]; grind
      have sc : Sm ((n + m + 1) * La.length + 1) (cf F2 (a.1.1 + e.1.1) (a.1.2 + e.1.2)) := by
        rw [cz]
        refine (tm_sm (L := La.take x) (n := n) de2.2 h1 s2 _ _ fun e he => sLa e (List.mem_of_mem_take he)).mono ?_
        have : (La.take x).length ≤ La.length := by rw [List.length_take]; omega
        have := Nat.mul_le_mul_left (n + m + 1) this
        omega
      have hb1 : (n + m + 1) * La.length + 1 ≤ 1000 := by
        rw [Nat.mul_succ] at hnm
        omega
      refine cs_lplus (lo1.same s5) lo3 sc (sa.mul sb) hb1 (by omega) fun t4 H6 s6 lo4 => ?_
      have S6 := (S4.trans s5).trans s6
      have w3 := w2.step (But.of (p := f) S6)
      have ef6 := S6 _ _ ef2
      have esp6 := s6 _ _ (s5 _ _ (s1' _ _ esp))
      refine (val_var rfl) _ ((val_var rfl) _ ⟨f, _, rfl, DPut.t ef6 esp6 (Nat.lt_of_le_of_lt (show fk2.length ≤ 1000 by have := df2.len; omega) (by decide)), ?_⟩)
      rw [hnx2]
      have w4 := w3.step (show But f H6 (upd H6 f (.dT (putK fk2 (kN (a.1.1 + e.1.1, a.1.2 + e.1.2)) (.ref t4)))) from fun b o eb nb => by rw [upd_ne nb]; exact eb)
      refine ⟨_, _, putE F2 (a.1.1 + e.1.1, a.1.2 + e.1.2) _, rfl, w4, ⟨_, upd_same, ((df2.tu (Tu.of S6)).put lo4).tu (Tu.putT ef6)⟩, fun i j => ?_, fun a' ha' => ?_, Nat.le_trans len_put (by omega)⟩
      · rw [cf_put df2.2, tm1_take he]
        split
        · rename_i z
          have g1 : i = a.1.1 + e.1.1 := (Prod.mk.inj z).1.symm
          have g2 : j = a.1.2 + e.1.2 := (Prod.mk.inj z).2.symm
          rw [g1, g2, hcf2]
          grind
        · rw [hcf2]; grind
      · rcases mem_put ha' with rfl | h
        · exact ⟨a, aL, e, eL, rfl⟩
        · exact hky2 _ h
    · rintro HL2 σ H2 ⟨c2, c3, F2, rfl, w2, dw2, hcf2, hky2, hln2⟩ H3 h3 hd3
      obtain ⟨b0, tu2, ff⟩ := w2.fin h3 hd3
      obtain ⟨fk2, ef2, df2⟩ := dw2
      rw [len2] at hln2
      rw [hnx]
      refine ⟨_, _, _, F2, rfl, w.step b0, ⟨fk2, by rw [ff]; exact ef2, df2.tu tu2⟩, fun i j => ?_, hky2, by rw [Nat.add_mul, Nat.one_mul]; exact hln2⟩
      rw [hcf2, len2, List.take_length, tm_take ha]
  · rintro HL σ H' ⟨c, c2, c3, F, rfl, w, dw, hcf, hky, hln⟩ H2 h2 hd2
    obtain ⟨b0, tu2, ff⟩ := w.fin h2 hd2
    obtain ⟨fk, ef, df⟩ := dw
    rw [len1] at hln
    have sH : L2.Same H H2 := fun b o e => b0 b o (sf _ _ e) (ne_of_none e hf)
    have df2 : DP H2 f F := ⟨fk, .inl (by rw [ff]; exact ef), df.tu tu2⟩
    refine r_ret (te := tCall _ _ _ _) (c_call (va_cons (val_var rfl) va_nil) ⟨f, F, rfl, df2, by omega, fun p H3 M s3 np dM cM mM lM => k p H3 M (sH.trans s3) ?_ dM (fun i j => ?_) (fun e he => ⟨hky e (mM e he).1, (mM e he).2⟩) (by omega)⟩)
    · exact sH.free np
    · rw [cM, hcf, len1, List.take_length]

/-! ### slopes -/
def exL (l : Nat) (k : Nat × Nat) : Nat := if l = 0 then k.1 else k.2
def dnL (l : Nat) (k : Nat × Nat) : Nat × Nat := if l = 0 then (k.1 - 1, k.2) else (k.1, k.2 - 1)
def upL (l : Nat) (k : Nat × Nat) : Nat × Nat := if l = 0 then (k.1 + 1, k.2) else (k.1, k.2 + 1)
theorem up_dn {l : Nat} {k : Nat × Nat} (h : 0 < exL l k) : upL l (dnL l k) = k := by
  unfold exL at h
  unfold upL dnL
  by_cases z : l = 0
  · rw [if_pos z] at h
    rw [if_pos z, if_pos z]
    exact Prod.ext (by show k.1 - 1 + 1 = k.1; omega) rfl
  · rw [if_neg z] at h
    rw [if_neg z, if_neg z]
    exact Prod.ext rfl (by show k.2 - 1 + 1 = k.2; omega)
theorem dn_up {l : Nat} {k : Nat × Nat} : dnL l (upL l k) = k := by
  unfold upL dnL
  by_cases z : l = 0
  · rw [if_pos z, if_pos z]; rfl
  · rw [if_neg z, if_neg z]; rfl
theorem ex_up {l : Nat} {k : Nat × Nat} : 0 < exL l (upL l k) := by
  unfold exL upL
  by_cases z : l = 0
  · rw [if_pos z, if_pos z]; exact Nat.succ_pos _
  · rw [if_neg z, if_neg z]; exact Nat.succ_pos _
def sl (l : Nat) (L : List En) (i j : Nat) : Rat := cf L (upL l (i, j)).1 (upL l (i, j)).2 * ((exL l (upL l (i, j)) : Nat) : Rat)
theorem nat_lo {H : Hp} {t : Addr} {n : Nat} (e : H t = some (.tup [.int (n : Int), .int 1])) : Lo H t ((n : Nat) : Rat) := by
  have := int_lo (i := (n : Int)) e
  exact this
theorem nat_sm {n k : Nat} (h : n < 2 ^ k) (k1 : 1 ≤ k) : Sm k ((n : Nat) : Rat) := by
  have := int_sm (i := (n : Int)) (n := k) (by rw [Int.natAbs_natCast]; exact h) k1
  exact this
def spVSlope : Sp := fun vs H Q _ => ∃ (d : Addr) (l : Nat) (L : List En) (n : Nat), vs = [.ref d, .int (l : Int)] ∧ l ≤ 1 ∧ DP H d L ∧ Bx bxN L ∧ L.length ≤ 900 ∧ SmC n L ∧ n ≤ 1000 ∧
  ∀ (p : Addr) (H' : Hp) (M : List En), L2.Same H H' → H p = none → DW H' p M → (∀ i j, cf M i j = sl l L i j) → (∀ e ∈ M, (∃ a ∈ L, 0 < exL l a.1 ∧ e.1 = dnL l a.1) ∧ e.2 ≠ 0) → M.length ≤ L.length → Q (.ref p) H'
theorem ok_law_v_slope (T : Txt K mg) : FnOk P w K mg base CX0 4 (fA mg "_law_v_slope") (fDat K (fA mg "_law_v_slope")) ["_law_one", "_law_letter"] spVSlope := by
  have G_law_times := ok_law_times (P := P) (w := w) (base := base) T
  have G_law_v_plain := ok_law_v_plain (P := P) (w := w) (base := base) T
  refine T._law_v_slope.F.ok sc_law_v_slope (fun vs H Q E h => ?_) (fun cdv A outer s H vs Q E hr h => ?_)
  · obtain ⟨d, l, L, n, rfl, _⟩ := h
    rfl
  obtain ⟨d, l, L, n, rfl, hl, ⟨k1, rd1, de1⟩, bx, ll, s1, hn, k⟩ := h
  refine ⟨_, (pss_cons (ps_set (i := 2) sc_law_v_slope.nd rfl (Or.inl rfl) pe_dnewT)
  (pss_cons (ps_lockO (ps_for PassesOwn.never rfl (pi_keys (pv 0)) (pg_name (i := 3) sc_law_v_slope.nd rfl (Or.inl rfl))
  (pss_one (ps_if (pt_cmpR op_gt (pe_ix ix_tup (pv 3) (pv 1) (fun _ _ => rfl)) pe_int (nomark _)) (pss_cons (ps_set (i := 4) sc_law_v_slope.nd rfl (Or.inl rfl) (pe_ifExp (pt_cmpR op_eq (pv 1) pe_int (nomark _)) (pe_tup (pa_cons (pe_op op_sub (pe_ix ix_tup (pv 3) pe_int (fun _ _ => rfl)) pe_int) (pa_cons (pe_ix ix_tup (pv 3) pe_int (fun _ _ => rfl)) pa_nil))) (pe_tup (pa_cons (pe_ix ix_tup (pv 3) pe_int (fun _ _ => rfl)) (pa_cons (pe_op op_sub (pe_ix ix_tup (pv 3) pe_int (fun _ _ => rfl)) pe_int) pa_nil)))))
  (pss_one (ps_dput (hu_of hr) (pv 2) (pv 4) (pe_c T._law_times G_law_times (hr.mono (by decide)) (pa_cons (pe_dget (hu_of hr) (pv 0) (pv 3) (fun _ _ => rfl)) (pa_cons (pe_tup (pa_cons (pe_ix ix_tup (pv 3) (pv 1) (fun _ _ => rfl)) (pa_cons pe_int pa_nil))) pa_nil))) rfl))) pss_nil))))
  (pss_one (ps_ret (pe_c T._law_v_plain G_law_v_plain (hr.mono (by decide)) (pa_cons (pv 2) pa_nil)))))), ?_⟩
  refine q_asg fun f hf => ?_
  have sf := Same.new' (o := .dT []) hf
  have rd1' := Rd.same rd1 sf
  have ne1 : d ≠ f := fun z => by
    rw [z] at rd1
    rcases rd1 with y | ⟨o, y⟩ <;> rw [hf] at y <;> cases y
  have len1 := de1.len
  refine q_keys (kvs := k1) (d := d) rfl rd1' (fun HL x σ H' => ∃ (c c2 : Option V) (F : List En), σ = [some (.ref d), some (.int (l : Int)), some (.ref f), c, c2] ∧ Wk (upd H f (.dT [])) HL d f k1 H' ∧ DW H' f F ∧ (∀ i j, cf F i j = sl l (L.take x) i j) ∧ (∀ e ∈ F, ∃ a ∈ L, 0 < exL l a.1 ∧ e.1 = dnL l a.1) ∧ F.length ≤ x)
    (fun HL off rdL => ?_) (fun HL x σ H' ⟨_, _, _, _, w, _⟩ => w.at) ?_ ?_
  · have w : Wk (upd H f (.dT [])) HL d f k1 HL := ⟨off, rdL, But.refl, ne1⟩
    refine ⟨none, none, [], rfl, w, ⟨[], by rw [off f (Ne.symm ne1), upd_same], .nil, by simp⟩, fun i j => ?_, (fun e he => nomatch he), Nat.zero_le _⟩
    show (0 : Rat) = 0 * _
    grind
  · rintro HL x kk v b σ H' rdL hk ⟨c, c2, F, rfl, w, ⟨fk, ef, df⟩, hcf, hky, hln⟩ hb D' hnx hct
    obtain ⟨a, ha, ek, _, _, _⟩ := de1.1.get hk
    dsimp only at ek
    subst ek
    have xlt : x < L.length := (List.getElem?_eq_some_iff.mp ha).1
    have aL : a ∈ L := List.mem_of_getElem? ha
    have tuH : Tu H H' := (Tu.of sf).trans (w.tu upd_same rd1')
    obtain ⟨t1, va1, lo1⟩ : ∃ t, valV k1 (kN a.1) = some (.ref t) ∧ Lo H t a.2 := by
      rcases DE.val de1.1 a.1 with ⟨_, n⟩ | ⟨t, q, e1, lo, hq⟩
      · exact (n (List.mem_map.mpr ⟨a, aL, rfl⟩)).elim
      · have eq : q = a.2 := (cf_in hq de1.2).symm.trans (cf_in (k := a.1) (q := a.2) aL de1.2)
        exact ⟨t, e1, eq ▸ lo⟩
    have sa : Sm n a.2 := by
      have := cf_in (k := a.1) (q := a.2) aL de1.2
      exact this ▸ s1 _ _
    have xe : [V.int (a.1.1 : Int), V.int (a.1.2 : Int)][l]? = some (.int (exL l a.1 : Int)) := by
      rcases Nat.le_one_iff_eq_zero_or_eq_one.mp hl with rfl | rfl <;> rfl
    have ixl : ∀ {σ : L2.St} {H2 : Hp}, L2.Same H' H2 → σ[3]? = some (some (V.ref b)) → σ[1]? = some (some (V.int (l : Int))) → Val (tOp (rIxT K) (tVar 3) (tVar 1)) σ H2 (.int (exL l a.1 : Int)) := fun s h1 h2 => v_ixT (n := l) (val_var h1) (val_var h2) (SqT.of (s _ _ hb)) xe
    have st : ∀ i j, sl l (L.take (x + 1)) i j = sl l (L.take x) i j + (if a.1 = upL l (i, j) then a.2 else 0) * ((exL l (upL l (i, j)) : Nat) : Rat) := fun i j => by
      unfold sl
      rw [cf_take ha]
      grind
    refine t_op ((ixl (L2.Same.refl _) rfl rfl) _ (val_c _ ⟨_, _, rfl, rfl, _, rfl, ?_⟩))
    by_cases z : exL l a.1 = 0
    · rw [if_neg (by rw [decide_eq_false (by omega)]; decide)]
      show D'.nx _ _
      rw [hnx]
      refine ⟨_, _, F, rfl, w, ⟨fk, ef, df⟩, fun i j => ?_, hky, by omega⟩
      rw [hcf, st, if_neg (fun y => by
        have := ex_up (l := l) (k := (i, j))
        rw [← y] at this
        omega)]
      grind
    rw [if_pos (decide_eq_true (by omega))]
    have pos : 0 < exL l a.1 := Nat.pos_of_ne_zero z
    have mk : ∀ {te : TE} {σ : L2.St} {Q : VK}, σ[3]? = some (some (V.ref b)) → σ[1]? = some (some (V.int (l : Int))) → (∀ p, H' p = none → Q (.ref p) (upd H' p (.tup [.int ((dnL l a.1).1 : Int), .int ((dnL l a.1).2 : Int)]))) →
        tIf (tTest (tOp rEq (tVar 1) (tC (.int 0)))) (tTup (tCons (tOp (rI0 fun i j => .int (i - j)) (tOp (rIxT K) (tVar 3) (tC (.int 0))) (tC (.int 1))) (tCons (tOp (rIxT K) (tVar 3) (tC (.int 1))) tNil)))
          (tTup (tCons (tOp (rIxT K) (tVar 3) (tC (.int 0))) (tCons (tOp (rI0 fun i j => .int (i - j)) (tOp (rIxT K) (tVar 3) (tC (.int 1))) (tC (.int 1))) tNil))) σ H' Q := fun {te σ Q} h1 h2 q => by
      refine t_op ((val_var h2) _ (val_c _ ⟨rfl, _, rfl, ?_⟩))
      have i0 : Val (tOp (rIxT K) (tVar 3) (tC (.int 0))) σ H' (.int (a.1.1 : Int)) := v_ixT (n := 0) (val_var h1) val_c (SqT.of hb) rfl
      have i1 : Val (tOp (rIxT K) (tVar 3) (tC (.int 1))) σ H' (.int (a.1.2 : Int)) := v_ixT (n := 1) (val_var h1) val_c (SqT.of hb) rfl
      by_cases y : l = 0
      · rw [if_pos (decide_eq_true (by rw [y]; rfl))]
        refine l_tup (va_cons (v_sub i0 val_c) (va_cons i1 va_nil)) (by show 2 ≤ 100000; decide) fun p hp => ?_
        have e := q p hp
        unfold exL at pos
        rw [if_pos y] at pos
        unfold dnL at e
        rw [if_pos y] at e
        have ee : ((a.1.1 - 1 : Nat) : Int) = (a.1.1 : Int) - 1 := by omega
        rw [← ee]
        exact e
      · rw [if_neg (by rw [decide_eq_false (fun w => y (by have := V.int.inj w; omega))]; decide)]
        refine l_tup (va_cons i0 (va_cons (v_sub i1 val_c) va_nil)) (by show 2 ≤ 100000; decide) fun p hp => ?_
        have e := q p hp
        unfold exL at pos
        rw [if_neg y] at pos
        unfold dnL at e
        rw [if_neg y] at e
        have ee : ((a.1.2 - 1 : Nat) : Int) = (a.1.2 : Int) - 1 := by omega
        rw [← ee]
        exact e
    refine q_asg (mk (te := tVar 0) rfl rfl fun sp hsp => ?_)
    have s0 := Same.new' (o := .tup [.int ((dnL l a.1).1 : Int), .int ((dnL l a.1).2 : Int)]) hsp
    have esp : (upd H' sp (.tup [.int ((dnL l a.1).1 : Int), .int ((dnL l a.1).2 : Int)])) sp = some (.tup ((kN (dnL l a.1)).map kV)) := by
      rw [upd_same]
      rfl
    generalize upd H' sp (.tup [.int ((dnL l a.1).1 : Int), .int ((dnL l a.1).2 : Int)]) = H3 at s0 esp ⊢
    refine call_1 ((v_dgetT (val_var rfl) (val_var rfl) (Rd.same w.rdH s0) (s0 _ _ hb) va1) _ (va_1 (l_tup (va_cons (ixl s0 rfl rfl) (va_cons val_c va_nil)) (by show 2 ≤ 100000; decide) fun t2 h2 => ?_)))
    have s2 := Same.new' (o := .tup [.int (exL l a.1 : Int), .int 1]) h2
    have lo2 : Lo (upd H3 t2 (.tup [.int (exL l a.1 : Int), .int 1])) t2 ((exL l a.1 : Nat) : Rat) := nat_lo upd_same
    generalize upd H3 t2 (.tup [.int (exL l a.1 : Int), .int 1]) = H4 at s2 lo2 ⊢
    have S4 := s0.trans s2
    have exs : exL l a.1 < 2 ^ 5 := by
      have := bx a aL
      unfold bxN at this
      unfold exL
      split <;> omega
    refine cs_ltimes ((lo1.tu tuH).same S4) lo2 sa (nat_sm exs (by decide)) hn (by decide) fun t3 H5 s5 lo3 => ?_
    have S5 := S4.trans s5
    have ef5 := S5 _ _ ef
    refine (val_var rfl) _ ((val_var rfl) _ ⟨f, _, rfl, DPut.t ef5 (s5 _ _ (s2 _ _ esp)) (Nat.lt_of_le_of_lt (show fk.length ≤ 1000 by have := df.len; omega) (by decide)), ?_⟩)
    show D'.nx _ _
    rw [hnx]
    have w4 := (w.step (But.of (p := f) S5)).step (show But f H5 (upd H5 f (.dT (putK fk (kN (dnL l a.1)) (.ref t3)))) from fun b o eb nb => by rw [upd_ne nb]; exact eb)
    refine ⟨_, _, putE F (dnL l a.1) _, rfl, w4, ⟨_, upd_same, ((df.tu (Tu.of S5)).put lo3).tu (Tu.putT ef5)⟩, fun i j => ?_, fun a' ha' => ?_, Nat.le_trans len_put (by omega)⟩
    · rw [cf_put df.2, st]
      split
      · rename_i y
        have e1 : upL l (i, j) = a.1 := by rw [← y]; exact up_dn pos
        rw [if_pos e1.symm, e1]
        have e0 : sl l (L.take x) i j = 0 := by
          unfold sl
          rw [e1, cf_fresh ha de1.2]
          grind
        rw [e0]; grind
      · rename_i y
        rw [hcf, if_neg (fun u => y (by rw [u]; exact dn_up))]; grind
    · rcases mem_put ha' with rfl | h
      · exact ⟨a, aL, pos, rfl⟩
      · exact hky _ h
  · rintro HL σ H' ⟨c, c2, F, rfl, w, dw, hcf, hky, hln⟩ H2 h2 hd2
    obtain ⟨b0, tu2, ff⟩ := w.fin h2 hd2
    obtain ⟨fk, ef, df⟩ := dw
    rw [len1] at hln
    have sH : L2.Same H H2 := fun b o e => b0 b o (sf _ _ e) (ne_of_none e hf)
    have df2 : DP H2 f F := ⟨fk, .inl (by rw [ff]; exact ef), df.tu tu2⟩
    refine r_ret (te := tCall _ _ _ _) (c_call (va_cons (val_var rfl) va_nil) ⟨f, F, rfl, df2, by omega, fun p H3 M s3 np dM cM mM lM => k p H3 M (sH.trans s3) ?_ dM (fun i j => ?_) (fun e he => ⟨hky e (mM e he).1, (mM e he).2⟩) (by omega)⟩)
    · exact sH.free np
    · rw [cM, hcf, len1, List.take_length]
end
end LW

/-! readings with such dicts -/
namespace LW
open PySem PySem.Spec PyProof.Rows L2 GL
section
variable {P : Program} {w : World} {K : PySem.W.Frag} {mg : Str → Option Value} {base : Heap}
theorem tp_cons {tk tv : TE} {r : List (TE × TE)} {σ : L2.St} {H : Hp} {Q : List (V × V) → Hp → Prop} (h : tk σ H fun x H1 => tv σ H1 fun y H2 => tPairs r σ H2 fun ps H3 => Q ((x, y) :: ps) H3) : tPairs ((tk, tv) :: r) σ H Q := h
theorem tp_nil {σ : L2.St} {H : Hp} {Q : List (V × V) → Hp → Prop} (h : Q [] H) : tPairs [] σ H Q := h
theorem l_disp {trs : List (TE × TE)} {σ : L2.St} {H : Hp} {Q : VK} (h : ∀ p, H p = none → tPairs trs σ (upd H p (.dT [])) fun ps H2 => H2 p = some (.dT []) ∧ ∃ kvs : List (List Key × V), Paired (KeyOf H2) ps kvs ∧ kvs.length ≤ 15 ∧ Q (.ref p) (upd H2 p (.dT (mergeT [] kvs)))) : tDispT trs σ H Q := h
theorem putAll_de {H : Hp} : ∀ {L : List ((Nat × Nat) × Addr × Addr × Rat)} {kvs : List (List Key × V)} {M : List En}, (∀ x ∈ L, Lo H x.2.2.1 x.2.2.2) → DE H kvs M →
    DE H (mergeT kvs (L.map fun x => (kN x.1, V.ref x.2.2.1))) (L.foldl (fun acc x => putE acc x.1 x.2.2.2) M)
  | [], _, _, _, d => d
  | x :: L, kvs, M, h, d => putAll_de (L := L) (fun y hy => h y (List.mem_cons_of_mem _ hy)) (d.put (h x (List.mem_cons_self ..)))
/-- the end of a display -/
theorem disp_fin {H2 : Hp} {pd : Addr} {Q : VK} {ps : List (V × V)} (L : List ((Nat × Nat) × Addr × Addr × Rat)) (e : ps = L.map fun x => (V.ref x.2.1, V.ref x.2.2.1)) (h : ∀ x ∈ L, H2 x.2.1 = some (.tup ((kN x.1).map kV)) ∧ Lo H2 x.2.2.1 x.2.2.2) (hp : H2 pd = some (.dT []))
    (hl : L.length ≤ 15) (q : ∀ H3, Tu H2 H3 → But pd H2 H3 → DW H3 pd (L.foldl (fun acc x => putE acc x.1 x.2.2.2) []) → Q (.ref pd) H3) :
    H2 pd = some (.dT []) ∧ ∃ kvs : List (List Key × V), Paired (KeyOf H2) ps kvs ∧ kvs.length ≤ 15 ∧ Q (.ref pd) (upd H2 pd (.dT (mergeT [] kvs))) := by
  refine ⟨hp, L.map fun x => (kN x.1, V.ref x.2.2.1), ?_, by rw [List.length_map]; exact hl, q _ (Tu.putT hp) (fun b o eb nb => by rw [upd_ne nb]; exact eb) ⟨_, upd_same, (putAll_de (fun x hx => (h x hx).2) ⟨.nil, by simp⟩).tu (Tu.putT hp)⟩⟩
  subst e
  clear hp hl q
  induction L with
  | nil => exact .nil
  | cons x L ih => exact .cons ⟨⟨x.2.1, rfl, (h x (List.mem_cons_self ..)).1⟩, rfl⟩ (ih fun y hy => h y (List.mem_cons_of_mem _ hy))
/-- d.get((i, j), (0, 1)) -/
theorem em_get {td : TE} {σ : L2.St} {H : Hp} {d : Addr} {M : List En} (h : Val td σ H (.ref d)) (dp : DP H d M) (i j : Nat) :
    EM (tDGet2 td (tTup (tCons (tC (.int (i : Int))) (tCons (tC (.int (j : Int))) tNil))) (tTup (tCons (tC (.int 0)) (tCons (tC (.int 1)) tNil)))) σ H (fun v H' => LoR H' v (cf M i j)) := fun Q q => by
  obtain ⟨kvs, rd, de⟩ := dp
  refine h _ ⟨d, rfl, .inr ⟨kvs, rd⟩, l_tup (va_cons val_c (va_cons val_c va_nil)) (by show 2 ≤ 100000; decide) fun b hb => l_tup (va_cons val_c (va_cons val_c va_nil)) (by show 2 ≤ 100000; decide) fun t0 h0 => ?_⟩
  have s1 := Same.new' (o := .tup [.int (i : Int), .int (j : Int)]) hb
  have s2 := Same.new' (o := .tup [.int 0, .int 1]) h0
  have S := s1.trans s2
  obtain ⟨t, e, lo⟩ := (de.tu (Tu.of S)).getD (i, j) (zero_lo (H := upd (upd H b (.tup [.int (i : Int), .int (j : Int)])) t0 (.tup [.int 0, .int 1])) upd_same)
  refine ⟨_, .inr ⟨kvs, kN (i, j), b, Rd.same rd S, rfl, s2 _ _ (by rw [upd_same]; rfl), rfl⟩, ?_⟩
  rw [e]
  exact q _ _ S ⟨t, rfl, lo⟩
theorem SmC.slope {l n : Nat} {L M : List En} (n1 : 1 ≤ n) (b : Bx bxN L) (s : SmC n L) (nd : (M.map (·.1)).Nodup) (hc : ∀ i j, cf M i j = sl l L i j) (hm : ∀ e ∈ M, (∃ a ∈ L, 0 < exL l a.1 ∧ e.1 = dnL l a.1) ∧ e.2 ≠ 0) : SmC (n + 5) M := by
  refine SmC.of (by omega) (fun e he => ?_) nd
  obtain ⟨⟨a, ha, pos, ea⟩, _⟩ := hm e he
  have := cf_in (k := e.1) (q := e.2) he nd
  rw [← this, hc]
  unfold sl
  rw [show (e.1.1, e.1.2) = e.1 from rfl, ea, up_dn pos]
  refine (s _ _).mul (nat_sm ?_ (by decide))
  have := b a ha
  unfold bxN at this
  unfold exL
  split <;> omega
theorem SmC.times {n m : Nat} {La Lb M : List En} (nda : (La.map (·.1)).Nodup) (ndb : (Lb.map (·.1)).Nodup) (h1 : 1 ≤ n + m) (sa : SmC n La) (sb : SmC m Lb) (hc : ∀ i j, cf M i j = tm La Lb i j) : SmC ((n + m + 1) * La.length + 1) M := fun i j => by
  rw [hc]
  refine tm_sm ndb h1 sb i j fun e he => ?_
  have := cf_in (k := e.1) (q := e.2) he nda
  exact this ▸ sa _ _
theorem DE.nodup {H : Hp} {d : Addr} {M : List En} (h : DW H d M) : (M.map (·.1)).Nodup := h.choose_spec.2.2
theorem slope_math {P1 S0 S1 F0 F1 T0 T1 W : List En} {m : Mt} {f : Fm}
    (hP : ∀ i j, cf P1 i j = if (0, 2) = (i, j) then f.r else if (1, 1) = (i, j) then 2 * f.q else if (2, 0) = (i, j) then f.p else 0)
    (h0 : ∀ i j, cf S0 i j = sl 0 P1 i j) (h1 : ∀ i j, cf S1 i j = sl 1 P1 i j)
    (f0 : ∀ i j, cf F0 i j = if (0, 1) = (i, j) then m.b else if (1, 0) = (i, j) then m.a else 0)
    (f1 : ∀ i j, cf F1 i j = if (0, 1) = (i, j) then m.d else if (1, 0) = (i, j) then m.c else 0)
    (t0 : ∀ i j, cf T0 i j = tm S0 F0 i j) (t1 : ∀ i j, cf T1 i j = tm S1 F1 i j) (hw : ∀ i j, cf W i j = cf T0 i j + cf T1 i j) :
    cf W 2 0 = (slp m f).p ∧ cf W 1 1 * halfQ = (slp m f).q ∧ cf W 0 2 = (slp m f).r := by
  have b20 : box 2 0 = [(0, 0), (1, 0), (2, 0)] := rfl
  have b11 : box 1 1 = [(0, 0), (0, 1), (1, 0), (1, 1)] := rfl
  have b02 : box 0 2 = [(0, 0), (0, 1), (0, 2)] := rfl
  have hh : 2 * halfQ = 1 := by decide +kernel
  refine ⟨?_, ?_, ?_⟩
  · rw [hw, t0, t1, tm_box, tm_box, b20]
    simp [rs, h0, h1, f0, f1, sl, upL, exL, hP, slp]
    grind
  · rw [hw, t0, t1, tm_box, tm_box, b11]
    simp [rs, h0, h1, f0, f1, sl, upL, exL, hP, slp]
    grind
  · rw [hw, t0, t1, tm_box, tm_box, b02]
    simp [rs, h0, h1, f0, f1, sl, upL, exL, hP, slp]
    grind
end
end LW

/-! the law's own polynomials of two letters -/
namespace LW
open PySem PySem.Spec PyProof.Rows L2 GL
section
variable {P : Program} {w : World} {K : PySem.W.Frag} {mg : Str → Option Value} {base : Heap}

theorem l_pr {σ : L2.St} {H : Hp} {i j : Int} {Q : VK} (q : ∀ b H', L2.Same H H' → H' b = some (.tup [.int i, .int j]) → Q (.ref b) H') : tTup (tCons (tC (.int i)) (tCons (tC (.int j)) tNil)) σ H Q :=
  l_tup (va_cons val_c (va_cons val_c va_nil)) (by show 2 ≤ 100000; decide) fun b hb => q b _ (Same.new' hb) upd_same
theorem call_one {sp : Sp} {L : List V} {E : XK} {te : TE} {σ : L2.St} {H : Hp} {Q : VK} (h : te σ H fun v H1 => sp ([v] ++ L) H1 Q E) : tCall sp L E (tCons te tNil) σ H Q := h
theorem lst3 {H : Hp} {t : Addr} {a b c : Rat} (h : Lst H t [a, b, c]) : ∃ w x y, H t = some (.lst [.ref w, .ref x, .ref y]) ∧ Lo H w a ∧ Lo H x b ∧ Lo H y c := by
  obtain ⟨vs, e, al⟩ := h
  cases al with
  | cons r1 t1 =>
    cases t1 with
    | cons r2 t2 =>
      cases t2 with
      | cons r3 t3 =>
        cases t3
        obtain ⟨w, rfl, l1⟩ := r1
        obtain ⟨x, rfl, l2⟩ := r2
        obtain ⟨y, rfl, l3⟩ := r3
        exact ⟨w, x, y, e, l1, l2, l3⟩
def FlR (m : Mt) (k : Nat) (v : V) (H : Hp) : Prop := ∃ p L, v = .ref p ∧ DW H p L ∧ (∀ i j, cf L i j = if (0, 1) = (i, j) then (if k = 0 then m.b else m.d) else if (1, 0) = (i, j) then (if k = 0 then m.a else m.c) else 0) ∧ Bx 2 L ∧ L.length ≤ 2 ∧ SmC 30 L
theorem flr_stays (m : Mt) : ∀ k, Stays (FlR m k) := fun k v H1 H2 s ⟨p, L, e, d, r⟩ => ⟨p, L, e, d.same s, r⟩
theorem flr_off (m : Mt) : Off (FlR m) := fun k v H D ys zs ⟨p, L, e, ⟨kvs, d1, d2⟩, r⟩ eD => ⟨p, L, e, ⟨kvs, by
  rw [upd_ne (ne_of d1 eD (by intro z; cases z))]
  exact d1, d2.tu fun b xs eb => by
    rw [upd_ne (ne_of eb eD (by intro z; cases z))]
    exact eb⟩, r⟩
theorem rows_two {R : Nat → V → Hp → Prop} {ys : List V} {H : Hp} (h : Rows R 0 2 ys H) : ∃ u v, ys = [u, v] ∧ R 0 u H ∧ R 1 v H := by
  obtain ⟨r, l⟩ := h
  match ys, r, l with
  | [u, v], ⟨a, b, _⟩, _ => exact ⟨u, v, rfl, a, b⟩
def spLSlope : Sp := fun vs H Q _ => ∃ (l lf : Addr) (m : Mt) (f : Fm), vs = [.ref l, .ref lf] ∧ Lst H l m.l ∧ Lst H lf f.l ∧ Sms 30 m.l ∧ Sms 12 f.l ∧ ∀ p H', L2.Same H H' → Tup H' p (slp m f).l → Q (.ref p) H'
theorem ok_law_form_slope (T : Txt K mg) : FnOk P w K mg base CX0 5 (fA mg "_law_form_slope") (fDat K (fA mg "_law_form_slope")) ["_law_matrix_here", "_law_form"] spLSlope := by
  have G_law_times := ok_law_times (P := P) (w := w) (base := base) T
  have G_law_v_plain := ok_law_v_plain (P := P) (w := w) (base := base) T
  have G_law_v_plus := ok_law_v_plus (P := P) (w := w) (base := base) T
  have G_law_v_times := ok_law_v_times (P := P) (w := w) (base := base) T
  have G_law_v_slope := ok_law_v_slope (P := P) (w := w) (base := base) T
  refine T._law_form_slope.F.ok sc_law_form_slope (fun vs H Q E h => ?_) (fun cdv A outer s H vs Q E hr h => ?_)
  · obtain ⟨l, lf, m, f, rfl, _⟩ := h
    rfl
  obtain ⟨l, lf, m, f, rfl, Lm, Lf, sm, sf, k⟩ := h
  refine ⟨_, (pss_cons (ps_set (i := 2) sc_law_form_slope.nd rfl (Or.inl rfl) (pe_c T._law_v_plain G_law_v_plain (hr.mono (by decide)) (pa_cons (pe_dispT (hu64 hr) (pps_cons (pe_tup (pa_cons pe_int (pa_cons pe_int pa_nil))) (pe_ix ix_list (pv 1) pe_int (fun _ _ => rfl)) (pps_cons (pe_tup (pa_cons pe_int (pa_cons pe_int pa_nil))) (pe_c T._law_times G_law_times (hr.mono (by decide)) (pa_cons (pe_tup (pa_cons pe_int (pa_cons pe_int pa_nil))) (pa_cons (pe_ix ix_list (pv 1) pe_int (fun _ _ => rfl)) pa_nil))) (pps_cons (pe_tup (pa_cons pe_int (pa_cons pe_int pa_nil))) (pe_ix ix_list (pv 1) pe_int (fun _ _ => rfl)) pps_nil))) (by rfl) (by rfl) (fun z => by cases z) (by decide)) pa_nil)))
  (pss_cons (ps_setLc (i := 3) (own := [("_law_k", 4)]) (g := gName 4) (tt := tYes) (by rfl) sc_law_form_slope.nd rfl rfl (sw_true rfl rfl rfl (by decide +kernel)) (pi_range1 (by rfl) T.range (pa_cons pe_int pa_nil)) (blkOk_by (own := [("_law_k", 4)]) (N := ["_law_matrix_here", "_law_form", "_law_plane", "_law_flow", "_law_k", "_law_whole", "_law_middle"]) (sc := defScope s_law_form_slope) (by decide +kernel)) (fun _ _ _ _ _ => pg_name (i := 4) sc_law_form_slope.nd rfl (Or.inl rfl)) (fun _ _ _ _ _ => pts_nil) (fun _ _ _ _ _ => (pe_c T._law_v_plain G_law_v_plain (hr.mono (by decide)) (pa_cons (pe_dispT (hu64 hr) (pps_cons (pe_tup (pa_cons pe_int (pa_cons pe_int pa_nil))) (pe_ix (show IxR _ (rIxL K) from ix_list) (pv 0) (pe_op op_mul pe_int (pv 4)) (fun _ _ => rfl)) (pps_cons (pe_tup (pa_cons pe_int (pa_cons pe_int pa_nil))) (pe_ix (show IxR _ (rIxL K) from ix_list) (pv 0) (pe_op op_add (pe_op op_mul pe_int (pv 4)) pe_int) (fun _ _ => rfl)) pps_nil)) (by rfl) (by rfl) (fun z => by cases z) (by decide)) pa_nil))))
  (pss_cons (ps_set (i := 5) sc_law_form_slope.nd rfl (Or.inl rfl) (pe_c T._law_v_plus G_law_v_plus (hr.mono (by decide)) (pa_cons (pe_c T._law_v_times G_law_v_times (hr.mono (by decide)) (pa_cons (pe_c T._law_v_slope G_law_v_slope (hr.mono (by decide)) (pa_cons (pv 2) (pa_cons pe_int pa_nil))) (pa_cons (pe_ix ix_list (pv 3) pe_int (fun _ _ => rfl)) pa_nil))) (pa_cons (pe_c T._law_v_times G_law_v_times (hr.mono (by decide)) (pa_cons (pe_c T._law_v_slope G_law_v_slope (hr.mono (by decide)) (pa_cons (pv 2) (pa_cons pe_int pa_nil))) (pa_cons (pe_ix ix_list (pv 3) pe_int (fun _ _ => rfl)) pa_nil))) pa_nil))))
  (pss_cons (ps_set (i := 6) sc_law_form_slope.nd rfl (Or.inl rfl) (pe_c T._law_times G_law_times (hr.mono (by decide)) (pa_cons (pe_dget2 (hu_of hr) (pv 5) (pe_tup (pa_cons pe_int (pa_cons pe_int pa_nil))) (pe_tup (pa_cons pe_int (pa_cons pe_int pa_nil))) ⟨by rfl, by rfl, by rfl, by rfl⟩) (pa_cons (pe_tup (pa_cons pe_int (pa_cons pe_int pa_nil))) pa_nil))))
  (pss_one (ps_ret (pe_tup (pa_cons (pe_dget2 (hu_of hr) (pv 5) (pe_tup (pa_cons pe_int (pa_cons pe_int pa_nil))) (pe_tup (pa_cons pe_int (pa_cons pe_int pa_nil))) ⟨by rfl, by rfl, by rfl, by rfl⟩) (pa_cons (pv 6) (pa_cons (pe_dget2 (hu_of hr) (pv 5) (pe_tup (pa_cons pe_int (pa_cons pe_int pa_nil))) (pe_tup (pa_cons pe_int (pa_cons pe_int pa_nil))) ⟨by rfl, by rfl, by rfl, by rfl⟩) pa_nil)))))))))), ?_⟩
  obtain ⟨w1, w2, w3, w4, em, lo1, lo2, lo3, lo4⟩ := lst4 Lm
  obtain ⟨x1, x2, x3, ef, lp, lq, lr⟩ := lst3 Lf
  have sp := sf f.p (by simp [Fm.l])
  have sq := sf f.q (by simp [Fm.l])
  have sr := sf f.r (by simp [Fm.l])
  have ixf : ∀ {σ : L2.St} {H' : Hp} {n : Nat} {v : V}, L2.Same H H' → σ[1]? = some (some (V.ref lf)) → [V.ref x1, .ref x2, .ref x3][n]? = some v → Val (tOp (rIxL K) (tVar 1) (tC (.int (n : Int)))) σ H' v := fun s h e => v_ixL (val_var h) val_c (SqL.of (s _ _ ef)) e
  refine q_asg (call_one (l_disp fun pd hpd => tp_cons (l_pr fun b1 H1 s1 e1 => (ixf (n := 0) ((Same.new' hpd).trans s1) rfl rfl) _ (tp_cons (l_pr fun b2 H2 s2 e2 => call_1 (l_pr fun c2 H3 s3 e3 => va_1 ((ixf (n := 1) ((((Same.new' hpd).trans s1).trans s2).trans s3) rfl rfl) _ ?_)))))))
  have S3 := (((Same.new' (o := .dT []) hpd).trans s1).trans s2).trans s3
  refine cs_ltimes (int_lo e3) (lq.same S3) (int_sm (n := 2) (by decide) (by decide)) sq (by decide) (by decide) fun t2 H4 s4 lo4' => tp_cons (l_pr fun b3 H5 s5 e5 => (ixf (n := 2) ((S3.trans s4).trans s5) rfl rfl) _ (tp_nil ?_))
  have S5 := (S3.trans s4).trans s5
  refine disp_fin (Q := fun v H1 => spVPlain ([v] ++ []) H1 _ _) [((2, 0), b1, x1, f.p), ((1, 1), b2, t2, ((2 : Int) : Rat) * f.q), ((0, 2), b3, x3, f.r)] rfl ?_ ((((s1.trans s2).trans s3).trans s4).trans s5 _ _ upd_same) (by show 3 ≤ 15; decide) fun H6 tu6 b6 dw6 => ?_
  · intro x hx
    simp only [List.mem_cons, List.not_mem_nil, or_false] at hx
    rcases hx with rfl | rfl | rfl
    · exact ⟨(((s2.trans s3).trans s4).trans s5) _ _ e1, lp.same S5⟩
    · exact ⟨((s3.trans s4).trans s5) _ _ e2, lo4'.same s5⟩
    · exact ⟨e5, lr.same S5⟩
  have S6 : L2.Same H H6 := fun b o e => b6 b o (((((s1.trans s2).trans s3).trans s4).trans s5) _ _ (Same.new' hpd _ _ e)) (ne_of_none e hpd)
  have nd6 := DE.nodup dw6
  have c6 : ∀ i j, cf (putE (putE (putE [] (2, 0) f.p) (1, 1) (((2 : Int) : Rat) * f.q)) (0, 2) f.r) i j = if (0, 2) = (i, j) then f.r else if (1, 1) = (i, j) then 2 * f.q else if (2, 0) = (i, j) then f.p else 0 := fun i j => by
    have n0 : (([] : List En).map (·.1)).Nodup := by simp
    rw [cf_put (nodup_put (nodup_put n0)), cf_put (nodup_put n0), cf_put n0]
    rfl
  have m6 : ∀ e ∈ putE (putE (putE [] (2, 0) f.p) (1, 1) (((2 : Int) : Rat) * f.q)) (0, 2) f.r, (e.1.1 ≤ 2 ∧ e.1.2 ≤ 2) ∧ Sm 14 e.2 := fun e he => by
    rcases mem_put he with rfl | he
    · exact ⟨⟨by simp, by simp⟩, sr.mono (by decide)⟩
    · rcases mem_put he with rfl | he
      · exact ⟨⟨by simp, by simp⟩, (int_sm (n := 2) (by decide) (by decide)).mul sq⟩
      · rcases mem_put he with rfl | he
        · exact ⟨⟨by simp, by simp⟩, sp.mono (by decide)⟩
        · exact nomatch he
  have l6 : (putE (putE (putE [] (2, 0) f.p) (1, 1) (((2 : Int) : Rat) * f.q)) (0, 2) f.r).length ≤ 3 := Nat.le_trans len_put (Nat.succ_le_succ (Nat.le_trans len_put (Nat.succ_le_succ len_put)))
  have d6 : DP H6 pd (putE (putE (putE [] (2, 0) f.p) (1, 1) (((2 : Int) : Rat) * f.q)) (0, 2) f.r) := dw6.dp
  generalize putE (putE (putE [] (2, 0) f.p) (1, 1) (((2 : Int) : Rat) * f.q)) (0, 2) f.r = L6 at c6 m6 l6 d6
  clear nd6 dw6 tu6 b6
  refine ⟨pd, L6, rfl, d6, by omega, fun pp H7 P1 s7 n7 d7 c7 m7 l7 => ?_⟩
  have S7 := S6.trans s7
  have cP : ∀ i j, cf P1 i j = if (0, 2) = (i, j) then f.r else if (1, 1) = (i, j) then 2 * f.q else if (2, 0) = (i, j) then f.p else 0 := fun i j => (c7 i j).trans (c6 i j)
  have bP : ∀ e ∈ P1, (e.1.1 ≤ 2 ∧ e.1.2 ≤ 2) ∧ Sm 14 e.2 := fun e he => m6 e (m7 e he).1
  have lP : P1.length ≤ 3 := by omega
  have sP : SmC 14 P1 := SmC.of (by decide) (fun e he => (bP e he).2) (DE.nodup d7)
  clear c7 m7 l7 c6 m6 l6 d6 s7
  clear S6 S5 s5 s4 S3 s3 s2 s1 e5 e3 e2 e1 lo4' L6
  -- the flow
  have row : ∀ i, i < 2 → ∃ t u, [V.ref w1, .ref w2, .ref w3, .ref w4][2 * i]? = some (.ref t) ∧ [V.ref w1, .ref w2, .ref w3, .ref w4][2 * i + 1]? = some (.ref u) ∧ Lo H t (if i = 0 then m.a else m.c) ∧ Lo H u (if i = 0 then m.b else m.d) := fun i hi => by
    rcases (show i = 0 ∨ i = 1 by omega) with rfl | rfl
    · exact ⟨w1, w2, rfl, rfl, lo1, lo2⟩
    · exact ⟨w3, w4, rfl, rfl, lo3, lo4⟩
  refine q_asg (l_lcR (n := 2) (R := FlR m) (flr_stays m) (flr_off m) (va_cons val_c va_nil) (by decide) (fun i H8 hi s8 => turn_name rfl fun Q2 q2 => ?_) (fun D ys H8 s8 e8 r8 => ?_))
  · obtain ⟨t, u, et, eu, lt, lu⟩ := row i hi
    have S8 := S7.trans s8
    have iv : ∀ {σ : L2.St} {H' : Hp}, σ[4]? = some (some (V.int (i : Int))) → Val (tOp (rI CMul fun i j => .int (i * j)) (tC (.int 2)) (tVar 4)) σ H' (.int ((2 * i : Nat) : Int)) := fun h => Val.is (v_mul val_c (val_var h) (.inl ⟨by decide, by decide⟩)) (by rw [Int.natCast_mul]; exact rfl)
    refine call_one (l_disp fun pd2 hpd2 => tp_cons (l_pr fun b1 H9 s9 e9 => (v_ixL (n := 2 * i) (val_var rfl) (iv rfl) (SqL.of (((S8.trans (Same.new' hpd2)).trans s9) _ _ em)) et) _ (tp_cons (l_pr fun b2 H10 s10 e10 =>
      (v_ixL (n := 2 * i + 1) (val_var rfl) (Val.is (v_add (iv rfl) val_c) rfl) (SqL.of ((((S8.trans (Same.new' hpd2)).trans s9).trans s10) _ _ em)) eu) _ (tp_nil ?_)))))
    have S10 := ((S8.trans (Same.new' (o := .dT []) hpd2)).trans s9).trans s10
    refine disp_fin (Q := fun v H1 => spVPlain ([v] ++ []) H1 _ _) [((1, 0), b1, t, (if i = 0 then m.a else m.c)), ((0, 1), b2, u, (if i = 0 then m.b else m.d))] rfl ?_ ((s9.trans s10) _ _ upd_same) (by show 2 ≤ 15; decide) fun H11 tu11 b11 dw11 => ?_
    · intro x hx
      simp only [List.mem_cons, List.not_mem_nil, or_false] at hx
      rcases hx with rfl | rfl
      · exact ⟨s10 _ _ e9, lt.same S10⟩
      · exact ⟨e10, lu.same S10⟩
    have S11 : L2.Same H8 H11 := fun b o e => b11 b o ((s9.trans s10) _ _ (Same.new' hpd2 _ _ e)) (ne_of_none e hpd2)
    have cx : Sm 30 (if i = 0 then m.a else m.c) := by
      split <;> exact sm _ (by simp [Mt.l])
    have cy : Sm 30 (if i = 0 then m.b else m.d) := by
      split <;> exact sm _ (by simp [Mt.l])
    have c11 : ∀ a b, cf (putE (putE [] (1, 0) (if i = 0 then m.a else m.c)) (0, 1) (if i = 0 then m.b else m.d)) a b = if (0, 1) = (a, b) then (if i = 0 then m.b else m.d) else if (1, 0) = (a, b) then (if i = 0 then m.a else m.c) else 0 := fun a b => by
      have n0 : (([] : List En).map (·.1)).Nodup := by simp
      rw [cf_put (nodup_put n0), cf_put n0]
      rfl
    have m11 : ∀ e ∈ putE (putE [] (1, 0) (if i = 0 then m.a else m.c)) (0, 1) (if i = 0 then m.b else m.d), (e.1.1 < 2 ∧ e.1.2 < 2) ∧ Sm 30 e.2 := fun e he => by
      rcases mem_put he with rfl | he
      · exact ⟨⟨by simp, by simp⟩, cy⟩
      · rcases mem_put he with rfl | he
        · exact ⟨⟨by simp, by simp⟩, cx⟩
        · exact nomatch he
    have l11 : (putE (putE [] (1, 0) (if i = 0 then m.a else m.c)) (0, 1) (if i = 0 then m.b else m.d)).length ≤ 2 := Nat.le_trans len_put (Nat.succ_le_succ len_put)
    refine ⟨pd2, _, rfl, dw11.dp, Nat.le_trans l11 (by decide), fun p H12 M s12 n12 d12 cM mM lM => q2 _ H12 (S11.trans s12) ?_⟩
    exact ⟨p, M, rfl, d12, fun a b => (cM a b).trans (c11 a b), fun e he => (m11 e (mM e he).1).1, Nat.le_trans lM l11, SmC.of (by decide) (fun e he => (m11 e (mM e he).1).2) (DE.nodup d12)⟩
  obtain ⟨u, v, rfl, ⟨f0, F0, rfl, dF0, cF0, bF0, lF0, sF0⟩, ⟨f1, F1, rfl, dF1, cF1, bF1, lF1, sF1⟩⟩ := rows_two r8
  have S8 := S7.trans s8
  have d8 := d7.same s8
  have bxP : Bx bxN P1 := fun e he => by
    have := (bP e he).1
    unfold bxN
    omega
  -- whole
  refine q_asg (call_1 (call_1 (c_call (va_cons (val_var rfl) (va_cons val_c va_nil)) ⟨pp, 0, P1, 14, rfl, by decide, d8.dp, bxP, by omega, sP, by decide, fun s0 H9 S0 s9 n9 d9 c9 m9 l9 => va_1 ((v_ixL (n := 0) (val_var rfl) val_c (SqL.of (s9 _ _ e8)) rfl) _ ?_)⟩)))
  have sS0 : SmC 19 S0 := SmC.slope (by decide) bxP sP (DE.nodup d9) c9 m9
  have kS0 : ∀ e ∈ S0, e.1.1 ≤ 2 ∧ e.1.2 ≤ 2 := fun e he => by
    obtain ⟨⟨a, ha, _, ea⟩, _⟩ := m9 e he
    have := (bP a ha).1
    rw [ea]
    unfold dnL
    rw [if_pos rfl]
    exact ⟨by show a.1.1 - 1 ≤ 2; omega, this.2⟩
  have lS0 : S0.length ≤ 3 := by omega
  refine ⟨s0, f0, S0, F0, 19, 30, rfl, d9.dp, (dF0.same s9).dp, Nat.le_trans (Nat.mul_le_mul lS0 lF0) (by decide), sS0, sF0, by decide, Nat.le_trans (Nat.succ_le_succ (Nat.mul_le_mul_left _ (Nat.succ_le_succ lS0))) (by decide), fun t0 H10 T0 s10 n10 d10 c10 m10 l10 => va_1 (call_1 (c_call (va_cons (val_var rfl) (va_cons val_c va_nil)) ⟨pp, 1, P1, 14, rfl, by decide, (d8.same (s9.trans s10)).dp, bxP, by omega, sP, by decide, fun s1 H11 S1 s11 n11 d11 c11 m11 l11 => va_1 ((v_ixL (n := 1) (val_var rfl) val_c (SqL.of (((s9.trans s10).trans s11) _ _ e8)) rfl) _ ?_)⟩))⟩
  have sS1 : SmC 19 S1 := SmC.slope (by decide) bxP sP (DE.nodup d11) c11 m11
  have lS1 : S1.length ≤ 3 := by omega
  have sT0 : SmC ((19 + 30 + 1) * S0.length + 1) T0 := SmC.times (DE.nodup d9) (DE.nodup dF0) (by decide) sS0 sF0 c10
  have up3 : ∀ {n : Nat}, n ≤ 3 → (19 + 30 + 1) * n + 1 ≤ 151 := fun h => by omega
  refine ⟨s1, f1, S1, F1, 19, 30, rfl, d11.dp, (dF1.same ((s9.trans s10).trans s11)).dp, Nat.le_trans (Nat.mul_le_mul lS1 lF1) (by decide), sS1, sF1, by decide, Nat.le_trans (Nat.succ_le_succ (Nat.mul_le_mul_left _ (Nat.succ_le_succ lS1))) (by decide), fun t1 H12 T1 s12 n12 d12 c12 m12 l12 => ?_⟩
  have sT1 : SmC ((19 + 30 + 1) * S1.length + 1) T1 := SmC.times (DE.nodup d11) (DE.nodup dF1) (by decide) sS1 sF1 c12
  have bT0 : Bx bxN T0 := fun e he => by
    obtain ⟨⟨a, ha, b, hb, e1⟩, _⟩ := m10 e he
    have h1 := kS0 a ha
    have h2 := bF0 b hb
    rw [e1]
    unfold bxN
    exact ⟨by show a.1.1 + b.1.1 < 16; omega, by show a.1.2 + b.1.2 < 16; omega⟩
  have lT0 : T0.length ≤ 6 := Nat.le_trans l10 (Nat.mul_le_mul lS0 lF0)
  have lT1 : T1.length ≤ 6 := Nat.le_trans l12 (Nat.mul_le_mul lS1 lF1)
  refine ⟨t0, t1, T0, T1, 151, 151, rfl, (d10.same (s11.trans s12)).dp, d12.dp, bT0, by omega, by omega, fun i j => (sT0 i j).mono (up3 lS0), fun i j => (sT1 i j).mono (up3 lS1), by decide, by decide, fun wh H13 W s13 n13 d13 c13 m13 l13 => ?_⟩
  have S13 := S8.trans ((((s9.trans s10).trans s11).trans s12).trans s13)
  obtain ⟨ma1, ma2, ma3⟩ := slope_math (m := m) (f := f) cP c9 c11 cF0 cF1 c10 c12 c13
  have sW : SmC 303 W := fun i j => by
    rw [c13]
    exact ((sT0 i j).mono (up3 lS0)).add ((sT1 i j).mono (up3 lS1))
  refine q_asg (call_1 (em_get (val_var rfl) d13.dp 1 1 _ fun v H14 s14 ⟨g1, ev, lg1⟩ => ?_))
  subst ev
  refine va_1 (l_pr fun hb H15 s15 e15 => cs_ltimes (lg1.same s15) (half_lo e15) (sW 1 1) half_sm (by decide) (by decide) fun g2 H16 s16 lo16 => ?_)
  have S16 := (s14.trans s15).trans s16
  refine r_ret (te := tTup _) (va_x (em_get (val_var rfl) (d13.same S16).dp 2 0 _ fun v H17 s17 ⟨g3, ev, lg3⟩ => va_s (val_var rfl) (va_1 (em_get (val_var rfl) ((d13.same S16).same s17).dp 0 2 _ fun v2 H18 s18 ⟨g4, ev2, lg4⟩ => ?_))))
  subst ev ev2
  refine ⟨by show 3 ≤ sizeLine; decide, fun p hp => k p _ ((S13.trans S16).trans ((s17.trans s18).trans (Same.new' hp))) ⟨_, upd_same, ?_⟩⟩
  have sn := Same.new' (o := .tup [.ref g3, .ref g2, .ref g4]) hp
  rw [ma1] at lg3
  rw [ma2] at lo16
  rw [ma3] at lg4
  exact .cons ⟨g3, rfl, lg3.same (s18.trans sn)⟩ (.cons ⟨g2, rfl, lo16.same ((s17.trans s18).trans sn)⟩ (.cons ⟨g4, rfl, lg4.same sn⟩ .nil))
end
end LW

/-! xs[a:] = ys -/
namespace L2
open PySem PySem.Spec PyProof.Rows
section
variable {P : Program} {w : World} {A : Around} {E : Value → Shared → Prop} {s : Shared}
theorem boundsTail {a n : Nat} (h : a ≤ n) : sliceBounds (some (a : Int)) none none n = ((a : Int), (n : Int), 1) := by
  have n0 : ¬ ((a : Int) < 0) := by omega
  have m : min (a : Int) (n : Int) = (a : Int) := by omega
  simp [sliceBounds, n0, m]
theorem setTail {l b sl : Addr} {xs ys : Array Value} {n1 n2 : Nat} {vl vu : Value} {a : Nat} {Q : Unit → Shared → Prop}
    (e : s.heap.get? l = some { cls := .type "list", data := .seq xs n1 }) (e2 : s.heap.get? b = some { cls := .type "list", data := .seq ys n2 }) (ne : l ≠ b) (hs : s.heap.IsSliceOf sl vl vu .none) (pl : IsPart vl (some (a : Int))) (pu : IsPart vu none)
    (ha : a ≤ xs.size) (hsz : xs.size + ys.size ≤ sizeLine) (q : Q () { s with heap := s.heap.update l (Obj.mapSeq fun zs => zs.extract 0 a ++ ys ++ zs.extract xs.size zs.size) }) : wpAny (model P w) A (setItem (.ref l) (.ref sl) (.ref b)) Q E s := by
  have L1 : s.heap.IsList l xs := PySem.IsL.isList e; have L2' : s.heap.IsList b ys := PySem.IsL.isList e2
  obtain ⟨oS, gS, cS, dS⟩ := id hs
  have tyS : s.TypeIs (.ref sl) "slice" := ⟨oS, gS, cS⟩
  have other : Builtin.List.listSameRef (.ref l) (.ref b) = false := by unfold Builtin.List.listSameRef; exact beq_eq_false_iff_ne.mpr ne
  have top : (max (a : Int) (xs.size : Int)).toNat = xs.size := by omega
  have room : ((fun zs : Array Value => zs.extract 0 a ++ ys ++ zs.extract xs.size zs.size) xs).size ≤ sizeLine + 1 := by simp only [Array.size_append, Array.size_extract]; omega
  unfold setItem; try with_reducible refine wpAny_holding ?_
  refine wpAny_bind (wpAny_sequenceKey L1.typeIs (by decide) (wpAny_bind (wpAny_callSpecial?_slot (name := Str.ofString "__setitem__") L1.typeIs slot_list_setitem (wpAny_call_entry slot_list_setitem L1.typeIs entry_list_setitem ?_ (args_list_setitem _ _ _)))))
  show wpAny _ _ (Builtin.List.listSubscript? (.ref sl) >>= _) _ _ s; refine wpAny_bind ?_; unfold Builtin.List.listSubscript?
  refine wpAny_bind (wpAny_specialOf tyS slice_no_index ?_); simp only [Option.isNone_none, if_true]; refine wpAny_pure ?_
  show wpAny _ _ (typeOf (.ref sl) >>= _) _ _ s; refine wpAny_bind (wpAny_typeOf tyS ?_); rw [if_neg (by decide), listSliceParts_eq]
  refine wpAny_bind (wpAny_bind (wpAny_field gS dS (x := .none) rfl (wpAny_bind (wpAny_listPart .none ?_)))); rw [if_neg (show ¬ ((rawPart none == rawInt 0) = true) from Bool.false_ne_true)]
  refine wpAny_bind (wpAny_field gS dS (x := vl) rfl (wpAny_bind (wpAny_listPart pl (wpAny_bind (wpAny_field gS dS (x := vu) rfl (wpAny_bind (wpAny_listPart pu (wpAny_pure ?_))))))))
  first | simp only [other, Bool.false_eq_true, if_false] | refine PySem.W.KFB.if_not other ?_
  refine wpAny_bind (m := Builtin.List.listAllItems (.ref b) "must assign iterable to extended slice") ?_; unfold Builtin.List.listAllItems; refine wpAny_bind (wpAny_typeOf L2'.typeIs ?_)
  first | refine PySem.W.KFB.if_so (by decide) ?_ | rw [if_pos (by decide)]
  unfold Builtin.List.listItems; refine wpAny_bind (wpAny_seqItems e2 rfl (wpAny_pure (wpAny_bind (wpAny_bind (wpAny_seqItems e rfl (wpAny_pure ?_))))))
  refine wpAny_bind (wpAny_of_eq ((sliceIndices_raw (some (a : Int)) none none xs.size (by simp)).trans (congrArg (pure : Int × Int × Int → Sem (Int × Int × Int)) (boundsTail ha))) ?_)
  show wpAny _ _ (if ((1 : Int) == 1) = true then _ else _) _ _ s; rw [if_pos (by decide)]; refine wpAny_bind (wpAny_rule ?_)
  first | simp only [notLongL hsz, Bool.false_eq_true, if_false] | refine PySem.W.KFB.if_not (notLongL hsz) ?_
  try refine wpAny_bind (wpAny_pure ?_)
  show wpAny _ _ (updateSeq l (fun zs => zs.extract 0 ((a : Int)).toNat ++ ys ++ zs.extract (max (a : Int) (xs.size : Int)).toNat zs.size) >>= _) _ _ s
  rw [top, Int.toNat_natCast]; refine wpAny_bind (wpAny_updateSeq (hz := Nat.le_trans (Nat.le_add_right _ _) hsz) (_hz' := room) e rfl (wpAny_bind (wpAny_letGo ?_)))
  first | exact wpAny_bind (wpAny_pure (wpAny_pure ⟨.none, rfl, wpAny_pure q⟩)) | exact wpAny_pure ⟨.none, rfl, wpAny_pure q⟩
end
section
variable {X : Cx} {o : Expr} {to : TE} {lo : Option Expr} {tl : TO} {pos p2 : Pos}
theorem spliceTail (its its2 : List Value) (a : Nat) : its.toArray.extract 0 a ++ its2.toArray ++ its.toArray.extract its.toArray.size its.toArray.size = (its.take a ++ its2).toArray := by
  apply Array.toList_inj.mp
  simp
/-- o[a:] = a list's items -/
def gTail (to : TE) (tl : TO) : TG := fun v σ H Q => to σ H fun x H1 => tl σ H1 fun i H2 => ∃ (l b : Addr) (xs ys : List V) (n : Nat), x = .ref l ∧ i = some (n : Int) ∧ v = .ref b ∧ H2 l = some (.lst xs) ∧ H2 b = some (.lst ys) ∧ l ≠ b ∧ n ≤ xs.length ∧ xs.length + ys.length ≤ sizeLine ∧
  Q σ (upd H2 l (.lst (xs.take n ++ ys)))
theorem pg_tail (ho : PE X o to) (hl : PO X lo tl)
    (ha : ∀ v, assign (.Subscript o (.Slice lo none none p2) pos) X.env v = (do
      let a1 ← holding [v] (eval o X.env); let a2 ← holding [v, a1] (eval (.Slice lo none none p2) X.env)
      standAt pos; holding [v, a1, a2] (setItem a1 a2 v); release [a2, v, a1] []) := by intro _; rfl) : PG X (.Subscript o (.Slice lo none none p2) pos) (gTail to tl) := by
  refine ⟨fun pins s σ H v u Q I r h => ?_⟩
  rw [ha]
  refine wpAny_bind (wpAny_holding (thn (ho.run pins s σ H _ I h) fun ov s1 ⟨x, H1, I1, r1, q1⟩ => wpAny_bind (wpAny_holding ?_)))
  refine wpAny_Slice (thn (hl.run pins s1 σ H1 _ I1 q1) fun vl s2 ⟨i, H2, I2, pl, l, b, xs, ys, n, e1, e2, e3, h1, h2, ne, hn, hz, q⟩ => ?_)
  subst e1 e2 e3
  rw [evalPart_none]
  refine wpAny_pure (wpAny_pure ?_)
  obtain rfl : ov = Value.ref l := r1
  obtain rfl : u = Value.ref b := r
  have I4 : Inv X pins σ H2 { s2 with heap := s2.heap.push { cls := .type "slice", data := .fields #[vl, .none, .none] } } := I2.kept (t' := s2.toks) fun b ob q => Heap.get?_push_of_some _ q
  refine wpAny_bind (wpAny_standAt (wpAny_bind (wpAny_holding ?_)))
  obtain ⟨z1, its, k1, v1, _, g1⟩ := I4.lstM h1
  obtain ⟨z2, its2, k2, v2, _, g2⟩ := I4.lstM h2
  have l1 : its.length = xs.length := v1.length.symm
  have l2 : its2.length = ys.length := v2.length.symm
  refine setTail (a := n) g1 g2 ne (Heap.IsSliceOf.new ..) pl .none (by rw [List.size_toArray]; omega) (by rw [List.size_toArray, List.size_toArray]; omega) (wpAny_release ⟨σ, _, I4.lset (its' := its.take n ++ its2) (t' := s2.toks) h1 g1 (spliceTail its its2 n) ((v1.take _).append v2) ?_, q⟩)
  rw [List.length_append, List.length_take]
  omega
end
end L2

/-! the law's drawn matrices, changed -/
namespace LW
open PySem PySem.Spec PyProof.Rows L2 GL
section
variable {P : Program} {w : World} {K : PySem.W.Frag} {mg : Str → Option Value} {base : Heap}

theorem q_stI {t tz : TS} {D : Ends} {σ : L2.St} {H : Hp} (I : L2.St → Hp → Prop) (step : ∀ D' : Ends, (∀ σ H, I σ H → D'.nx σ H) → t D' σ H) (rest : ∀ σ H, I σ H → tz D σ H) : tSeq t tz D σ H := step _ rest
theorem s_un {t : TT} {t1 : TS} {D : Ends} {σ : L2.St} {H : Hp} (h : t σ H fun b H1 => if b = true then t1 D σ H1 else D.nx σ H1) : tIfS t t1 tNext D σ H := h
theorem s_asg {te : TE} {g : TG} {D : Ends} {σ : L2.St} {H : Hp} (h : te σ H fun v H' => g v σ H' D.nx) : tAsg te g D σ H := h
theorem g_sub {to ti : TE} {t : TSet} {v : V} {σ : L2.St} {H : Hp} {Q : L2.St → Hp → Prop} (h : to σ H fun o H1 => ti σ H1 fun i H2 => t o i v H2 fun H3 => Q σ H3) : gSub to ti t v σ H Q := h
theorem g_tail {to : TE} {tl : TO} {v : V} {σ : L2.St} {H : Hp} {Q : L2.St → Hp → Prop} (h : to σ H fun x H1 => tl σ H1 fun i H2 => ∃ (l b : Addr) (xs ys : List V) (n : Nat), x = .ref l ∧ i = some (n : Int) ∧ v = .ref b ∧ H2 l = some (.lst xs) ∧ H2 b = some (.lst ys) ∧ l ≠ b ∧ n ≤ xs.length ∧ xs.length + ys.length ≤ sizeLine ∧
  Q σ (upd H2 l (.lst (xs.take n ++ ys)))) : gTail to tl v σ H Q := h
theorem neg_lo {H : Hp} {t : Addr} {q : Rat} (e : H t = some (.tup [.int (-q.num), .int (q.den : Int)])) : Lo H t (-q) := by
  unfold Lo
  rw [Rat.neg_num, Rat.neg_den]
  exact e
theorem Lst.four {H : Hp} {D w x y z : Addr} {a b c d : Rat} (e : H D = some (.lst [.ref w, .ref x, .ref y, .ref z])) (l1 : Lo H w a) (l2 : Lo H x b) (l3 : Lo H y c) (l4 : Lo H z d) : Lst H D (Mt.l ⟨a, b, c, d⟩) :=
  ⟨_, e, .cons ⟨w, rfl, l1⟩ (.cons ⟨x, rfl, l2⟩ (.cons ⟨y, rfl, l3⟩ (.cons ⟨z, rfl, l4⟩ .nil)))⟩
theorem Sms.four {n : Nat} {a b c d : Rat} (h1 : Sm n a) (h2 : Sm n b) (h3 : Sm n c) (h4 : Sm n d) : Sms n (Mt.l ⟨a, b, c, d⟩) := fun q hq => by
  simp only [Mt.l, List.mem_cons, List.not_mem_nil, or_false] at hq
  rcases hq with rfl | rfl | rfl | rfl <;> assumption
structure SmI (H0 : Hp) (p c tb : Addr) (m : Nat) (r : Int) (by_ : Rat) (k : Int) (σ : L2.St) (H : Hp) (D : Addr) (M : Mt) : Prop where
  es : σ = [some (.ref p), some (.ref D), some (.int r), some (.ref tb)]
  ls : Lst H D M.l
  s30 : Sms 30 M.l
  s12 : k ≤ r → Sms 12 M.l
  nD : H0 D = none
  bu : But p H0 H
  pn : PenAt H p c m
  lo : Lo H tb by_
def spLSome : Sp := fun vs H Q _ => ∃ (p c : Addr) (m : Nat), vs = [.ref p] ∧ PenAt H p c m ∧ m + 40 < most ∧ ∀ (l : Addr) (H' : Hp) (M : Mt), Lst H' l M.l → Sms 30 M.l → H l = none → But p H H' → PenAt H' p c (m + 40) → Q (.ref l) H'
theorem ok_law_some (T : Txt K mg) : FnOk P w K mg base CX0 7 (fA mg "_law_some") (fDat K (fA mg "_law_some")) ["_law_pen_here"] spLSome := by
  have G_law_times := ok_law_times (P := P) (w := w) (base := base) T
  have G_law_plus := ok_law_plus (P := P) (w := w) (base := base) T
  have G_law_ratio := ok_law_ratio (P := P) (w := w) (base := base) T
  have G_law_draw := ok_draw (P := P) (w := w) (base := base) T._law_draw.F T
  have G_law_matrix := ok_law_matrix (P := P) (w := w) (base := base) T
  refine T._law_some.F.ok sc_law_some (fun vs H Q E h => ?_) (fun cdv A outer s H vs Q E hr h => ?_)
  · obtain ⟨p, c, m, rfl, _⟩ := h
    rfl
  obtain ⟨p, c, m, rfl, hP, hm, k⟩ := h
  refine ⟨_, (pss_cons (ps_set (i := 1) sc_law_some.nd rfl (Or.inl rfl) (pe_c T._law_matrix G_law_matrix (hr.mono (by decide)) (pa_cons (pv 0) (pa_cons pe_int pa_nil))))
  (pss_cons (ps_par (i := 2) (j := 3) (by rfl) sc_law_some.nd rfl rfl (by decide) rfl rfl (pa_cons (pe_c T._law_draw G_law_draw (hr.mono (by decide)) (pa_cons (pv 0) (pa_cons pe_int pa_nil))) (pa_cons (pe_c T._law_ratio G_law_ratio (hr.mono (by decide)) (pa_cons (pv 0) (pa_cons pe_int pa_nil))) pa_nil)) (by rfl))
  (pss_cons (ps_if (pt_cmpR op_eq (pv 2) pe_int (nomark _)) (pss_one (ps_asg (pe_tup (pa_cons (pe_un un_neg (pe_ix ix_tup (pe_ix ix_list (pv 1) pe_int (fun _ _ => rfl)) pe_int (fun _ _ => rfl))) (pa_cons (pe_ix ix_tup (pe_ix ix_list (pv 1) pe_int (fun _ _ => rfl)) pe_int (fun _ _ => rfl)) pa_nil))) (pg_sub (pv 1) pe_int set_list))) pss_nil)
  (pss_cons (ps_if (pt_cmpR op_eq (pv 2) pe_int (nomark _)) (pss_one (ps_asg (pe_lst (pa_cons (pe_c T._law_times G_law_times (hr.mono (by decide)) (pa_cons (pv 3) (pa_cons (pe_ix ix_list (pv 1) pe_int (fun _ _ => rfl)) pa_nil))) (pa_cons (pe_c T._law_times G_law_times (hr.mono (by decide)) (pa_cons (pv 3) (pa_cons (pe_ix ix_list (pv 1) pe_int (fun _ _ => rfl)) pa_nil))) pa_nil))) (pg_tail (pv 1) (po_some pe_int)))) pss_nil)
  (pss_cons (ps_if (pt_cmpR op_eq (pv 2) pe_int (nomark _)) (pss_one (ps_set (i := 1) sc_law_some.nd rfl (Or.inl rfl) (pe_lst (pa_cons (pv 3) (pa_cons (pe_ix ix_list (pv 1) pe_int (fun _ _ => rfl)) (pa_cons (pe_tup (pa_cons pe_int (pa_cons pe_int pa_nil))) (pa_cons (pv 3) pa_nil))))))) pss_nil)
  (pss_cons (ps_if (pt_cmpR op_eq (pv 2) pe_int (nomark _)) (pss_one (ps_set (i := 1) sc_law_some.nd rfl (Or.inl rfl) (pe_lst (pa_cons (pe_c T._law_plus G_law_plus (hr.mono (by decide)) (pa_cons (pv 3) (pa_cons (pe_tup (pa_cons pe_int (pa_cons pe_int pa_nil))) pa_nil))) (pa_cons (pe_tup (pa_cons (pe_un un_neg pe_int) (pa_cons pe_int pa_nil))) (pa_cons (pe_tup (pa_cons pe_int (pa_cons pe_int pa_nil))) (pa_cons (pv 3) pa_nil))))))) pss_nil)
  (pss_cons (ps_if (pt_cmpR op_eq (pv 2) pe_int (nomark _)) (pss_cons (ps_set (i := 1) sc_law_some.nd rfl (Or.inl rfl) (pe_lst (pa_cons (pe_c T._law_times G_law_times (hr.mono (by decide)) (pa_cons (pv 3) (pa_cons (pv 3) pa_nil))) (pa_cons (pe_c T._law_times G_law_times (hr.mono (by decide)) (pa_cons (pe_tup (pa_cons (pe_un un_neg pe_int) (pa_cons pe_int pa_nil))) (pa_cons (pv 3) pa_nil))) (pa_cons (pe_c T._law_times G_law_times (hr.mono (by decide)) (pa_cons (pv 3) (pa_cons (pe_c T._law_times G_law_times (hr.mono (by decide)) (pa_cons (pv 3) (pa_cons (pv 3) pa_nil))) pa_nil))) (pa_cons (pe_ix ix_list (pv 1) pe_int (fun _ _ => rfl)) pa_nil))))))
  (pss_one (ps_asg (pe_tup (pa_cons (pe_un un_neg (pe_ix ix_tup (pe_ix ix_list (pv 1) pe_int (fun _ _ => rfl)) pe_int (fun _ _ => rfl))) (pa_cons (pe_ix ix_tup (pe_ix ix_list (pv 1) pe_int (fun _ _ => rfl)) pe_int (fun _ _ => rfl)) pa_nil))) (pg_sub (pv 1) pe_int set_list)))) pss_nil)
  (pss_one (ps_ret (pv 1)))))))))), ?_⟩
  refine q_asg (c_call (va_cons (val_var rfl) (va_cons val_c va_nil)) ⟨p, c, m, rfl, hP, by omega, fun D H1 M L1 sm1 nD1 b1 P1 => ?_⟩)
  refine q_par (ta_two (c_call (va_cons (val_var rfl) (va_cons val_c va_nil)) ⟨p, c, 7, _, rfl, P1, by omega, by decide, by decide, fun r H2 r0 r7 b2 P2 => c_call (va_cons (val_var rfl) (va_cons val_c va_nil)) ⟨p, c, _, 3, rfl, P2, by omega, by decide, by decide, fun tb H3 by_ lo3 sb b3 P3 => ⟨_, _, rfl, ?_⟩⟩⟩))
  have L3 := (L1.but b2 P1).but b3 P2
  have B3 := (b1.trans b2).trans b3
  have P3' : PenAt H3 p c (m + 40) := P3.le (by omega)
  have i0 : SmI H p c tb (m + 40) r by_ 0 _ H3 D M := ⟨rfl, L3, fun q hq => (sm1 q hq).mono (by decide), fun _ => sm1, nD1, B3, P3', lo3⟩
  clear L1 L3 sm1 nD1 b1 P1 b2 P2 b3 B3 P3 P3' lo3 H1 H2
  -- what is common to all branches
  have tst : ∀ {σ : L2.St} {H' : Hp} {D : Addr} {M : Mt} {k k' : Int} {K' : Bool → Hp → Prop}, SmI H p c tb (m + 40) r by_ k σ H' D M → (r = k' → K' true H') → (r ≠ k' → K' false H') → tTest (tOp rEq (tVar 2) (tC (.int k'))) σ H' K' := fun {σ H' D M k k' K'} i h1 h2 => by
    have e := i.es
    subst e
    refine t_op ((val_var rfl) _ (val_c _ ⟨rfl, _, rfl, ?_⟩))
    by_cases z : r = k'
    · rw [decide_eq_true (by rw [z])]
      exact h1 z
    · rw [decide_eq_false (fun w => z (V.int.inj w))]
      exact h2 z
  have setD : ∀ {H' : Hp} {D : Addr} {ys zs : List V} {m' : Nat}, H D = none → But p H H' → PenAt H' p c m' → H' D = some (.lst ys) → But p H (upd H' D (.lst zs)) ∧ PenAt (upd H' D (.lst zs)) p c m' := fun {H' D ys zs m'} nD bu pn e =>
    ⟨fun b o eb nb => by rw [upd_ne (ne_of_none eb nD)]; exact bu b o eb nb, pn.updN hP nD e⟩
  have neg : ∀ {D : Addr} {σ : L2.St} {H' : Hp} {a b cc d : Rat} {w x y z : Addr} {Q' : L2.St → Hp → Prop}, σ[1]? = some (some (V.ref D)) → H' D = some (.lst [.ref w, .ref x, .ref y, .ref z]) → Lo H' w a →
      (∀ t H'', L2.Same H' H'' → Lo H'' t (-a) → Q' σ (upd H'' D (.lst [.ref w, .ref x, .ref y, .ref t]))) →
      tTup (tCons (tUn (rU fun i => .int (-i)) (tOp (rIxT K) (tOp (rIxL K) (tVar 1) (tC (.int 0))) (tC (.int 0)))) (tCons (tOp (rIxT K) (tOp (rIxL K) (tVar 1) (tC (.int 0))) (tC (.int 1))) tNil)) σ H' fun v H2 => gSub (tVar 1) (tC (.int 3)) rSetL v σ H2 Q' := fun {D σ H' a b cc d w x y z Q'} hσ e lo q => by
    have r0 : Val (tOp (rIxL K) (tVar 1) (tC (.int 0))) σ H' (.ref w) := v_ixL (n := 0) (val_var hσ) val_c (SqL.of e) rfl
    refine l_tup (va_cons (v_neg (v_ixT (n := 0) r0 val_c (SqT.of lo) rfl)) (va_cons (v_ixT (n := 1) r0 val_c (SqT.of lo) rfl) va_nil)) (by show 2 ≤ 100000; decide) fun t ht => ?_
    have s1 := Same.new' (o := .tup [.int (-a.num), .int (a.den : Int)]) ht
    exact g_sub ((val_var hσ) _ (val_c _ ⟨D, _, 3, 3, rfl, rfl, s1 _ _ e, rfl, q t _ s1 (neg_lo upd_same)⟩))
  have skip : ∀ {σ : L2.St} {H' : Hp} {D : Addr} {M : Mt} {k k' : Int}, SmI H p c tb (m + 40) r by_ k σ H' D M → r ≠ k → k' = k + 1 → ∃ D M, SmI H p c tb (m + 40) r by_ k' σ H' D M := fun {σ H' D M k k'} i nr e => ⟨D, M, { i with s12 := fun h => i.s12 (by omega) }⟩
  refine q_stI (fun σ H' => ∃ D M, SmI H p c tb (m + 40) r by_ 1 σ H' D M) (fun D' hD' => s_un (tst i0 (fun er => ?_) (fun nr => hD' _ _ (skip i0 nr rfl)))) ?_
  · obtain ⟨w, x, y, z, e, l1, l2, l3, l4⟩ := lst4 (H := _) (t := D) i0.ls
    refine s_asg (neg (cc := M.c) (b := M.b) (d := M.d) rfl e l1 fun t H4 s4 lo4 => hD' _ _ ⟨D, ⟨M.a, M.b, M.c, -M.a⟩, ?_⟩)
    have e4 := s4 _ _ e
    obtain ⟨bu, pn⟩ := setD (zs := [.ref w, .ref x, .ref y, .ref t]) i0.nD (i0.bu.trans (But.of s4)) (i0.pn.same s4) e4
    have sa : ∀ q ∈ M.l, Sm 30 q := i0.s30
    exact ⟨rfl, Lst.four upd_same (lo_upd e4 (l1.same s4)) (lo_upd e4 (l2.same s4)) (lo_upd e4 (l3.same s4)) (lo_upd e4 lo4), Sms.four (sa _ (by simp [Mt.l])) (sa _ (by simp [Mt.l])) (sa _ (by simp [Mt.l])) (sa _ (by simp [Mt.l])).neg, fun h => by omega, i0.nD, bu, pn, lo_upd e4 (i0.lo.same s4)⟩
  clear i0 D M
  rintro σ H3 ⟨D, M, i⟩
  have es := i.es
  subst es
  refine q_stI (fun σ H' => ∃ D M, SmI H p c tb (m + 40) r by_ 2 σ H' D M) (fun D' hD' => s_un (tst i (fun er => ?_) (fun nr => hD' _ _ (skip i nr rfl)))) ?_
  · obtain ⟨w, x, y, z, e, l1, l2, l3, l4⟩ := lst4 (H := _) (t := D) i.ls
    have s12 := i.s12 (by omega)
    have sa : Sm 12 M.a := s12 _ (by simp [Mt.l])
    have sb' : Sm 12 M.b := s12 _ (by simp [Mt.l])
    refine s_asg (l_s (va_x (call_1 ((val_var rfl) _ (va_1 ((v_ixL (K := K) (n := 0) (val_var rfl) val_c (SqL.of e) rfl) _ (cs_ltimes i.lo l1 sb sa (by decide) (by decide) fun t1 H4 s4 lo4 => va_1 (call_1 ((val_var rfl) _ (va_1 ((v_ixL (K := K) (n := 1) (val_var rfl) val_c (SqL.of (s4 _ _ e)) rfl) _ (cs_ltimes (i.lo.same s4) (l2.same s4) sb sb' (by decide) (by decide) fun t2 H5 s5 lo5 => ⟨by show 2 ≤ sizeLine; decide, fun q hq => ?_⟩))))))))))))
    have s6 := Same.new' (o := .lst [.ref t1, .ref t2]) hq
    have S5 := s4.trans s5
    have S6 := S5.trans s6
    have e6 := S6 _ _ e
    have ne : D ≠ q := ne_of_none (S5 _ _ e) hq
    refine g_tail ((val_var rfl) _ (val_c _ ⟨2, rfl, D, q, [.ref w, .ref x, .ref y, .ref z], [.ref t1, .ref t2], 2, rfl, rfl, rfl, e6, upd_same, ne, by show 2 ≤ 4; decide, by show 4 + 2 ≤ sizeLine; decide, hD' _ _ ⟨D, ⟨M.a, M.b, by_ * M.a, by_ * M.b⟩, ?_⟩⟩))
    obtain ⟨bu, pn⟩ := setD (zs := [.ref w, .ref x, .ref t1, .ref t2]) i.nD (i.bu.trans (But.of S6)) (i.pn.same S6) e6
    exact ⟨rfl, Lst.four upd_same (lo_upd e6 (l1.same S6)) (lo_upd e6 (l2.same S6)) (lo_upd e6 (lo4.same (s5.trans s6))) (lo_upd e6 (lo5.same s6)), Sms.four (sa.mono (by decide)) (sb'.mono (by decide)) ((sb.mul sa).mono (by decide)) ((sb.mul sb').mono (by decide)), fun h => by omega, i.nD, bu, pn, lo_upd e6 (i.lo.same S6)⟩
  clear i D M
  rintro σ H3 ⟨D, M, i⟩
  have es := i.es
  subst es
  refine q_stI (fun σ H' => ∃ D M, SmI H p c tb (m + 40) r by_ 3 σ H' D M) (fun D' hD' => s_un (tst i (fun er => ?_) (fun nr => hD' _ _ (skip i nr rfl)))) ?_
  · obtain ⟨w, x, y, z, e, l1, l2, l3, l4⟩ := lst4 (H := _) (t := D) i.ls
    have sb' : Sm 30 M.b := i.s30 _ (by simp [Mt.l])
    refine s_asg (l_s (va_s (val_var rfl) (va_s (v_ixL (K := K) (n := 1) (val_var rfl) val_c (SqL.of e) rfl) (va_x (l_pr fun t1 H4 s4 e4 => va_s (val_var rfl) ⟨by show 4 ≤ sizeLine; decide, fun q hq => hD' _ _ ⟨q, ⟨by_, M.b, 0, by_⟩, ?_⟩⟩)))))
    have s6 := Same.new' (o := .lst [.ref tb, .ref x, .ref t1, .ref tb]) hq
    have S6 := s4.trans s6
    have n4 : H q = none := but_none (i.bu.trans (But.of s4)) (i.pn.same s4) hq
    exact ⟨rfl, Lst.four upd_same (i.lo.same S6) (l2.same S6) ((zero_lo e4).same s6) (i.lo.same S6), Sms.four (sb.mono (by decide)) sb' (Sm.zero (by decide)) (sb.mono (by decide)), fun h => by omega, n4, i.bu.trans (But.of S6), i.pn.same S6, i.lo.same S6⟩
  clear i D M
  rintro σ H3 ⟨D, M, i⟩
  have es := i.es
  subst es
  refine q_stI (fun σ H' => ∃ D M, SmI H p c tb (m + 40) r by_ 4 σ H' D M) (fun D' hD' => s_un (tst i (fun er => ?_) (fun nr => hD' _ _ (skip i nr rfl)))) ?_
  · refine s_asg (l_s (va_x (call_1 ((val_var rfl) _ (va_1 (l_pr fun t0 H4 s4 e4 => cs_lplus (i.lo.same s4) (int_lo e4) sb (int_sm (n := 2) (by decide) (by decide)) (by decide) (by decide) fun t1 H5 s5 lo5 => va_x (l_tup (va_cons (v_neg val_c) (va_cons val_c va_nil)) (by show 2 ≤ 100000; decide) fun t2 h2 => va_x (l_pr fun t3 H7 s7 e7 => va_s (val_var rfl) ⟨by show 4 ≤ sizeLine; decide, fun q hq => hD' _ _ ⟨q, ⟨by_ + ((2 : Int) : Rat), ((-1 : Int) : Rat), ((1 : Int) : Rat), by_⟩, ?_⟩⟩))))))))
    have s6 := Same.new' (o := .tup [.int (-1), .int 1]) h2
    have e6 : Lo (upd H5 t2 (.tup [.int (-1), .int 1])) t2 ((-1 : Int) : Rat) := int_lo upd_same
    have s8 := Same.new' (o := .lst [.ref t1, .ref t2, .ref t3, .ref tb]) hq
    have S7 := ((s4.trans s5).trans s6).trans s7
    have S8 := S7.trans s8
    have n4 : H q = none := but_none (i.bu.trans (But.of S7)) (i.pn.same S7) hq
    exact ⟨rfl, Lst.four upd_same (lo5.same ((s6.trans s7).trans s8)) (e6.same (s7.trans s8)) ((int_lo e7).same s8) (i.lo.same S8), Sms.four ((sb.add (int_sm (n := 2) (by decide) (by decide))).mono (by decide)) (int_sm (by decide) (by decide)) (int_sm (by decide) (by decide)) (sb.mono (by decide)), fun h => by omega, n4, i.bu.trans (But.of S8), i.pn.same S8, i.lo.same S8⟩
  clear i D M
  rintro σ H3 ⟨D, M, i⟩
  have es := i.es
  subst es
  refine q_stI (fun σ H' => ∃ D M, SmI H p c tb (m + 40) r by_ 5 σ H' D M) (fun D' hD' => s_un (tst i (fun er => ?_) (fun nr => hD' _ _ (skip i nr rfl)))) ?_
  · obtain ⟨w, x, y, z, e, l1, l2, l3, l4⟩ := lst4 (H := _) (t := D) i.ls
    refine q_asg (l_s (va_x (call_1 ((val_var rfl) _ (va_1 ((val_var rfl) _ (cs_ltimes i.lo i.lo sb sb (by decide) (by decide) fun t1 H4 s4 lo4 => va_x (call_1 (l_tup (va_cons (v_neg val_c) (va_cons val_c va_nil)) (by show 2 ≤ 100000; decide) fun t0 h0 => va_1 ((val_var rfl) _ ?_))))))))))
    have s5 := Same.new' (o := .tup [.int (-1), .int 1]) h0
    have e5 : Lo (upd H4 t0 (.tup [.int (-1), .int 1])) t0 ((-1 : Int) : Rat) := int_lo upd_same
    generalize upd H4 t0 (.tup [.int (-1), .int 1]) = H5 at s5 e5 ⊢
    have S5 := s4.trans s5
    refine cs_ltimes e5 (i.lo.same S5) (int_sm (n := 1) (by decide) (by decide)) sb (by decide) (by decide) fun t2 H6 s6 lo6 => va_x (call_1 ((val_var rfl) _ (va_1 (call_1 ((val_var rfl) _ (va_1 ((val_var rfl) _ (cs_ltimes (i.lo.same (S5.trans s6)) (i.lo.same (S5.trans s6)) sb sb (by decide) (by decide) fun t3 H7 s7 lo7 => cs_ltimes (i.lo.same ((S5.trans s6).trans s7)) lo7 sb (sb.mul sb) (by decide) (by decide) fun t4 H8 s8 lo8 => va_s (v_ixL (K := K) (n := 0) (val_var rfl) val_c (SqL.of ((((S5.trans s6).trans s7).trans s8) _ _ e)) rfl) ⟨by show 4 ≤ sizeLine; decide, fun q hq => ?_⟩))))))))
    have s9 := Same.new' (o := .lst [.ref t1, .ref t2, .ref t4, .ref w]) hq
    have S8 := ((S5.trans s6).trans s7).trans s8
    have S9 := S8.trans s9
    have n4 : H q = none := but_none (i.bu.trans (But.of S8)) (i.pn.same S8) hq
    have eq : (upd H8 q (.lst [.ref t1, .ref t2, .ref t4, .ref w])) q = some (.lst [.ref t1, .ref t2, .ref t4, .ref w]) := upd_same
    generalize upd H8 q (.lst [.ref t1, .ref t2, .ref t4, .ref w]) = H9 at s9 S9 eq ⊢
    have b1 := lo4.same ((((s5.trans s6).trans s7).trans s8).trans s9)
    refine s_asg (neg (cc := by_) (b := by_) (d := by_) rfl eq b1 fun t H10 s10 lo10 => hD' _ _ ⟨q, ⟨by_ * by_, ((-1 : Int) : Rat) * by_, by_ * (by_ * by_), -(by_ * by_)⟩, ?_⟩)
    have e10 := s10 _ _ eq
    have S10 := S9.trans s10
    obtain ⟨bu, pn⟩ := setD (zs := [.ref t1, .ref t2, .ref t4, .ref t]) n4 (i.bu.trans (But.of S10)) (i.pn.same S10) e10
    exact ⟨rfl, Lst.four upd_same (lo_upd e10 (b1.same s10)) (lo_upd e10 (lo6.same (((s7.trans s8).trans s9).trans s10))) (lo_upd e10 (lo8.same (s9.trans s10))) (lo_upd e10 lo10), Sms.four ((sb.mul sb).mono (by decide)) (((int_sm (n := 1) (by decide) (by decide)).mul sb).mono (by decide)) ((sb.mul (sb.mul sb)).mono (by decide)) ((sb.mul sb).mono (by decide)).neg, fun h => by omega, n4, bu, pn, lo_upd e10 (i.lo.same S10)⟩
  clear i D M
  rintro σ H3 ⟨D, M, i⟩
  have es := i.es
  subst es
  exact r_ret ((val_var rfl) _ (k D H3 M i.ls i.s30 i.nD i.bu i.pn))
end
end LW

namespace LW
open PySem PySem.Spec PyProof.Rows L2 GL
section
variable {P : Program} {w : World} {K : PySem.W.Frag} {mg : Str → Option Value} {base : Heap}
def bareH (H : Hp) : Hp := fun b => match H b with
  | some (.tbl _) => none
  | o => o
def NoTab (S : Hp) : Prop := ∀ b ps, S b ≠ some (.tbl ps)
theorem bare_at {H : Hp} {b : Addr} {o : HO} (h : H b = some o) (n : ∀ ps, o ≠ .tbl ps) : bareH H b = some o := by
  unfold bareH
  rw [h]
  cases o with
  | tbl ps => exact (n ps rfl).elim
  | _ => rfl
theorem bare_of {H : Hp} {b : Addr} {o : HO} (h : bareH H b = some o) : H b = some o ∧ ∀ ps, o ≠ .tbl ps := by
  unfold bareH at h
  split at h
  · cases h
  · rename_i o' e
    exact ⟨h, fun ps z => e ps (by rw [h, z])⟩
theorem bare_no (H : Hp) : NoTab (bareH H) := fun b ps z => (bare_of z).2 ps rfl
theorem bare_in (H : Hp) : L2.Same (bareH H) H := fun b o h => (bare_of h).1
theorem ext_same {S H H1 : Hp} (n : NoTab S) (s : L2.Same S H) (x : LamX.ExtN H H1) : L2.Same S H1 := fun b o h => x b o (s b o h) fun ps z => n b ps (by rw [h, z])
theorem same_bare {S H : Hp} (n : NoTab S) (s : L2.Same S H) : L2.Same S (bareH H) := fun b o h => bare_at (s b o h) fun ps z => n b ps (by rw [h, z])
theorem Tabs.but {T : List (Addr × Str)} {H H' : Hp} {p c : Addr} {m : Nat} (t : LamX.Tabs T H) (P : PenAt H p c m) (b : But p H H') : LamX.Tabs T H' := by
  obtain ⟨kvs, hd⟩ := P.dk
  intro q hq
  obtain ⟨ps, h1, h2, h3⟩ := t q hq
  refine ⟨ps, b _ _ h1 (fun z => by rw [z, hd] at h1; cases h1), h2, fun pos cv e => ?_⟩
  obtain ⟨c', e1, e2⟩ := h3 pos cv e
  exact ⟨c', e1, b _ _ e2 (fun z => by rw [z, hd] at e2; unfold LamX.CodeO at e2; cases e2)⟩
theorem Tabs.same {T : List (Addr × Str)} {H H' : Hp} (t : LamX.Tabs T H) (s : L2.Same H H') : LamX.Tabs T H' := t.ext s
theorem PenAt.bare {H : Hp} {p c : Addr} {m : Nat} (h : PenAt H p c m) : PenAt (bareH H) p c m := h.off (fun o e => by
  obtain ⟨kvs, hd⟩ := h.dk
  rw [hd] at e
  cases e
  exact bare_at hd (fun ps z => by cases z)) (fun o e => by
  obtain ⟨a, d, n, f, ns, _, hc, _⟩ := h
  rw [hc] at e
  cases e
  exact bare_at hc (fun ps z => by cases z))
theorem lam_mem {P : Addr} {q r l : Str} (h : q = r) : (P, q ++ l) ∈ [(P, r ++ l)] := by rw [h]; exact List.mem_singleton.mpr rfl
theorem lam_only {P : Addr} {q r l : Str} (h : q = r) : ∀ p ∈ [(P, r ++ l)], p.1 = P → p.2 = q ++ l := fun p hp _ => by rw [List.mem_singleton.mp hp, h]
theorem okGc {k : Nat} {f c : Addr} {fd : FuncData} {ps : List Str} {sp : Sp} {x qual : Str} {st : Stmt} {N : List Str} (F : Fun K x qual st f fd) (hc : fd.code = .ref c) (S : FnScope N ps (defScope st)) (len : ∀ vs H Q E, sp vs H Q E → vs.length = ps.length)
    (body : ∀ (A : Around) (outer : List Env) (s : Shared) (H : Hp) (vs : List V) (Q : VK) (E : XK), Room k (A.deeper (envOfC qual (defScope st) s.heap.objs.size f (.ref c))) → Quiet A → sp vs H Q E →
      ∃ t, PSs (cxOf CX0 P w K mg base N qual (defScope st) f (.ref c) A outer s H E).nox (defBody st) t ∧ t { nx := fun _ H' => Q .non H', rt := Q } (start N vs) H) : OkG P w K mg base CX0 (k + 1) f fd ps sp := by
  obtain ⟨oc, od, kV, doc, pm, an, cdv, ct, osl, rfl, lk, hcd⟩ := F.ex
  have ec : cdv = .ref c := hc
  subst ec
  refine ⟨len, fun A outer s H args us vs Q E hr hq e0 hb r hsp => ?_⟩
  have KS : K.In s.heap := e0.mod.kin.keeps (fun b o e => (e0.bs b o e).1)
  have NL : s.heap.NoLimit := e0.mod.nolimit.keeps (fun b o e => (e0.bs b o e).1)
  have hl := len _ _ _ _ hsp
  refine codeAny_call_function hr.depth (KS _ _ lk) rfl S.co S.gen rfl (PySem.W.codeRec_of KS hcd) (hb _ _ _ _ ?_)
  refine wpAny_newFunctionEnv_cells S.kind ?_ (fun env he s1 x => ?_)
  · rintro ⟨n, v⟩ hy
    rcases S.par n (List.of_mem_zip hy).1 with q | q
    · exact .inl q
    · exact .inr ⟨q, PySem.W.cellsFrom_some _ _ _ (.inl q)⟩
  subst he
  refine ⟨NL.keeps x.toInCall.keep, codeAny_func ?_⟩
  obtain ⟨t, ht, hT⟩ := body A outer s H vs Q E (hr.deeper _) hq hsp
  have I0 := inv_start (CX := CX0) (E := E) S hr.hd e0 hl r x
  refine wpAny_mono (ht.nox.run [] s1 (start N vs) H _ I0 hT) (fun fl s' hs => ?_) (fun e s' hs => hs)
  cases fl with
  | ret u =>
    obtain ⟨v, _, H', J, rv, q⟩ := hs
    exact ⟨v, H', J.os, J.bare, J.base, J.hok, rv, q⟩
  | next =>
    obtain ⟨_, H', J, q⟩ := hs
    exact ⟨V.non, H', J.os, J.bare, J.base, J.hok, rfl, q⟩
  | brk => obtain ⟨_, _, _, q⟩ := hs; exact q.elim
  | cont => obtain ⟨_, _, _, q⟩ := hs; exact q.elim
theorem tb_in {te : TE} {σ : L2.St} {H : Hp} {Q : Bool → Hp → Prop} (h : te σ H fun v H1 => ∃ b, v = .bl b ∧ Q b H1) : tB te σ H Q := h
theorem t_unless {te : TE} {t1 tz : TS} {D : Ends} {σ : L2.St} {H : Hp} (h : te σ H fun v H1 => ∃ b, v = .bl b ∧ if b = true then t1 { D with nx := tz D } σ H1 else tz D σ H1) : tSeq (tIfS (tTest te) t1 tNext) tz D σ H := h
theorem t_unless1 {te : TE} {t1 : TS} {D : Ends} {σ : L2.St} {H : Hp} (h : te σ H fun v H1 => ∃ b, v = .bl b ∧ if b = true then t1 D σ H1 else D.nx σ H1) : tIfS (tTest te) t1 tNext D σ H := h
theorem tt_in {te : TE} {σ : L2.St} {H : Hp} {Q : Bool → Hp → Prop} (h : te σ H fun v H1 => ∃ b, v = .bl b ∧ Q b H1) : tTest te σ H Q := h

theorem strOk_app {a b : Str} (ha : PyData.strOk a = true) (hb : PyData.strOk b = true) : PyData.strOk (a ++ b) = true := by
  unfold PyData.strOk at *
  rw [PySem.Str.cps_append, Array.all_append, ha, hb]
  rfl
theorem strOk_of (s : String) : PyData.strOk (Str.ofString s) = true := by
  rw [PySem.Str.ofString_eq_toList]
  unfold PyData.strOk
  rw [List.all_toArray, List.all_eq_true]
  intro x hx
  obtain ⟨c, _, rfl⟩ := List.mem_map.mp hx
  have := c.valid
  refine decide_eq_true ?_
  unfold UInt32.isValidChar Nat.isValidChar at this
  show c.val.toNat < 1114112
  omega
theorem strOk_join {sep : Str} (hs : PyData.strOk sep = true) : ∀ ts : List Str, (∀ t ∈ ts, PyData.strOk t = true) → PyData.strOk (Str.join sep ts) = true
  | [], _ => by show PyData.strOk Str.empty = true; decide +kernel
  | [x], h => h x (by simp)
  | x :: y :: r, h => strOk_app (strOk_app (h x (by simp)) hs) (strOk_join hs (y :: r) fun t ht => h t (by simp [ht]))
theorem strOk_from : ∀ (ts : List Str) (k : Nat) (acc : Str), PyData.strOk acc = true → (∀ t ∈ ts, PyData.strOk t = true) → PyData.strOk (textFrom k acc ts) = true
  | [], _, _, h, _ => h
  | t :: ts, k, acc, h, g => strOk_from ts (k + 1) _ (strOk_app (strOk_app h (strOk_of _)) (g t (by simp))) fun x hx => g x (by simp [hx])
theorem strOk_list {ts : List Str} (g : ∀ t ∈ ts, PyData.strOk t = true) : PyData.strOk (listText ts) = true := strOk_app (strOk_from ts 0 _ (strOk_of _) g) (strOk_of _)
theorem strOk_tuple {ts : List Str} (g : ∀ t ∈ ts, PyData.strOk t = true) : PyData.strOk (tupleText ts) = true := strOk_app (strOk_app (strOk_of _) (strOk_join (strOk_of _) ts g)) (strOk_of _)

def Nc (B k : Nat) (d : PyData) : Prop := d.showable = true ∧ d.shown.length ≤ B ∧ PyData.strOk d.shown = true ∧ d.depth ≤ k
theorem Nc.mono {B C k l : Nat} {d : PyData} (h : Nc B k d) (b : B ≤ C) (c : k ≤ l) : Nc C l d := ⟨h.1, Nat.le_trans h.2.1 b, h.2.2.1, Nat.le_trans h.2.2.2 c⟩
theorem nc_int {n : Int} (h : n.natAbs < 2 ^ 1000) : Nc 310 1 (.int n) := by
  have h10 : n.natAbs < 10 ^ 302 := Nat.lt_trans h (by decide +kernel)
  have e := int_text_length_le10 (a := n) (k := 302) (by decide) h10
  refine ⟨decide_eq_true ?_, ?_, strOk_of _, by simp [PyData.depth]⟩
  · rcases Nat.eq_zero_or_pos n.natAbs with z | z
    · rw [z]; decide
    · have := (Nat.log2_lt (by omega)).mpr h
      omega
  · show (Str.ofString (toString n)).length ≤ 310
    rw [PySem.ofString_length]
    omega
def NcAll (B k : Nat) (ds : List PyData) : Prop := ∀ d ∈ ds, Nc B k d
theorem nc_sum {B k : Nat} : ∀ {ds : List PyData}, NcAll B k ds → ((PyData.shownAll ds).map (·.length)).sum ≤ ds.length * B ∧ (PyData.shownAll ds).length = ds.length ∧ PyData.showableAll ds = true ∧ PyData.depthAll ds ≤ k ∧ ∀ t ∈ PyData.shownAll ds, PyData.strOk t = true
  | [], _ => by simp [PyData.shownAll, PyData.showableAll, PyData.depthAll]
  | d :: ds, h => by
    obtain ⟨h1, h2, h3, h4, h5⟩ := nc_sum (ds := ds) (fun x hx => h x (by simp [hx]))
    obtain ⟨a, b, c, e⟩ := h d (by simp)
    refine ⟨?_, ?_, ?_, ?_, ?_⟩
    · simp only [PyData.shownAll, List.map_cons, List.sum_cons, List.length_cons]
      rw [Nat.succ_mul]
      omega
    · simp only [PyData.shownAll, List.length_cons, h2]
    · simp only [PyData.showableAll, a, h3, Bool.and_self]
    · simp only [PyData.depthAll]
      omega
    · intro t ht
      simp only [PyData.shownAll, List.mem_cons] at ht
      rcases ht with rfl | ht
      · exact c
      · exact h5 t ht
theorem nc_tuple {B k : Nat} {ds : List PyData} (h : NcAll B k ds) : Nc (ds.length * (B + 2) + 3) (k + 1) (.tuple ds) := by
  obtain ⟨h1, h2, h3, h4, h5⟩ := nc_sum h
  refine ⟨by simp only [PyData.showable, h3], ?_, ?_, by simp only [PyData.depth]; omega⟩
  · have := tupleText_len_le (PyData.shownAll ds)
    simp only [PyData.shown]
    rw [h2] at this
    rw [Nat.mul_add]
    omega
  · simp only [PyData.shown]
    exact strOk_tuple h5
theorem nc_list {B k : Nat} {ds : List PyData} (h : NcAll B k ds) : Nc (ds.length * (B + 2) + 3) (k + 1) (.list ds) := by
  obtain ⟨h1, h2, h3, h4, h5⟩ := nc_sum h
  refine ⟨by simp only [PyData.showable, h3], ?_, ?_, by simp only [PyData.depth]; omega⟩
  · have := listText_len_le (PyData.shownAll ds)
    simp only [PyData.shown]
    rw [h2] at this
    rw [Nat.mul_add]
    omega
  · simp only [PyData.shown]
    exact strOk_list h5
theorem nc_two {x y : Int} (hx : x.natAbs < 2 ^ 1000) (hy : y.natAbs < 2 ^ 1000) : NcAll 310 1 [.int x, .int y] := fun d hd => by
  simp only [List.mem_cons, List.not_mem_nil, or_false] at hd
  rcases hd with rfl | rfl
  · exact nc_int hx
  · exact nc_int hy
theorem Rt.nc {H : Hp} {v : V} {i j : Int} (h : Rt H v i j) (f : Fit i j) : ∃ d, Dd K H v d ∧ Nc 630 2 d := by
  cases h with
  | int i => exact ⟨_, .int _, (nc_int f.1).mono (by decide) (by decide)⟩
  | pair h p =>
    rcases h with e | e
    · exact ⟨_, .lst (SqL.of e) (.cons (.int _) (.cons (.int _) .nil)), (nc_list (nc_two f.1 f.2)).mono (by show 2 * (310 + 2) + 3 ≤ 630; decide) (by decide)⟩
    · exact ⟨_, .tup (SqT.of e) (.cons (.int _) (.cons (.int _) .nil)), (nc_tuple (nc_two f.1 f.2)).mono (by show 2 * (310 + 2) + 3 ≤ 630; decide) (by decide)⟩
theorem Rq.nc {H : Hp} {v : V} {q : Rat} (h : Rq H v q) : ∃ d, Dd K H v d ∧ Nc 630 2 d := by
  obtain ⟨i, j, r, f, _⟩ := h
  exact Rt.nc r f
theorem all_nc {B k : Nat} {H : Hp} : ∀ {vs : List V}, (∀ v ∈ vs, ∃ d, Dd K H v d ∧ Nc B k d) → ∃ ds, DdAll K H vs ds ∧ NcAll B k ds ∧ ds.length = vs.length
  | [], _ => ⟨[], .nil, (fun _ h => nomatch h), rfl⟩
  | v :: vs, h => by
    obtain ⟨d, hd, n⟩ := h v (by simp)
    obtain ⟨ds, hds, ns, l⟩ := all_nc (vs := vs) fun x hx => h x (by simp [hx])
    refine ⟨d :: ds, .cons hd hds, fun x hx => ?_, by rw [List.length_cons, l, List.length_cons]⟩
    rcases List.mem_cons.mp hx with rfl | hx
    · exact n
    · exact ns x hx
theorem lam_memT {P : Addr} {q r l : Str} {T : List (Addr × Str)} (hm : (P, r ++ l) ∈ T) (h : q = r) : (P, q ++ l) ∈ T := by rw [h]; exact hm
theorem lam_onlyT {P : Addr} {q r l : Str} {T : List (Addr × Str)} (ho : ∀ p ∈ T, p.1 = P → p.2 = r ++ l) (h : q = r) : ∀ p ∈ T, p.1 = P → p.2 = q ++ l := by rw [h]; exact ho

def hole (p : Addr) (H : Hp) : Hp := fun b => if b = p then none else bareH H b
theorem hole_no (p : Addr) (H : Hp) : NoTab (hole p H) := fun b ps z => by
  unfold hole at z
  by_cases h : b = p
  · rw [if_pos h] at z; cases z
  · rw [if_neg h] at z; exact bare_no H b ps z
theorem hole_in (p : Addr) (H : Hp) : L2.Same (hole p H) H := fun b o z => by
  unfold hole at z
  by_cases h : b = p
  · rw [if_pos h] at z; cases z
  · rw [if_neg h] at z; exact bare_in H b o z
theorem hole_at (p : Addr) (H : Hp) : hole p H p = none := if_pos rfl
theorem fr_but {F H H' : Hp} {p : Addr} (i : L2.Same F H) (n : F p = none) (b : But p H H') : L2.Same F H' := fun x o z => b _ _ (i _ _ z) fun e => by rw [e, n] at z; cases z
theorem Sq.bare {H : Hp} {a : Addr} {xs : List V} (h : Sq H a xs) : Sq (bareH H) a xs := h.elim (fun z => .inl (bare_at z fun _ e => by cases e)) fun z => .inr (bare_at z fun _ e => by cases e)
theorem Rt.bare {H : Hp} {v : V} {i j : Int} (h : Rt H v i j) : Rt (bareH H) v i j := by
  cases h with
  | int i => exact .int i
  | pair h p => exact .pair h.bare p
theorem Rq.bare {H : Hp} {v : V} {q : Rat} (h : Rq H v q) : Rq (bareH H) v q := by
  obtain ⟨i, j, r, f, e⟩ := h
  exact ⟨i, j, r.bare, f, e⟩
theorem Odd.bare {H : Hp} {v : V} (g : Odd H v) : Odd (bareH H) v := by
  cases g with
  | non => exact .non
  | bl => exact .bl
  | str => exact .str
  | tup e h => exact .tup (bare_at e fun _ z => by cases z) h
  | lst e h => exact .lst (bare_at e fun _ z => by cases z) h
  | dic e => exact .dic (bare_at e fun _ z => by cases z)
  | nest e e2 => exact .nest (bare_at e fun _ z => by cases z) (bare_at e2 fun _ z => by cases z)
theorem Fine.same {H H' : Hp} {v : V} {d : PyData} (f : Fine K H v d) (s : L2.Same H H') : Fine K H' v d := ⟨Dd.same s _ _ f.1, f.2⟩
theorem FineL.same {H H' : Hp} {v : V} {d : PyData} (f : FineL K H v d) (s : L2.Same H H') : FineL K H' v d := ⟨Dd.same s _ _ f.1, f.2⟩
theorem Fine.long {H : Hp} {v : V} {d : PyData} (f : Fine K H v d) : FineL K H v d := ⟨f.1, f.2.1, Nat.le_trans f.2.2.1 (by decide), Nat.le_trans f.2.2.2.1 (by decide), f.2.2.2.2⟩
theorem shaped2 {a b : Str} (ha : PyData.strOk a = true) (hb : PyData.strOk b = true) : SeqAt.shaped (.tuple [.str a, .str b]) = true := by
  simp [SeqAt.shaped, PyData.canLay0, PyData.canLayAll0, PyData.depth, PyData.depthAll, ha, hb]
theorem eqv2 (a b : Str) : PyData.eqv (.tuple [.str a, .str b]) (.tuple [.str a, .str b]) = true := by
  simp [PyData.eqv, PyData.eqvAll]
theorem dp2 {H : Hp} {p : Addr} {a b : Str} (h : H p = some (.tup [.str a, .str b])) : Dp K H (.ref p) (.tuple [.str a, .str b]) := .tup (SqT.of h) (.cons (.str _) (.cons (.str _) .nil))
theorem Nc.line {H : Hp} {v : V} {d : PyData} {B k : Nat} (h : Dd K H v d) (n : Nc B k d) (b : B ≤ 100000) (c : k ≤ 40) : FineL K H v d := ⟨h, n.1, Nat.le_trans n.2.2.2 c, Nat.le_trans n.2.1 b, n.2.2.1⟩
theorem Fine.nc {H : Hp} {v : V} {d : PyData} (f : Fine K H v d) : Nc 1000 3 d := ⟨f.2.1, f.2.2.2.1, f.2.2.2.2, f.2.2.1⟩
/-! ### values drawn for a list, each with what holds of it -/
def Stab (S : Hp → V → Prop) : Prop := ∀ H H' v, S H v → L2.Same H H' → S H' v
theorem hole_of {p : Addr} {H : Hp} {b : Addr} {o : HO} (e : H b = some o) (nb : b ≠ p) (nt : ∀ ps, o ≠ .tbl ps) : hole p H b = some o := by
  unfold hole
  rw [if_neg nb]
  exact bare_at e nt
theorem hole_but {p : Addr} {H H' : Hp} (b : But p H H') : L2.Same (hole p H) (hole p H') := fun x o e => by
  unfold hole at e ⊢
  by_cases h : x = p
  · rw [if_pos h] at e; cases e
  · rw [if_neg h] at e ⊢
    obtain ⟨e1, nt⟩ := bare_of e
    exact bare_at (b _ _ e1 h) nt
def EP (S : Hp → V → Prop) (p c : Addr) (σ : L2.St) (te : TE) : Prop := ∀ (H : Hp) (m : Nat) (Q : VK), PenAt H p c m → m + 10 < most → (∀ v H', But p H H' → PenAt H' p c (m + 1) → S (hole p H') v → Q v H') → te σ H Q
def VP (S : Hp → V → Prop) (p c : Addr) (σ : L2.St) (n : Nat) (ta : TA) : Prop := ∀ (H : Hp) (m : Nat) (Q : List V → Hp → Prop), PenAt H p c m → m + 10 + n < most → (∀ vs H', But p H H' → PenAt H' p c (m + n) → (∀ v ∈ vs, S (hole p H') v) → vs.length = n → Q vs H') → ta σ H Q
section
variable {S : Hp → V → Prop} {p c : Addr} {σ : L2.St} {te : TE} {ta : TA} {n : Nat}
theorem vp_nil : VP S p c σ 0 tNil := fun H m Q P _ k => k [] H But.refl P (fun _ h => nomatch h) rfl
theorem vp_cons (st : Stab S) (h : EP S p c σ te) (g : VP S p c σ n ta) : VP S p c σ (n + 1) (tCons te ta) := fun H m Q P hm k => va_x (h H m _ P (by omega) fun v H1 b1 P1 o => g H1 _ _ P1 (by omega) fun vs H2 b2 P2 os l => k (v :: vs) H2 (b1.trans b2) (by rw [show m + (n + 1) = m + 1 + n by omega]; exact P2) (fun x hx => by
  rcases List.mem_cons.mp hx with rfl | hx
  · exact st _ _ _ o (hole_but b2)
  · exact os x hx) (by rw [List.length_cons, l]))
theorem ep_c {v : V} (h : ∀ H, S H v) : EP S p c σ (tC v) := fun H m Q P _ k => k v H But.refl (P.le (by omega)) (h _)
theorem ep_tup {ws : List V} (h : ∀ H, VA ta σ H ws) (hl : ws.length ≤ 100000) (s : ∀ H q, H q = some (.tup ws) → S H (.ref q)) : EP S p c σ (tTup ta) := fun H m Q P _ k => l_tup (h H) hl fun q hq => by
  have b := But.of (p := p) (Same.new' (o := .tup ws) hq)
  obtain ⟨kvs, hd⟩ := P.dk
  exact k _ _ b ((P.same (Same.new' hq)).le (by omega)) (s _ q (hole_of upd_same (fun z => by rw [z, hd] at hq; cases hq) (fun _ z => by cases z)))
theorem ep_lst {ws : List V} (h : ∀ H, VA ta σ H ws) (hl : ws.length ≤ 100000) (s : ∀ H q, H q = some (.lst ws) → S H (.ref q)) : EP S p c σ (tLst ta) := fun H m Q P _ k => l_lst (h H) hl fun q hq => by
  have b := But.of (p := p) (Same.new' (o := .lst ws) hq)
  obtain ⟨kvs, hd⟩ := P.dk
  exact k _ _ b ((P.same (Same.new' hq)).le (by omega)) (s _ q (hole_of upd_same (fun z => by rw [z, hd] at hq; cases hq) (fun _ z => by cases z)))
end
theorem Odd.hole {H : Hp} {v : V} {p c : Addr} {m : Nat} (g : Odd H v) (P : PenAt H p c m) : Odd (hole p H) v := by
  obtain ⟨a, d, n, f, ns, hp, _⟩ := P
  have k : ∀ {q : Addr} {o : HO}, H q = some o → (∀ kvs, o = .dK kvs → kvs.length < 5) → (∀ ps, o ≠ .tbl ps) → LW.hole p H q = some o := fun {q o} e h nt => hole_of e (fun z => by
    rw [z, hp] at e
    have := h _ (Option.some.inj e).symm
    exact absurd this (by show ¬ 5 < 5; decide)) nt
  cases g with
  | non => exact .non
  | bl => exact .bl
  | str => exact .str
  | tup e h => exact .tup (k e (fun _ z => by cases z) (fun _ z => by cases z)) h
  | lst e h => exact .lst (k e (fun _ z => by cases z) (fun _ z => by cases z)) h
  | dic e => exact .dic (k e (fun _ z => by cases z; show 1 < 5; decide) (fun _ z => by cases z))
  | nest e e2 => exact .nest (k e (fun _ z => by cases z) (fun _ z => by cases z)) (k e2 (fun _ z => by cases z) (fun _ z => by cases z))
/-- no row of n ratios, and repr shows it -/
def NoR (K : PySem.W.Frag) (n : Nat) (H : Hp) (v : V) : Prop := RwQ H n v false ∧ ∃ d, FineL K H v d
theorem NoR.stab {n : Nat} : Stab (NoR K n) := fun _ _ _ h s => ⟨h.1.same s, h.2.imp fun _ f => f.same s⟩
theorem ints_dd {H : Hp} : ∀ {is : List Int}, (∀ i ∈ is, i.natAbs < 2 ^ 1000) → ∃ ds, DdAll K H (is.map V.int) ds ∧ NcAll 310 1 ds ∧ ds.length = is.length
  | [], _ => ⟨[], .nil, (fun _ h => nomatch h), rfl⟩
  | i :: is, h => by
    obtain ⟨ds, a, b, l⟩ := ints_dd (H := H) (is := is) fun x hx => h x (List.mem_cons_of_mem _ hx)
    refine ⟨.int i :: ds, .cons (.int i) a, fun d hd => ?_, by rw [List.length_cons, l, List.length_cons]⟩
    rcases List.mem_cons.mp hd with rfl | hd
    · exact nc_int (h i (List.mem_cons_self ..))
    · exact b d hd
theorem ints_rat {H : Hp} : ∀ (is : List Int), All2 (RatQ H) (is.map V.int) (is.map fun _ => true)
  | [] => .nil
  | i :: is => .cons (.int i) (ints_rat is)
theorem small_int {i : Int} (h : i.natAbs < 8) : i.natAbs < 2 ^ 1000 := Nat.lt_of_lt_of_le (show i.natAbs < 2 ^ 3 from h) (Nat.pow_le_pow_right (by decide) (by decide))
theorem nor_tup {n : Nat} {H : Hp} {q : Addr} {is : List Int} (e : H q = some (.tup (is.map V.int))) (h : ∀ i ∈ is, i.natAbs < 8) (l : is.length ≤ 20) (ne : is.length ≠ n) : NoR K n H (.ref q) := by
  have r : RwQ H n (.ref q) ((is.map fun _ => true).all id && decide ((is.map V.int).length = n)) := .seq (.inr e) (by rw [List.length_map]; omega) (ints_rat is)
  rw [List.length_map, decide_eq_false ne, Bool.and_false] at r
  obtain ⟨ds, a, b, ll⟩ := ints_dd (K := K) (H := H) (is := is) fun i hi => small_int (h i hi)
  exact ⟨r, _, Nc.line (.tup (SqT.of e) a) (nc_tuple b) (by rw [ll]; omega) (by decide)⟩
theorem nor_lst {n : Nat} {H : Hp} {q : Addr} {is : List Int} (e : H q = some (.lst (is.map V.int))) (h : ∀ i ∈ is, i.natAbs < 8) (l : is.length ≤ 20) (ne : is.length ≠ n) : NoR K n H (.ref q) := by
  have r : RwQ H n (.ref q) ((is.map fun _ => true).all id && decide ((is.map V.int).length = n)) := .seq (.inl e) (by rw [List.length_map]; omega) (ints_rat is)
  rw [List.length_map, decide_eq_false ne, Bool.and_false] at r
  obtain ⟨ds, a, b, ll⟩ := ints_dd (K := K) (H := H) (is := is) fun i hi => small_int (h i hi)
  exact ⟨r, _, Nc.line (.lst (SqL.of e) a) (nc_list b) (by rw [ll]; omega) (by decide)⟩
/-- ints with odd values among them -/
theorem nor_mix {n : Nat} {H : Hp} {q : Addr} {xs : List V} (e : Sq H q xs) (h : ∀ x ∈ xs, (∃ i : Int, x = .int i ∧ i.natAbs < 8) ∨ Odd H x) (ho : ∃ x ∈ xs, Odd H x) (l : xs.length ≤ 20) : NoR K n H (.ref q) := by
  obtain ⟨bs, al, hb⟩ : ∃ bs, All2 (RatQ H) xs bs ∧ ((∃ x ∈ xs, Odd H x) → bs.all id = false) := by
    clear e ho l
    induction xs with
    | nil => exact ⟨[], .nil, fun ⟨_, h, _⟩ => nomatch h⟩
    | cons x xs ih =>
      obtain ⟨bs, a, b⟩ := ih fun y hy => h y (List.mem_cons_of_mem _ hy)
      rcases h x (List.mem_cons_self ..) with ⟨i, rfl, _⟩ | o
      · refine ⟨true :: bs, .cons (.int i) a, fun ⟨y, hy, oy⟩ => ?_⟩
        rcases List.mem_cons.mp hy with rfl | hy
        · cases oy
        · rw [List.all_cons, b ⟨y, hy, oy⟩, Bool.and_false]
      · exact ⟨false :: bs, .cons o.rat a, fun _ => by rw [List.all_cons]; rfl⟩
  have r : RwQ H n (.ref q) (bs.all id && decide (xs.length = n)) := .seq e (by omega) al
  rw [hb ho, Bool.false_and] at r
  obtain ⟨ds, a, b, ll⟩ := all_nc (K := K) (H := H) (B := 1000) (k := 3) (vs := xs) fun v hv => by
    rcases h v hv with ⟨i, rfl, hi⟩ | o
    · exact ⟨_, .int i, (nc_int (small_int hi)).mono (by decide) (by decide)⟩
    · obtain ⟨d, f⟩ := o.fine (K := K)
      exact ⟨d, f.1, f.nc⟩
  have sz : xs.length * 1002 + 3 ≤ 100000 := by omega
  rcases e with e | e
  · exact ⟨r, _, Nc.line (.lst (SqL.of e) a) (nc_list b) (by rw [ll]; exact sz) (by decide)⟩
  · exact ⟨r, _, Nc.line (.tup (SqT.of e) a) (nc_tuple b) (by rw [ll]; exact sz) (by decide)⟩
theorem nor_non {n : Nat} {H : Hp} : NoR K n H .non := ⟨.odd .non (by decide) (by decide), _, .non, by decide +kernel⟩
theorem nor_int {n : Nat} {H : Hp} {i : Int} (h : i.natAbs < 8) : NoR K n H (.int i) := ⟨.odd (.int i) (by decide) (by decide), _, Nc.line (.int i) (nc_int (small_int h)) (by decide) (by decide)⟩
theorem nor_abcd {n : Nat} {H : Hp} : NoR K n H (.str "abcd") := ⟨.odd (.str _) (by decide) (by decide), _, .str _, by decide +kernel⟩
theorem nor_abc {n : Nat} {H : Hp} : NoR K n H (.str "abc") := ⟨.odd (.str _) (by decide) (by decide), _, .str _, by decide +kernel⟩
/-- (.., _law_any(pen), ..) among ints -/
theorem c_any {σ : L2.St} {H : Hp} {p c : Addr} {m : Nat} {i : Nat} {Q : VK} {E : XK} (hσ : σ[i]? = some (some (.ref p))) (P : PenAt H p c m) (hm : m + 1 < most) (k : ∀ v H', But p H H' → PenAt H' p c (m + 1) → Odd (hole p H') v → Q v H') : tCall spAny [] E (tCons (tVar i) tNil) σ H Q :=
  c_call (va_cons (val_var hσ) va_nil) ⟨p, c, m, rfl, P, hm, fun v H' o _ b P' => k v H' b P' (o.hole P')⟩
/-- _law_why(lambda: ..) != ("row", repr(v)), where the call ends by BadRow(v) -/
theorem why_rowne {S H : Hp} {σ : L2.St} {v : V} {d : PyData} {T : List (Addr × Str)} {te : XK → TE} {Q : VK} {i : Nat} (hi : σ[i]? = some (some v)) (nt : NoTab S) (s : L2.Same S H) (hT : LamX.Tabs T H) (f : FineL K S v d)
    (h : ∀ (H1 : Hp) (E : XK) (Q1 : VK), L2.Same S H1 → BadRw mg H1 v E → te E σ H1 Q1) (q : ∀ H2, L2.Same S H2 → LamX.Tabs T H2 → Q (.bl false) H2) :
    tOp (rNeD K) (LamX.tLam T (TTwhy K mg) te) (tTup (tCons (tC (.str "row")) (tCons (tCB (rShow K) (tCons (tVar i) tNil)) tNil))) σ H Q := by
  refine op_in ⟨hT, fun H1 x T1 => ?_⟩
  have s1 := ext_same nt s x
  refine h H1 _ _ s1 fun dd H2 s2 _ e => ?_
  refine Or.inr ⟨rfl, dd, v, d, rfl, e, f.same (s1.trans s2), fun p H3 s3 e3 => ?_⟩
  have f3 := f.same ((s1.trans s2).trans s3)
  refine l_tup (va_cons val_c (va_cons (v_show (val_var hi) f3.1 f3.2.1 f3.2.2.1 f3.2.2.2.1) va_nil)) (by show 2 ≤ 100000; decide) fun b hb => ?_
  have S3 := ((s1.trans s2).trans s3).trans (Same.new' (o := .tup [.str "row", .str d.shown]) hb)
  exact ⟨_, _, dp2 ((Same.new' hb) _ _ e3), dp2 upd_same, shaped2 (by decide +kernel) f.2.2.2.2, shaped2 (by decide +kernel) f.2.2.2.2, by rw [eqv2]; exact q _ S3 (T1.ext fun b' o z => (Same.new' hb) _ _ (s3 _ _ (s2 _ _ z)))⟩
end
end LW

/-! The law's end where several defs of the text make lambdas, and nothing is being shown. -/
namespace GL
open PySem PySem.Spec PyProof.Rows L2
section
variable {P : Program} {w : World} {K : PySem.W.Frag} {mg mb : Str → Option Value} {k : Nat} {fa a : Addr} {ts : List (Addr × Addr)} {fd : FuncData} {x : Str} {sp : Sp} {s₁ : Shared} {vs : List Value} {ns : List Int}
/-- from one abstract heap that knows the table, and the script at most -/
theorem law_fromT (KX : K.In s₁.heap) (hns : s₁.heap.Ns mainGlobals mg) (hb : s₁.heap.Ns builtinsNs mb) (hbb : ∀ x : Str, x ≠ "__name__" → mb x = bootBuiltins x) (hlim : s₁.heap.NoLimit) (hg : s₁.gens = #[])
    (hTs : ∀ p ∈ ts, s₁.heap.get? p.2 = some { cls := .none, data := .fields #[] } ∧ K.lookup p.2 = none ∧ PySem.W.codeHdIn K p.1 p.2 = true)
    (hbm : ∃ (bm : Addr) (ob : Obj), mg "__builtins__" = some (.ref bm) ∧ bm ≠ builtinsNs ∧ s₁.heap.get? bm = some ob ∧ ob.cls = .type "module" ∧ ob.dict = some builtinsNs ∧ ob.data = .plain)
    (ha : s₁.heap.get? a = some { cls := .type "list", data := .seq vs.toArray }) (hr : Room k callerA)
    (F : ∀ base : Heap, K.In base → base.Ns mainGlobals mg → (∀ p ∈ ts, LamX.TabB base mg p.1 p.2) → OkG P w K mg base CX0 k fa fd [x] sp) (hbind : ∀ (s : Shared) (u : Value), BindsTo s fd ⟨[u], []⟩ [(x, u)])
    {H : Hp} (hH : ∀ p ∈ ts, H p.2 = some (.tbl #[])) (hO : ∀ b, b ∉ ts.map Prod.snd → H b = none ∨ ∃ o xs, H b = some (.frz o (.lst xs))) (hsp : sp [.ref a] H (fun v _ => v = .bl true) fun _ _ _ => False) (hok : HOk P w H s₁.heap) (hA : ∀ b, b ∉ ts.map Prod.snd → H b ≠ none → b = a)
    (hK : H a ≠ none → K.lookup a = none) : Law P w fa a s₁ := by
  have free : ∀ {b : Addr} {o : Obj}, s₁.heap.get? b = some o → (∀ xs m, o.data ≠ .seq xs m) → o.data ≠ .fields #[] → H b = none := fun {b o} e d1 d2 => by
    by_cases q : b ∈ ts.map Prod.snd
    · obtain ⟨p, hp, rfl⟩ := List.mem_map.mp q
      rw [(hTs p hp).1] at e
      cases e
      exact (d2 rfl).elim
    · refine Decidable.byContradiction fun z => ?_
      have q2 := hA b q z
      rw [q2, ha] at e
      cases e
      exact d1 _ _ rfl
  have kFree : ∀ {b : Addr} {o : Obj}, K.lookup b = some o → H b = none := fun {b o} e => Decidable.byContradiction fun z => by
    by_cases q : b ∈ ts.map Prod.snd
    · obtain ⟨p, hp, rfl⟩ := List.mem_map.mp q
      rw [(hTs p hp).2.1] at e
      cases e
    · have q2 := hA b q z
      subst q2
      rw [hK z] at e
      cases e
  have dict : ∀ {b : Addr} {o : Obj} {es : Array DictEntry} {ep : Nat}, s₁.heap.get? b = some o → o.data = .dict es ep → H b = none := fun {b o es ep} e d =>
    free e (fun xs m z => by rw [d] at z; cases z) (fun z => by rw [d] at z; cases z)
  have names : ∀ {b : Addr} {m : Str → Option Value}, s₁.heap.Ns b m → (hidT s₁.heap H).Ns b m := fun {b m} z => by
    obtain ⟨o, es, ep, e, d, r⟩ := z
    exact ⟨o, es, ep, hidT_get e (dict e d), d, r⟩
  have kIn' : K.In (hidT s₁.heap H) := fun b o e => hidT_get (KX b o e) (kFree e)
  have TB : ∀ p ∈ ts, LamX.TabB (hidT s₁.heap H) mg p.1 p.2 := fun p hp => by
    obtain ⟨hTab, nTab, hCd⟩ := hTs p hp
    have gP : mainGlobals ≠ p.2 := fun z => by
      obtain ⟨o, es, ep, e, d, _⟩ := hns
      rw [z, hTab] at e
      cases e
      cases d
    refine ⟨PySem.W.codeHd_of_K kIn' hCd, ?_, gP⟩
    obtain ⟨bm, ob, q1, q2, q3, q4, q5, q6⟩ := hbm
    have nG : bm ≠ mainGlobals := fun z => by
      obtain ⟨o, es, ep, e, d, _⟩ := hns
      rw [z, e] at q3
      cases q3
      rw [d] at q6
      cases q6
    have nP : bm ≠ p.2 := fun z => by
      rw [z, hTab] at q3
      cases q3
      cases q6
    exact ⟨bm, ob, q1, q2, nG, nP, hidT_get q3 (free q3 (fun xs m z => by rw [q6] at z; cases z) (fun z => by rw [q6] at z; cases z)), q4, q5, q6⟩
  obtain ⟨mc, l1, l2⟩ := hlim
  have e0 : Env0 P w K mg (hidT s₁.heap H) callerA [] s₁ H := ⟨rfl, ⟨kIn', names hns, ⟨mb, names hb, hbb⟩, ⟨mc, names l1, l2⟩⟩, fun b o e => of_hidT e, Nat.le_of_eq (hidT_size _ _), trivial, (fun b z => nomatch z), hok, .of_eq hg⟩
  have run := (F _ kIn' (names hns) TB).run callerA [] s₁ H ⟨[.ref a], []⟩ [.ref a] [.ref a] _ _ hr rfl e0 (hbind s₁ (.ref a)) (.cons rfl .nil) hsp
  refine codeAny_mono run fun r s' z => ?_
  cases r with
  | error e => exact z.elim
  | ok fl => cases fl with
    | next => exact z.elim
    | brk => exact z.elim
    | cont => exact z.elim
    | ret u =>
      obtain ⟨v, H', os, bare, un, hok', rv, ev⟩ := z
      have ev' : v = .bl true := ev
      subst ev'
      cases (show u = Value.bool true from rv)
      have stay : ∀ b o, b ∉ ts.map Prod.snd → s₁.heap.get? b = some o → s'.heap.get? b = some o := fun b o n e => by
        rcases hO b n with q | ⟨ob, xs, q⟩
        · exact un.keep b o e q (fun z => nomatch z) (fun z => nomatch z)
        · obtain ⟨e1, _⟩ := hok b _ q
          obtain ⟨e2, _⟩ := hok' b _ (un.frzs b ob _ q)
          rw [e] at e1
          cases e1
          exact e2
      refine ⟨rfl, ⟨fun b o e => ?_, fun b o e => ?_⟩, os, bare⟩
      · by_cases n : b ∈ ts.map Prod.snd
        · obtain ⟨p, hp, rfl⟩ := List.mem_map.mp n
          obtain ⟨hTab, nTab, hCd⟩ := hTs p hp
          obtain ⟨more, hm⟩ := un.tbls p.2 #[] (hH p hp)
          have now := hok' p.2 _ hm
          rw [hTab] at e
          cases e
          exact .inr (.inl ⟨((PySem.W.codeHd_of_K KX hCd).tab hTab).isCodeTable, rfl, #[], more, rfl, now⟩)
        · exact .inl (stay b o n e)
      · by_cases n : b ∈ ts.map Prod.snd
        · obtain ⟨p, hp, rfl⟩ := List.mem_map.mp n
          obtain ⟨more, hm⟩ := un.tbls p.2 #[] (hH p hp)
          exact ⟨_, hok' p.2 _ hm⟩
        · exact ⟨o, stay b o n e⟩
theorem law_callGT (KX : K.In s₁.heap) (hns : s₁.heap.Ns mainGlobals mg) (hb : s₁.heap.Ns builtinsNs mb) (hbb : ∀ x : Str, x ≠ "__name__" → mb x = bootBuiltins x) (hlim : s₁.heap.NoLimit) (hg : s₁.gens = #[])
    (hTs : ∀ p ∈ ts, s₁.heap.get? p.2 = some { cls := .none, data := .fields #[] } ∧ K.lookup p.2 = none ∧ PySem.W.codeHdIn K p.1 p.2 = true)
    (hbm : ∃ (bm : Addr) (ob : Obj), mg "__builtins__" = some (.ref bm) ∧ bm ≠ builtinsNs ∧ s₁.heap.get? bm = some ob ∧ ob.cls = .type "module" ∧ ob.dict = some builtinsNs ∧ ob.data = .plain)
    (ha : s₁.heap.get? a = some { cls := .type "list", data := .seq vs.toArray }) (hi : IntsAre vs ns) (hl : ns.length ≤ sizeLine) (hr : Room k callerA)
    (F : ∀ base : Heap, K.In base → base.Ns mainGlobals mg → (∀ p ∈ ts, LamX.TabB base mg p.1 p.2) → OkG P w K mg base CX0 k fa fd [x] sp) (hbind : ∀ (s : Shared) (u : Value), BindsTo s fd ⟨[u], []⟩ [(x, u)])
    (hsp : ∀ H : Hp, (∀ p ∈ ts, H p.2 = some (.tbl #[])) → SqL K H a (ns.map V.int) → sp [.ref a] H (fun v _ => v = .bl true) fun _ _ _ => False) : Law P w fa a s₁ := by
  have rv := vals_ints hi
  have na : a ∉ ts.map Prod.snd := fun z => by
    obtain ⟨p, hp, e⟩ := List.mem_map.mp z
    rw [← e, (hTs p hp).1] at ha
    cases ha
  let H0 : Hp := fun b => if b ∈ ts.map Prod.snd then some (.tbl #[]) else none
  have t0' : ∀ b, b ∈ ts.map Prod.snd → H0 b = some (.tbl #[]) := fun b z => if_pos z
  have t0 : ∀ p ∈ ts, H0 p.2 = some (.tbl #[]) := fun p hp => t0' _ (List.mem_map.mpr ⟨p, hp, rfl⟩)
  have o0 : ∀ b, b ∉ ts.map Prod.snd → H0 b = none := fun b z => if_neg z
  cases hk : K.lookup a with
  | some o =>
    have e := KX a o hk
    rw [ha] at e
    cases e
    have hS : SqL K H0 a (ns.map V.int) := .inr ⟨_, vs.toArray, _, hk, rfl, rfl, rfl, by rw [List.size_toArray, hi.length]; exact hl, by simpa using rv⟩
    refine law_fromT KX hns hb hbb hlim hg hTs hbm ha hr F hbind t0 (fun b n => .inl (o0 b n)) (hsp H0 t0 hS) (fun b u z => ?_) (fun b n z => (z (o0 b n)).elim) (fun z => (z (o0 a na)).elim)
    by_cases q : b ∈ ts.map Prod.snd
    · rw [t0' b q] at z
      cases z
      obtain ⟨p, hp, rfl⟩ := List.mem_map.mp q
      exact (hTs p hp).1
    · rw [o0 b q] at z
      cases z
  | none =>
    let H1 : Hp := upd H0 a (.frz { cls := .type "list", data := .seq vs.toArray } (.lst (ns.map V.int)))
    have a1 : H1 a = some (.frz { cls := .type "list", data := .seq vs.toArray } (.lst (ns.map V.int))) := upd_same
    have t1' : ∀ b, b ∈ ts.map Prod.snd → H1 b = some (.tbl #[]) := fun b z => (upd_ne (fun e => na (by rw [← e]; exact z))).trans (t0' b z)
    have t1 : ∀ p ∈ ts, H1 p.2 = some (.tbl #[]) := fun p hp => t1' _ (List.mem_map.mpr ⟨p, hp, rfl⟩)
    have o1 : ∀ b, b ∉ ts.map Prod.snd → b ≠ a → H1 b = none := fun b z y => (upd_ne y).trans (o0 b z)
    refine law_fromT KX hns hb hbb hlim hg hTs hbm ha hr F hbind t1 (fun b n => ?_) (hsp H1 t1 (.inl (.inr ⟨_, a1⟩))) (fun b u z => ?_) (fun b n z => Decidable.byContradiction fun q => z (o1 b n q)) (fun _ => hk)
    · by_cases q : b = a
      · rw [q]
        exact .inr ⟨_, _, a1⟩
      · exact .inl (o1 b n q)
    · by_cases q : b = a
      · subst q
        rw [a1] at z
        cases z
        exact ⟨ha, by rw [List.length_map]; exact hl, vs, _, rv, ha⟩
      · by_cases q2 : b ∈ ts.map Prod.snd
        · rw [t1' b q2] at z
          cases z
          obtain ⟨p, hp, rfl⟩ := List.mem_map.mp q2
          exact (hTs p hp).1
        · rw [o1 b q2 q] at z
          cases z
end
/-- what is known of the law's def -/
def LawT (P : Program) (w : World) (K : PySem.W.Frag) (k n : Nat) (x : Str) (mg : Str → Option Value) (fa : Addr) (h : Heap) : Prop :=
  ∃ (fd : FuncData) (ts : List (Addr × Addr)) (sp : Sp), (∀ p ∈ ts, h.get? p.2 = some { cls := .none, data := .fields #[] } ∧ K.lookup p.2 = none ∧ PySem.W.codeHdIn K p.1 p.2 = true) ∧ (∀ (s : Shared) (u : Value), BindsTo s fd ⟨[u], []⟩ [(x, u)]) ∧
    (∀ (H : Hp) (a : Addr) (ns : List Int), ns.length ≤ n → (∀ p ∈ ts, H p.2 = some (.tbl #[])) → SqL K H a (ns.map V.int) → sp [.ref a] H (fun v _ => v = .bl true) fun _ _ _ => False) ∧
    ∀ base : Heap, K.In base → base.Ns mainGlobals mg → (∀ p ∈ ts, LamX.TabB base mg p.1 p.2) → OkG P w K mg base CX0 k fa fd [x] sp
theorem walk_GT {l : PySem.W.OpenLaw} {n k : Nat} {q : Program} {loose : List Str} {XP : (Str → Option Value) → Heap → Prop} {YP : World → Heap → Prop} {d : DefRec} {K : Params → PySem.W.Frag} {x : Str}
    (hn : l.most = some n) (hn2 : n ≤ sizeLine) (hdf : d.params.defaults = []) (hr : Room k callerA) (hY : ∀ (w : World) (h : Heap), YP w h → (K w.params).In h)
    (F : ∀ (w : World) (mg : Str → Option Value) (fa : Addr) (h : Heap), YP w h → (K w.params).In h → h.Ns mainGlobals mg → mg d.name = some (.ref fa) → LawT l.prog w (K w.params) k n x mg fa h) :
    PySem.W.WalkO q loose XP YP l.row.toRowW d [] (fun f vs => PySem.call f vs) := by
  refine Att.attach_call hn hdf fun w s₀ s₁ mg mb fa o pm cd doc a vs ns G Y ho hd hcd hmg hobj hints hlen hg => ?_
  have KX := hY w _ Y
  obtain ⟨fd, ts, sp, hT, hbi, hsp, hF⟩ := F w mg fa _ Y KX G.T.g hmg
  exact law_callGT KX G.T.g G.T.b G.T.builtins G.T.nolimit hg hT G.T.bmain hobj hints (Nat.le_trans hlen hn2) hr hF hbi fun H hH hS => hsp H a ns hlen hH hS
end GL

/-! the law -/
namespace LW
open PySem PySem.Spec PyProof.Rows L2 GL
section
variable {P : Program} {w : World} {K : PySem.W.Frag} {mg : Str → Option Value} {base : Heap}
theorem RwR.but {H H' : Hp} {p c : Addr} {m : Nat} {v : V} {qs : List Rat} (h : RwR H v qs) (P : PenAt H p c m) (b : But p H H') : RwR H' v qs := by
  obtain ⟨a, xs, rfl, sq, al⟩ := h
  obtain ⟨kvs, hd⟩ := P.dk
  refine ⟨a, xs, rfl, sq.elim (fun z => .inl (b _ _ z (ne_of z hd (by intro y; cases y)))) fun z => .inr (b _ _ z (ne_of z hd (by intro y; cases y))), al.imp fun _ _ r => r.but P b⟩
theorem RwR.bare {H : Hp} {v : V} {qs : List Rat} (h : RwR H v qs) : RwR (bareH H) v qs := by
  obtain ⟨a, xs, rfl, sq, al⟩ := h
  exact ⟨a, xs, rfl, sq.bare, al.imp fun _ _ r => r.bare⟩
theorem Lst.rwr {H : Hp} {l : Addr} {qs : List Rat} {n : Nat} (h : Lst H l qs) (s : Sms n qs) (hn : n ≤ 1000) : RwR H (.ref l) qs := by
  obtain ⟨vs, e, al⟩ := h
  refine ⟨l, vs, rfl, .inl e, All2.mk al.len fun i a b ha hb => ?_⟩
  obtain ⟨b', hb', p, rfl, lo⟩ := al.get ha
  rw [hb] at hb'
  cases hb'
  exact lo.rq (s b (get_mem hb)) hn
theorem qD_nc {q : Rat} {n : Nat} (s : Sm n q) (l : n ≤ 1000) : Nc 630 2 (qD q) := (nc_tuple (nc_two (s.fit l).1 (s.fit l).2)).mono (by show 2 * (310 + 2) + 3 ≤ 630; decide) (by decide)
theorem Lo.dd {H : Hp} {p : Addr} {q : Rat} (h : Lo H p q) : Dd K H (.ref p) (qD q) := .tup (SqT.of h) (.cons (.int _) (.cons (.int _) .nil))
theorem los_dd {H : Hp} {vs : List V} {qs : List Rat} (h : All2 (fun v q => ∃ p, v = V.ref p ∧ Lo H p q) vs qs) : DdAll K H vs (qs.map qD) := by
  induction h with
  | nil => exact .nil
  | cons r _ ih =>
    obtain ⟨p, rfl, lo⟩ := r
    exact .cons lo.dd ih
theorem qsD_nc {qs : List Rat} {n : Nat} (s : Sms n qs) (l : n ≤ 1000) (z : qs.length ≤ 10) : Nc 10000 3 (.tuple (qs.map qD)) := by
  refine (nc_tuple (B := 630) (k := 2) fun d hd => ?_).mono (C := 10000) (l := 3) ?_ (by decide)
  · obtain ⟨q, hq, rfl⟩ := List.mem_map.mp hd
    exact qD_nc (s q hq) l
  · rw [List.length_map]
    omega
theorem show_at {v : V} {d : PyData} {H : Hp} {Q : VK} (h : Dd K H v d) (n : Nc 10000 3 d) (q : Q (.str d.shown) H) : rShow K [v] H Q := ⟨v, d, rfl, h, n.1, Nat.le_trans n.2.2.2 (by decide), Nat.le_trans n.2.1 (by decide), q⟩
theorem ki_w {t d w : V} : ([("trace", t), ("determinant", d), ("word", w)] : List (Str × V)).lookup ("word" : Str) = some w := by
  have n1 : (("word" : Str) == ("trace" : Str)) = false := by decide +kernel
  have n2 : (("word" : Str) == ("determinant" : Str)) = false := by decide +kernel
  rw [List.lookup_cons, n1, List.lookup_cons, n2]
  rfl
theorem ki_d {t d w : V} : ([("trace", t), ("determinant", d), ("word", w)] : List (Str × V)).lookup ("determinant" : Str) = some d := by
  have n1 : (("determinant" : Str) == ("trace" : Str)) = false := by decide +kernel
  rw [List.lookup_cons, n1]
  rfl
theorem v_kw (TK : KindT K mg) {σ : L2.St} {H : Hp} {te : TE} {a : Addr} {t d w : V} (h : Val te σ H (.ref a)) (k : KiAt mg H a t d w) : Val (tFld K te "word") σ H w := fun Q q => by
  obtain ⟨dx, e⟩ := k
  exact h _ ⟨a, _, dx, _, _, rfl, e, TK.cls, TK.no3, ki_w, q⟩
theorem v_kd (TK : KindT K mg) {σ : L2.St} {H : Hp} {te : TE} {a : Addr} {t d w : V} (h : Val te σ H (.ref a)) (k : KiAt mg H a t d w) : Val (tFld K te "determinant") σ H d := fun Q q => by
  obtain ⟨dx, e⟩ := k
  exact h _ ⟨a, _, dx, _, _, rfl, e, TK.cls, TK.no2, ki_d, q⟩
theorem v_kt (TK : KindT K mg) {σ : L2.St} {H : Hp} {te : TE} {a : Addr} {t d w : V} (h : Val te σ H (.ref a)) (k : KiAt mg H a t d w) : Val (tFld K te "trace") σ H t := fun Q q => by
  obtain ⟨dx, e⟩ := k
  exact h _ ⟨a, _, dx, _, _, rfl, e, TK.cls, TK.no1, rfl, q⟩
theorem KiAt.same {H H' : Hp} {a : Addr} {t d w : V} (k : KiAt mg H a t d w) (s : L2.Same H H') : KiAt mg H' a t d w := k.imp fun _ e => s _ _ e
theorem Sms.tr {m : Mt} (s : Sms 30 m.l) : Sm 200 m.tr := ((s m.a (by simp [Mt.l])).add (s m.d (by simp [Mt.l]))).mono (by decide)
theorem Sms.det {m : Mt} (s : Sms 30 m.l) : Sm 200 m.det := (((s m.a (by simp [Mt.l])).mul (s m.d (by simp [Mt.l]))).sub ((s m.b (by simp [Mt.l])).mul (s m.c (by simp [Mt.l])))).mono (by decide)
theorem two_sm : Sm 2 (2 : Rat) := by
  have := int_sm (i := 2) (n := 2) (by decide) (by decide)
  exact this
theorem Sms.slp {m : Mt} {f : Fm} (s : Sms 30 m.l) (t : Sms 12 f.l) : Sms 300 (slp m f).l := by
  have a := s m.a (by simp [Mt.l])
  have b := s m.b (by simp [Mt.l])
  have c := s m.c (by simp [Mt.l])
  have d := s m.d (by simp [Mt.l])
  have p := t f.p (by simp [Fm.l])
  have q := t f.q (by simp [Fm.l])
  have r := t f.r (by simp [Fm.l])
  intro x hx
  simp only [LW.slp, Fm.l, List.mem_cons, List.not_mem_nil, or_false] at hx
  rcases hx with rfl | rfl | rfl
  · exact (two_sm.mul ((p.mul a).add (q.mul c))).mono (by decide)
  · exact (((p.mul b).add (q.mul (a.add d))).add (r.mul c)).mono (by decide)
  · exact (two_sm.mul ((q.mul b).add (r.mul d))).mono (by decide)
theorem Sms.fins {n : Nat} {qs : List Rat} (s : Sms n qs) (h : n ≤ 59) : Fins qs := fun q hq => Sm.fin ((s q hq).mono h)
theorem Sms.mono {n m : Nat} {qs : List Rat} (s : Sms n qs) (h : n ≤ m) : Sms m qs := fun q hq => (s q hq).mono h
/-- a row of the law's own words -/
def WordRow (H : Hp) (v : V) : Prop := ∃ (T R : Addr) (m : Mt), v = .ref T ∧ H T = some (.tup [.str (wordS m), .ref R]) ∧ RwR H (.ref R) m.l ∧ Sms 3 m.l
theorem WordRow.same {H H' : Hp} {v : V} (h : WordRow H v) (s : L2.Same H H') : WordRow H' v := by
  obtain ⟨T, R, m, rfl, e, r, sm⟩ := h
  exact ⟨T, R, m, rfl, s _ _ e, r.same s, sm⟩
theorem rq_i {H : Hp} {i : Int} (h : i.natAbs < 8) : Rq H (.int i) ((i : Int) : Rat) := ⟨i, 1, .int i, ⟨small_int h, Nat.one_lt_two_pow (by decide)⟩, by
  rw [show Rat.divInt i 1 = Rat.divInt i ((1 : Nat) : Int) from rfl, Rat.divInt_ofNat, Rat.mkRat_one]⟩
/-- (word, (a, b, c, d)) -/
theorem l_wrow {σ : L2.St} {H : Hp} {wd : Str} {a b c d : Int} {Q : VK} (ha : a.natAbs < 8) (hb : b.natAbs < 8) (hc : c.natAbs < 8) (hd : d.natAbs < 8) (e : wordS ⟨a, b, c, d⟩ = wd) (q : ∀ v H', L2.Same H H' → WordRow H' v → Q v H') :
    tTup (tCons (tC (.str wd)) (tCons (tTup (tCons (tC (.int a)) (tCons (tC (.int b)) (tCons (tC (.int c)) (tCons (tC (.int d)) tNil))))) tNil)) σ H Q :=
  tup_two (val_c _ (l_tup (va_cons val_c (va_cons val_c (va_cons val_c (va_cons val_c va_nil)))) (by show 4 ≤ 100000; decide) fun R hR => ⟨by show 2 ≤ sizeLine; decide, fun T hT => by
    have s1 := Same.new' (o := .tup [.int a, .int b, .int c, .int d]) hR
    have s2 := Same.new' (o := .tup [.str wd, .ref R]) hT
    refine q _ _ (s1.trans s2) ⟨T, R, ⟨a, b, c, d⟩, rfl, by rw [e]; exact upd_same, ⟨R, _, rfl, .inr (s2 _ _ upd_same), .cons (rq_i ha) (.cons (rq_i hb) (.cons (rq_i hc) (.cons (rq_i hd) .nil)))⟩, Sms.four (int_sm (by omega) (by decide)) (int_sm (by omega) (by decide)) (int_sm (by omega) (by decide)) (int_sm (by omega) (by decide))⟩⟩))
theorem w_still : wordS ⟨((0 : Int) : Rat), ((0 : Int) : Rat), ((0 : Int) : Rat), ((0 : Int) : Rat)⟩ = "still" := by decide +kernel
theorem w_sliding : wordS ⟨((0 : Int) : Rat), ((1 : Int) : Rat), ((0 : Int) : Rat), ((0 : Int) : Rat)⟩ = "sliding" := by decide +kernel
theorem w_out : wordS ⟨((0 : Int) : Rat), ((0 : Int) : Rat), ((0 : Int) : Rat), ((3 : Int) : Rat)⟩ = "line out" := by decide +kernel

def RawL (K : PySem.W.Frag) (g : TG) (tb tz : TS) (D : Ends) (σ : L2.St) : V → Hp → Prop := fun x H => ∃ a, x = .ref a ∧ (∃ xs, SqL K H a xs) ∧ ∃ W : Nat → Nat → L2.St → Hp → Prop, (∃ m, W 0 m σ H) ∧ ∀ i m σ H, W i m σ H →
  ((Itl K a).stop i H ∧ tz D σ H) ∨ ((Itl K a).go i H ∧ ∃ N : L2.St → Hp → Prop, (∀ σ' H', N σ' H' → ∃ m', m' < m ∧ W (i + 1) m' σ' H') ∧ ∀ x H', (Itl K a).yld i H x H' → g x σ H' fun σ2 H2 => tb { D with nx := N, ct := N, bk := tz D } σ2 H2)
theorem q_forRawL {te : TE} {g : TG} {tb tz : TS} {D : Ends} {σ : L2.St} {H : Hp} (h : te σ H (RawL K g tb tz D σ)) : tSeq (tFor (iList K te) g tb) tz D σ H := h
theorem rawL_of {a : Addr} {xs : List V} {g : TG} {tb tz : TS} {D : Ends} {σ : L2.St} {H : Hp} (e : SqL K H a xs) (Pv : Nat → L2.St → Hp → Prop) (h0 : Pv 0 σ H) (hl : ∀ i σ H, i ≤ xs.length → Pv i σ H → SqL K H a xs)
    (hs : ∀ i x σ H, xs[i]? = some x → Pv i σ H → g x σ H fun σ2 H2 => tb { D with nx := Pv (i + 1), ct := Pv (i + 1), bk := tz D } σ2 H2) (hd : ∀ σ H, Pv xs.length σ H → tz D σ H) : RawL K g tb tz D σ (.ref a) H :=
  ⟨a, rfl, ⟨_, e⟩, for_list (K := K) (a := a) (xs := xs) (D := { D with nx := tz D }) Pv h0 hl hs hd⟩
/-! ### what is no matrix, no form -/
theorem hole_bare {p : Addr} {H : Hp} : L2.Same (hole p H) (bareH H) := fun b o z => by
  unfold hole at z
  by_cases h : b = p
  · rw [if_pos h] at z; cases z
  · rw [if_neg h] at z; exact z
section
variable {p c : Addr} {σ : L2.St} {n : Nat}
abbrev ti (l : List Int) : TA := l.foldr (fun i t => tCons (tC (.int i)) t) tNil
theorem va_ti {H : Hp} : ∀ (l : List Int), VA (ti l) σ H (l.map V.int)
  | [] => va_nil
  | _ :: l => va_cons val_c (va_ti l)
theorem ep_ti {l : List Int} (h : ∀ i ∈ l, i.natAbs < 8) (k : l.length ≤ 20) (ne : l.length ≠ n) : EP (NoR K n) p c σ (tTup (ti l)) := ep_tup (fun H => va_ti l) (by rw [List.length_map]; omega) fun H q e => nor_tup e h k ne
theorem ep_li {l : List Int} (h : ∀ i ∈ l, i.natAbs < 8) (k : l.length ≤ 20) (ne : l.length ≠ n) : EP (NoR K n) p c σ (tLst (ti l)) := ep_lst (fun H => va_ti l) (by rw [List.length_map]; omega) fun H q e => nor_lst e h k ne
variable (hσ : σ[1]? = some (some (.ref p)))
include hσ
theorem ep_any_last : EP (NoR K 4) p c σ (tTup (tCons (tC (.int 1)) (tCons (tC (.int 2)) (tCons (tC (.int 3)) (tCons (tCall spAny [] E0 (tCons (tVar 1) tNil)) tNil))))) := fun H m Q P hm k =>
  (show tTup _ _ _ _ from va_s val_c (va_s val_c (va_s val_c (va_1 (c_any hσ P (by omega) fun v H' b P' o => ⟨by show 4 ≤ sizeLine; decide, fun q hq => by
    have s := Same.new' (o := .tup [.int 1, .int 2, .int 3, v]) hq
    obtain ⟨kvs, hd⟩ := P'.dk
    have np : q ≠ p := fun z => by rw [z, hd] at hq; cases hq
    have o2 := o.same (hole_but (But.of (p := p) s))
    refine k _ _ (b.trans (But.of s)) (P'.same s) (nor_mix (xs := [.int 1, .int 2, .int 3, v]) (.inr (hole_of upd_same np (fun _ z => by cases z))) (fun x hx => ?_) ⟨v, by simp, o2⟩ (by show 4 ≤ 20; decide))
    simp only [List.mem_cons, List.not_mem_nil, or_false] at hx
    rcases hx with rfl | rfl | rfl | rfl
    · exact .inl ⟨1, rfl, by decide⟩
    · exact .inl ⟨2, rfl, by decide⟩
    · exact .inl ⟨3, rfl, by decide⟩
    · exact .inr o2⟩)))))
theorem ep_any_first : EP (NoR K 3) p c σ (tTup (tCons (tCall spAny [] E0 (tCons (tVar 1) tNil)) (tCons (tC (.int 1)) (tCons (tC (.int 1)) tNil)))) := fun H m Q P hm k =>
  (show tTup _ _ _ _ from va_x (c_any hσ P (by omega) fun v H' b P' o => va_s val_c (va_s val_c ⟨by show 3 ≤ sizeLine; decide, fun q hq => by
    have s := Same.new' (o := .tup [v, .int 1, .int 1]) hq
    obtain ⟨kvs, hd⟩ := P'.dk
    have np : q ≠ p := fun z => by rw [z, hd] at hq; cases hq
    have o2 := o.same (hole_but (But.of (p := p) s))
    refine k _ _ (b.trans (But.of s)) (P'.same s) (nor_mix (xs := [v, .int 1, .int 1]) (.inr (hole_of upd_same np (fun _ z => by cases z))) (fun x hx => ?_) ⟨v, by simp, o2⟩ (by show 3 ≤ 20; decide))
    simp only [List.mem_cons, List.not_mem_nil, or_false] at hx
    rcases hx with rfl | rfl | rfl
    · exact .inr o2
    · exact .inl ⟨1, rfl, by decide⟩
    · exact .inl ⟨1, rfl, by decide⟩⟩)))
theorem ep_any4 {C : Int → Prop} : EP (NoR K 4) p c σ (tOp rRep (tLst (tCons (tCall spAny [] E0 (tCons (tVar 1) tNil)) tNil)) (tC (.int 4))) := fun H m Q P hm k =>
  op_in (l_s (va_1 (c_any hσ P (by omega) fun v H' b P' o => ⟨by show 1 ≤ sizeLine; decide, fun q2 h2 => val_c _ ⟨q2, 4, _, rfl, rfl, upd_same, by decide, by decide, by show 4 * 1 ≤ sizeLine; decide, fun q3 h3 => by
    have s2 := Same.new' (o := .lst [v]) h2
    have s3 := Same.new' (o := .lst [v, v, v, v]) h3
    have s := s2.trans s3
    obtain ⟨kvs, hd⟩ := (P'.same s2).dk
    have np : q3 ≠ p := fun z => by rw [z, hd] at h3; cases h3
    have o2 := o.same (hole_but (But.of (p := p) s))
    refine k _ _ (b.trans (But.of s)) (P'.same s) (nor_mix (xs := [v, v, v, v]) (.inl (hole_of upd_same np (fun _ z => by cases z))) (fun x hx => ?_) ⟨v, by simp, o2⟩ (by show 4 ≤ 20; decide))
    simp only [List.mem_cons, List.not_mem_nil, or_false] at hx
    rcases hx with rfl | rfl | rfl | rfl <;> exact .inr o2⟩⟩)))
theorem vp_rows : VP (NoR K 4) p c σ 7 (tCons (tC .non) (tCons (tC (.int 5)) (tCons (tTup (ti [1, 2, 3])) (tCons (tLst (ti [1, 2, 3, 4, 5])) (tCons (tTup (tCons (tC (.int 1)) (tCons (tC (.int 2)) (tCons (tC (.int 3)) (tCons (tCall spAny [] E0 (tCons (tVar 1) tNil)) tNil))))) (tCons (tC (.str "abcd"))
    (tCons (tOp rRep (tLst (tCons (tCall spAny [] E0 (tCons (tVar 1) tNil)) tNil)) (tC (.int 4))) tNil))))))) :=
  vp_cons NoR.stab (ep_c fun _ => nor_non) (vp_cons NoR.stab (ep_c fun _ => nor_int (by decide)) (vp_cons NoR.stab (ep_ti (by decide) (by decide) (by decide)) (vp_cons NoR.stab (ep_li (by decide) (by decide) (by decide)) (vp_cons NoR.stab (ep_any_last hσ) (vp_cons NoR.stab (ep_c fun _ => nor_abcd) (vp_cons NoR.stab (ep_any4 (C := fun _ => True) hσ) vp_nil))))))
theorem vp_bads : VP (NoR K 3) p c σ 6 (tCons (tC .non) (tCons (tTup (ti [1, 2])) (tCons (tLst (ti [1, 2, 3, 4])) (tCons (tTup (tCons (tCall spAny [] E0 (tCons (tVar 1) tNil)) (tCons (tC (.int 1)) (tCons (tC (.int 1)) tNil)))) (tCons (tC (.str "abc")) (tCons (tC (.int 7)) tNil)))))) :=
  vp_cons NoR.stab (ep_c fun _ => nor_non) (vp_cons NoR.stab (ep_ti (by decide) (by decide) (by decide)) (vp_cons NoR.stab (ep_li (by decide) (by decide) (by decide)) (vp_cons NoR.stab (ep_any_first hσ) (vp_cons NoR.stab (ep_c fun _ => nor_abc) (vp_cons NoR.stab (ep_c fun _ => nor_int (by decide)) vp_nil)))))
end

theorem mk_one {σ : L2.St} {H : Hp} {Q : VK} {E : XK} (k : ∀ (kk t1 d1 : Addr) (H' : Hp), H' t1 = some (.tup [.int 1, .int 2]) → H' d1 = some (.tup [.int 3, .int 4]) → KiAt mg H' kk (.ref t1) (.ref d1) (.str "x") → Q (.ref kk) H') :
    tMake (kiA mg) (spKInit mg) [] E (tCons (tLst (tCons (tC (.int 1)) (tCons (tC (.int 2)) tNil))) (tCons (tLst (tCons (tC (.int 3)) (tCons (tC (.int 4)) tNil))) (tCons (tC (.str "x")) tNil))) σ H Q :=
  va_x (l_lst (va_cons val_c (va_cons val_c va_nil)) (by decide) fun l1 h1 => va_x (l_lst (va_cons val_c (va_cons val_c va_nil)) (by decide) fun l2 h2 => va_1 (val_c _ (made_kind (o1 := some [.int 1, .int 2]) (o2 := some [.int 3, .int 4]) (o3 := none) ⟨l1, rfl, (Same.new' h2) _ _ upd_same⟩ ⟨l2, rfl, upd_same⟩ ⟨_, .str _, by decide⟩ fun kk t' d' w' H' s' e1 e2 e3 ki => by
    obtain ⟨t1, rfl, et⟩ := e1
    obtain ⟨d1, rfl, ed⟩ := e2
    obtain rfl : w' = _ := e3
    exact k kk t1 d1 H' et ed ki))))

def spLaw (Tb : List (Addr × Str)) : Sp := fun vs H Q _ => ∃ (a : Addr) (ns : List Int), vs = [.ref a] ∧ SqL K H a (ns.map V.int) ∧ ns.length ≤ 63 ∧ LamX.Tabs Tb H ∧ ∀ H', Q (.bl true) H'
theorem ok_law (T : Txt K mg) (TK : KindT K mg) (TI : C8.InsC K (kiA mg)) {cC cP : Addr} {Tb : List (Addr × Str)} (TB : LamX.TabB base mg cC cP) (hcC : (fDat K (fA mg "law")).code = .ref cC) (hTm : (cP, (("law" : Str) ++ (".<locals>." : Str)) ++ ("<lambda>" : Str)) ∈ Tb) (hTo : ∀ p ∈ Tb, p.1 = cP → p.2 = (("law" : Str) ++ (".<locals>." : Str)) ++ ("<lambda>" : Str)) :
    OkG P w K mg base CX0 17 (fA mg "law") (fDat K (fA mg "law")) ["_law_script"] (spLaw (K := K) Tb) := by
  have G_law_pen := ok_pen (P := P) (w := w) (base := base) T._law_pen.F T
  have G_law_pick := ok_pick (P := P) (w := w) (base := base) T
  have G_law_some := ok_law_some (P := P) (w := w) (base := base) T
  have G_law_ratio := ok_law_ratio (P := P) (w := w) (base := base) T
  have G_law_shown := ok_law_shown (P := P) (w := w) (base := base) T
  have G_law_word := ok_law_word (P := P) (w := w) (base := base) T
  have G_law_trace := ok_law_trace (P := P) (w := w) (base := base) T
  have G_law_det := ok_law_det (P := P) (w := w) (base := base) T
  have G_law_form_slope := ok_law_form_slope (P := P) (w := w) (base := base) T
  have G_law_any := ok_any (P := P) (w := w) (base := base) T
  have Gkind := ok_kind (P := P) (w := w) (base := base) T TK
  have GKind_init := ok_Kind_init (P := P) (w := w) (base := base) T TK
  have Gslope_of_form := ok_slope_of_form (P := P) (w := w) (base := base) T
  obtain ⟨oc, od, kV, doc, pm, an, cdw, ct, osl, efd, lk, hcg⟩ := T._law_why.F.ex
  have lk' := efd ▸ lk
  have b' := efd ▸ T._law_why.b
  refine okGc T.law.F hcC sclaw (fun vs H Q E h => ?_) (fun A outer s H vs Q E hr hq h => ?_)
  · obtain ⟨a, ns, rfl, _⟩ := h
    rfl
  obtain ⟨a, ns, rfl, hS, hn, hT, k⟩ := h
  refine ⟨_, (pss_cons (ps_set (i := 1) sclaw.nd rfl (Or.inr rfl) (pe_c T._law_pen G_law_pen (hr.mono (by decide)) (pa_cons (pv 0) pa_nil)))
  (pss_cons (ps_for PassesOwn.never rfl (pi_range1 (by rfl) T.range (pa_cons pe_int pa_nil)) (pg_name (i := 2) sclaw.nd rfl (Or.inl rfl))
  (pss_cons (ps_asg (pe_tup (pa_cons (pe_c T._law_some G_law_some (hr.mono (by decide)) (pa_cons (pv 1) pa_nil)) (pa_cons (pe_lc (own := [("_law_k", 5)]) (g := gName 5) (tt := tYes) (by rfl) sclaw.nd (pi_range1 (by rfl) T.range (pa_cons pe_int pa_nil)) (blkOk_by (own := [("_law_k", 5)]) (N := ["_law_script", "_law_pen_here", "_law_lap", "_law_matrix_here", "_law_form", "_law_k", "_law_told", "_law_slope", "_law_rows", "_law_odd", "_law_bad", "_law_word_here", "_law_row", "_law_one"]) (sc := defScope slaw) (by decide +kernel)) (fun _ _ _ _ _ => pg_name (i := 5) sclaw.nd rfl (Or.inl rfl)) (fun _ _ _ _ _ => pts_nil) (fun _ _ _ _ _ => (pe_c T._law_ratio G_law_ratio (hr.mono (by decide)) (pa_cons (pv 1) (pa_cons pe_int pa_nil))))) pa_nil))) (pg_tup rfl (pgs_cons (pg_name (i := 3) sclaw.nd rfl (Or.inr rfl)) (pgs_cons (pg_name (i := 4) sclaw.nd rfl (Or.inl rfl)) pgs_nil))))
  (pss_cons (ps_set (i := 6) sclaw.nd rfl (Or.inl rfl) (pe_call Gkind (hr.mono (by decide)) (by rfl) T.kind.g T.kind.F.kp T.kind.b .nil passL (pa_cons (pe_c T._law_shown G_law_shown (hr.mono (by decide)) (pa_cons (pv 1) (pa_cons (pv 3) pa_nil))) pa_nil)))
  (pss_cons (ps_if (PW.pt (pw_or (pt_not (pt_val (pe_callB (C8.call_isC TI) (by rfl) T.isinstance (by decide +kernel) (pa_cons (pv 6) (pa_cons (pe_cls TK.g) pa_nil))))) (pw_or1 (pt_cmpR op_ne (pe_fld (pv 6) (by rfl)) (pe_c T._law_word G_law_word (hr.mono (by decide)) (pa_cons (pv 3) pa_nil)) (nomark _))))) (pss_one (ps_ret pe_bl)) pss_nil)
  (pss_cons (ps_if (pt_cmpR op_ne (pe_callB (id := "repr") (call_show hq (hu64 hr)) (by rfl) T.repr (by decide +kernel) (pa_cons (pe_tup (pa_cons (pe_fld (pv 6) (by rfl)) (pa_cons (pe_fld (pv 6) (by rfl)) pa_nil))) pa_nil)) (pe_callB (id := "repr") (call_show hq (hu64 hr)) (by rfl) T.repr (by decide +kernel) (pa_cons (pe_tup (pa_cons (pe_c T._law_trace G_law_trace (hr.mono (by decide)) (pa_cons (pv 3) pa_nil)) (pa_cons (pe_c T._law_det G_law_det (hr.mono (by decide)) (pa_cons (pv 3) pa_nil)) pa_nil))) pa_nil)) (nomark _)) (pss_one (ps_ret pe_bl)) pss_nil)
  (pss_cons (ps_set (i := 7) sclaw.nd rfl (Or.inl rfl) (pe_call Gslope_of_form (hr.mono (by decide)) (by rfl) T.slope_of_form.g T.slope_of_form.F.kp T.slope_of_form.b .nil passL (pa_cons (pe_c T._law_shown G_law_shown (hr.mono (by decide)) (pa_cons (pv 1) (pa_cons (pv 3) pa_nil))) (pa_cons (pe_c T._law_shown G_law_shown (hr.mono (by decide)) (pa_cons (pv 1) (pa_cons (pv 4) pa_nil))) pa_nil))))
  (pss_cons (ps_if (pt_cmpR op_ne (pe_callB (id := "repr") (call_show hq (hu64 hr)) (by rfl) T.repr (by decide +kernel) (pa_cons (pv 7) pa_nil)) (pe_callB (id := "repr") (call_show hq (hu64 hr)) (by rfl) T.repr (by decide +kernel) (pa_cons (pe_c T._law_form_slope G_law_form_slope (hr.mono (by decide)) (pa_cons (pv 3) (pa_cons (pv 4) pa_nil))) pa_nil)) (nomark _)) (pss_one (ps_ret pe_bl)) pss_nil)
  (pss_cons (ps_set (i := 8) sclaw.nd rfl (Or.inl rfl) (pe_lst (pa_cons pe_non (pa_cons pe_int (pa_cons (pe_tup (pa_cons pe_int (pa_cons pe_int (pa_cons pe_int pa_nil)))) (pa_cons (pe_lst (pa_cons pe_int (pa_cons pe_int (pa_cons pe_int (pa_cons pe_int (pa_cons pe_int pa_nil)))))) (pa_cons (pe_tup (pa_cons pe_int (pa_cons pe_int (pa_cons pe_int (pa_cons (pe_c T._law_any G_law_any (hr.mono (by decide)) (pa_cons (pv 1) pa_nil)) pa_nil))))) (pa_cons pe_str (pa_cons (pe_op op_rep (pe_lst (pa_cons (pe_c T._law_any G_law_any (hr.mono (by decide)) (pa_cons (pv 1) pa_nil)) pa_nil)) pe_int) pa_nil)))))))))
  (pss_cons (ps_set (i := 9) sclaw.nd rfl (Or.inr rfl) (pe_c T._law_pick G_law_pick (hr.mono (by decide)) (pa_cons (pv 1) (pa_cons (pv 8) pa_nil))))
  (pss_cons (ps_set (i := 10) sclaw.nd rfl (Or.inr rfl) (pe_c T._law_pick G_law_pick (hr.mono (by decide)) (pa_cons (pv 1) (pa_cons (pe_lst (pa_cons pe_non (pa_cons (pe_tup (pa_cons pe_int (pa_cons pe_int pa_nil))) (pa_cons (pe_lst (pa_cons pe_int (pa_cons pe_int (pa_cons pe_int (pa_cons pe_int pa_nil))))) (pa_cons (pe_tup (pa_cons (pe_c T._law_any G_law_any (hr.mono (by decide)) (pa_cons (pv 1) pa_nil)) (pa_cons pe_int (pa_cons pe_int pa_nil)))) (pa_cons pe_str (pa_cons pe_int pa_nil))))))) pa_nil))))
  (pss_cons (ps_if (pt_cmpR (op_neD (hu64 hr)) (LamX.pe_lamcall (T := Tb) (TT := TTwhy K mg) (x := "_law_why") (a := "_law_call") (g := fA mg "_law_why") (c := cC) (P := cP) (k := 11) (Ng := ["_law_call", "e"]) (t := fun E => tCall (spKind mg) [] E (tCons (tVar 9) tNil))
     (by rfl) T._law_why.g T._law_why.F.kp lk' hcg b' sc_law_why rfl (.inl rfl) (why_gives T hq fun e => (hr.mono (by decide) : Room 2 _).deeper e) TB rfl (lam_memT hTm (by rfl)) (lam_onlyT hTo (by rfl)) (hr.mono (by decide)) (LamX.lamS_by (show LamX.lamSB (defScope slaw) _ = true from by decide +kernel)) rfl (fun _ _ _ _ _ => rfl)
     (fun A outer s H E f c' hr => pe_call Gkind (hr.mono (by decide)) (by rfl) T.kind.g T.kind.F.kp T.kind.b .nil (passes_call (takes_of rfl rfl rfl rfl) (fun _ _ _ _ h => h)) (pa_cons (pv 9) pa_nil))) (pe_tup (pa_cons pe_str (pa_cons (pe_callB (id := "repr") (call_show hq (hu64 hr)) (by rfl) T.repr (by decide +kernel) (pa_cons (pv 9) pa_nil)) pa_nil))) (nomark _)) (pss_one (ps_ret pe_bl)) pss_nil)
  (pss_cons (ps_if (pt_cmpR (op_neD (hu64 hr)) (LamX.pe_lamcall (T := Tb) (TT := TTwhy K mg) (x := "_law_why") (a := "_law_call") (g := fA mg "_law_why") (c := cC) (P := cP) (k := 11) (Ng := ["_law_call", "e"]) (t := fun E => tCall (spSlF mg) [] E (tCons (tVar 9) (tCons (tVar 10) tNil)))
     (by rfl) T._law_why.g T._law_why.F.kp lk' hcg b' sc_law_why rfl (.inl rfl) (why_gives T hq fun e => (hr.mono (by decide) : Room 2 _).deeper e) TB rfl (lam_memT hTm (by rfl)) (lam_onlyT hTo (by rfl)) (hr.mono (by decide)) (LamX.lamS_by (show LamX.lamSB (defScope slaw) _ = true from by decide +kernel)) rfl (fun _ _ _ _ _ => rfl)
     (fun A outer s H E f c' hr => pe_call Gslope_of_form (hr.mono (by decide)) (by rfl) T.slope_of_form.g T.slope_of_form.F.kp T.slope_of_form.b .nil (passes_call (takes_of rfl rfl rfl rfl) (fun _ _ _ _ h => h)) (pa_cons (pv 9) (pa_cons (pv 10) pa_nil)))) (pe_tup (pa_cons pe_str (pa_cons (pe_callB (id := "repr") (call_show hq (hu64 hr)) (by rfl) T.repr (by decide +kernel) (pa_cons (pv 9) pa_nil)) pa_nil))) (nomark _)) (pss_one (ps_ret pe_bl)) pss_nil)
  (pss_one (ps_if (pt_cmpR (op_neD (hu64 hr)) (LamX.pe_lamcall (T := Tb) (TT := TTwhy K mg) (x := "_law_why") (a := "_law_call") (g := fA mg "_law_why") (c := cC) (P := cP) (k := 11) (Ng := ["_law_call", "e"]) (t := fun E => tCall (spSlF mg) [] E (tCons (tVar 3) (tCons (tVar 10) tNil)))
     (by rfl) T._law_why.g T._law_why.F.kp lk' hcg b' sc_law_why rfl (.inl rfl) (why_gives T hq fun e => (hr.mono (by decide) : Room 2 _).deeper e) TB rfl (lam_memT hTm (by rfl)) (lam_onlyT hTo (by rfl)) (hr.mono (by decide)) (LamX.lamS_by (show LamX.lamSB (defScope slaw) _ = true from by decide +kernel)) rfl (fun _ _ _ _ _ => rfl)
     (fun A outer s H E f c' hr => pe_call Gslope_of_form (hr.mono (by decide)) (by rfl) T.slope_of_form.g T.slope_of_form.F.kp T.slope_of_form.b .nil (passes_call (takes_of rfl rfl rfl rfl) (fun _ _ _ _ h => h)) (pa_cons (pv 3) (pa_cons (pv 10) pa_nil)))) (pe_tup (pa_cons pe_str (pa_cons (pe_callB (id := "repr") (call_show hq (hu64 hr)) (by rfl) T.repr (by decide +kernel) (pa_cons (pv 10) pa_nil)) pa_nil))) (nomark _)) (pss_one (ps_ret pe_bl)) pss_nil))))))))))))))
  (pss_cons (ps_for PassesOwn.never rfl (pi_list (pe_lst (pa_cons (pe_tup (pa_cons pe_str (pa_cons (pe_tup (pa_cons pe_int (pa_cons pe_int (pa_cons pe_int (pa_cons pe_int pa_nil))))) pa_nil))) (pa_cons (pe_tup (pa_cons pe_str (pa_cons (pe_tup (pa_cons pe_int (pa_cons pe_int (pa_cons pe_int (pa_cons pe_int pa_nil))))) pa_nil))) (pa_cons (pe_tup (pa_cons pe_str (pa_cons (pe_tup (pa_cons pe_int (pa_cons pe_int (pa_cons pe_int (pa_cons pe_int pa_nil))))) pa_nil))) pa_nil))))) (pg_tup rfl (pgs_cons (pg_name (i := 11) sclaw.nd rfl (Or.inl rfl)) (pgs_cons (pg_name (i := 12) sclaw.nd rfl (Or.inl rfl)) pgs_nil)))
  (pss_one (ps_if (pt_cmpR op_ne (pe_fld (pe_call Gkind (hr.mono (by decide)) (by rfl) T.kind.g T.kind.F.kp T.kind.b .nil passL (pa_cons (pv 12) pa_nil)) (by rfl)) (pv 11) (nomark _)) (pss_one (ps_ret pe_bl)) pss_nil)))
  (pss_cons (ps_set (i := 13) sclaw.nd rfl (Or.inl rfl) (pe_make TK.mkc GKind_init (hr.mono (by decide)) (by rfl) TK.g TK.m_init.b .nil pass0 (pa_cons (pe_lst (pa_cons pe_int (pa_cons pe_int pa_nil))) (pa_cons (pe_lst (pa_cons pe_int (pa_cons pe_int pa_nil))) (pa_cons pe_str pa_nil)))))
  (pss_one (ps_ret (pe_cmpR (op_eqD (hu64 hr)) (pe_tup (pa_cons (pe_fld (pv 13) (by rfl)) (pa_cons (pe_fld (pv 13) (by rfl)) (pa_cons (pe_fld (pv 13) (by rfl)) pa_nil)))) (pe_tup (pa_cons (pe_tup (pa_cons pe_int (pa_cons pe_int pa_nil))) (pa_cons (pe_tup (pa_cons pe_int (pa_cons pe_int pa_nil))) (pa_cons pe_str pa_nil)))) (nomark _)))))))), ?_⟩
  refine q_asg (c_call (va_cons (val_var rfl) va_nil) ⟨a, ns, rfl, hS, hn, fun p c H0 s0 P0 => ?_⟩)
  have T0 := Tabs.same hT s0
  refine q_forR1 (n := 8) (va_cons val_c va_nil) (by decide) (fun n σ H => (∃ z2 z3 z4 z5 z6 z7 z8 z9 z10 z11 z12 z13, σ = [some (.ref a), some (.ref p), z2, z3, z4, z5, z6, z7, z8, z9, z10, z11, z12, z13]) ∧ PenAt H p c (500 * n) ∧ LamX.Tabs Tb H)
    ⟨⟨_, _, _, _, _, _, _, _, _, _, _, _, rfl⟩, P0, T0⟩ (fun n σ H hn z => ?_) (fun σ H z => ?_)
  · obtain ⟨⟨z2, z3, z4, z5, z6, z7, z8, z9, z10, z11, z12, z13, rfl⟩, P1, T1⟩ := z
    clear P0 T0 s0 hT hS k
    have hm : 500 * n + 500 < most := by
      have : most = 1000000000 := rfl
      omega
    refine g_name (q_asgG (tup_two (c_call (va_cons (val_var rfl) va_nil) ⟨p, c, _, rfl, P1, by omega, fun D H1 M Lm sm nD b1 P2 => l_rngU (va_1 (val_c _ ⟨3, rfl, by decide, by decide, rngB (k := 3) (R := fun D i v H => ∃ t q, v = .ref t ∧ Lo H t q ∧ Sm 10 q) (fun D i v H H' p c m ⟨t, q, e, lo, sm⟩ P b => ⟨t, q, e, b.lo P lo, sm⟩) (fun D i v H ys zs ⟨t, q, e, lo, sm⟩ h => ⟨t, q, e, lo_upd h lo, sm⟩) P2 (by decide) (by decide) (fun _ => rfl) (fun D i x H2 hi b2 P3 _ _ => fun Q q => ?_) (fun D2 ys H2 b2 P3 nD2 e2 r2 l2 => ⟨by show 2 ≤ sizeLine; decide, fun tq htq => ?_⟩)⟩))⟩)))
    · have hi : i < 3 := hi
      exact c_call (va_cons (val_var rfl) (va_cons val_c va_nil)) ⟨p, c, _, 5, rfl, P3, by omega, by decide, by decide, fun t H3 q3 lo3 sm3 b3 P4 => q _ H3 b3 P4 ⟨t, q3, rfl, lo3, sm3⟩⟩
    refine g_two (SqT.of upd_same) ?_
    obtain ⟨xs, al, sx⟩ := run_lst (S := Sm 10) r2
    have lx : xs.length = 3 := by
      have := al.len
      have l3 : ys.length = 3 := l2
      omega
    obtain ⟨f, rfl⟩ : ∃ f : Fm, xs = f.l := by
      match xs, lx with
      | [x, y, z], _ => exact ⟨⟨x, y, z⟩, rfl⟩
    have s2 := Same.new' (o := .tup [.ref D, .ref D2]) htq
    have Lf : Lst (upd H2 tq (.tup [.ref D, .ref D2])) D2 f.l := ⟨ys, s2 _ _ e2, al.imp fun _ _ ⟨t, e, lo⟩ => ⟨t, e, lo.same s2⟩⟩
    have sf : Sms 12 f.l := fun q hq => (sx q hq).mono (by decide)
    have Lm := (Lm.but b2 P2).same s2
    have T2 := Tabs.same (Tabs.but (Tabs.but T1 P1 b1) P2 b2) s2
    have P4 : PenAt (upd H2 tq (.tup [.ref D, .ref D2])) p c (500 * n + 60) := (P3.same s2).le (by show 500 * n + 40 + 3 * 3 ≤ 500 * n + 60; omega)
    revert Lf Lm T2 P4
    generalize upd H2 tq (.tup [.ref D, .ref D2]) = H4
    intro Lf Lm T2 P4
    clear s2 al sx lx l2 r2 e2 nD2 P3 b2 htq P2 b1 nD P1 T1
    -- kind
    refine q_asg (call_one (c_call (va_cons (val_var rfl) (va_cons (val_var rfl) va_nil)) ⟨p, c, D, _, M.l, rfl, P4, Lm, sm.fins (by decide), by show 4 ≤ 10; decide, by omega, fun v H5 rr b5 P5 => ⟨v, rfl, .inr ⟨M, 30, rr, sm, by decide, fun kk t d H6 s6 ki lt ld => ?_⟩⟩⟩))
    have Lf := (Lf.but b5 P4).same s6
    have Lm := (Lm.but b5 P4).same s6
    have T2 := Tabs.same (Tabs.but T2 P4 b5) s6
    have P6 := P5.same s6
    clear rr s6 b5 P5 P4
    -- its class, its word
    obtain ⟨dx, ek⟩ := id ki
    refine q_ifOrNot (tb_in ((va_cons (val_var rfl) (va_cons val_c va_nil)) _ ⟨kk, dx, _, rfl, ek, true, rfl, ?_⟩))
    rw [if_neg (by decide)]
    refine t_op ((v_kw TK (val_var rfl) ki) _ (c_call (va_cons (val_var rfl) va_nil) ⟨D, M, 30, rfl, Lm, sm, by decide, fun H7 s7 => ⟨by rfl, _, rfl, ?_⟩⟩))
    rw [if_neg (by rw [decide_eq_true rfl]; decide)]
    have Lf := Lf.same s7
    have Lm := Lm.same s7
    have T2 := Tabs.same T2 s7
    have P7 := P6.same s7
    have ki := ki.same s7
    have lt := lt.same s7
    have ld := ld.same s7
    clear ek s7 P6
    -- trace and determinant
    have nc2 : Nc 10000 3 (.tuple [qD M.tr, qD M.det]) := qsD_nc (qs := [M.tr, M.det]) (n := 200) (fun q hq => by
      simp only [List.mem_cons, List.not_mem_nil, or_false] at hq
      rcases hq with rfl | rfl
      · exact sm.tr
      · exact sm.det) (by decide) (by show 2 ≤ 10; decide)
    refine q_un (t_op (cb_one (tup_two ((v_kt TK (val_var rfl) ki) _ ((v_kd TK (val_var rfl) ki) _ ⟨by show 2 ≤ sizeLine; decide, fun q1 h1 => show_at (.tup (SqT.of upd_same) (.cons (lt.same (Same.new' h1)).dd (.cons (ld.same (Same.new' h1)).dd .nil))) nc2 ?_⟩)))))
    have s1 := Same.new' (o := .tup [.ref t, .ref d]) h1
    refine cb_one (tup_two (c_call (va_cons (val_var rfl) va_nil) ⟨D, M, 30, rfl, Lm.same s1, sm, by decide, fun t2 H8 s8 lt2 => c_call (va_cons (val_var rfl) va_nil) ⟨D, M, 30, rfl, (Lm.same s1).same s8, sm, by decide, fun d2 H9 s9 ld2 => ⟨by show 2 ≤ sizeLine; decide, fun q2 h2 => show_at (.tup (SqT.of upd_same) (.cons ((lt2.same s9).same (Same.new' h2)).dd (.cons (ld2.same (Same.new' h2)).dd .nil))) nc2 ⟨by rfl, _, rfl, ?_⟩⟩⟩⟩))
    rw [if_neg (by rw [decide_eq_true rfl]; decide)]
    have S2 := ((s1.trans s8).trans s9).trans (Same.new' (o := .tup [.ref t2, .ref d2]) h2)
    have Lf := Lf.same S2
    have Lm := Lm.same S2
    have T2 := Tabs.same T2 S2
    have P8 := P7.same S2
    revert Lf Lm T2 P8
    generalize upd H9 q2 (.tup [.ref t2, .ref d2]) = H10
    intro Lf Lm T2 P8
    clear S2 s1 s8 s9 h1 h2 ki lt ld lt2 ld2 P7 nc2
    -- the slope
    refine q_asg (call_1 (c_call (va_cons (val_var rfl) (va_cons (val_var rfl) va_nil)) ⟨p, c, D, _, M.l, rfl, P8, Lm, sm.fins (by decide), by show 4 ≤ 10; decide, by omega, fun v1 H11 rr1 b11 P11 => va_1 (c_call (va_cons (val_var rfl) (va_cons (val_var rfl) va_nil)) ⟨p, c, D2, _, f.l, rfl, P11, Lf.but b11 P8, sf.fins (by decide), by show 3 ≤ 10; decide, by omega, fun v2 H12 rr2 b12 P12 => ?_⟩)⟩))
    refine ⟨v1, v2, rfl, .inr ⟨M, rr1.but P11 b12, .inr ⟨f, 30, rr2, sm, sf.mono (by decide), by decide, fun ps H13 s13 tp => ?_⟩⟩⟩
    have Lf := ((Lf.but b11 P8).but b12 P11).same s13
    have Lm := ((Lm.but b11 P8).but b12 P11).same s13
    have T2 := Tabs.same (Tabs.but (Tabs.but T2 P8 b11) P11 b12) s13
    have P13 := P12.same s13
    clear rr1 rr2 b11 b12 s13 P11 P12 P8
    have nc3 : Nc 10000 3 (.tuple ((slp M f).l.map qD)) := qsD_nc (sm.slp sf) (by decide) (by show 3 ≤ 10; decide)
    have tdd : ∀ {H : Hp} {q : Addr}, Tup H q (slp M f).l → Dd K H (.ref q) (.tuple ((slp M f).l.map qD)) := fun ⟨vs, e, al⟩ => .tup (SqT.of e) (los_dd al)
    refine q_un (t_op (cb_one ((val_var rfl) _ (show_at (tdd tp) nc3 (cb_one (c_call (va_cons (val_var rfl) (va_cons (val_var rfl) va_nil)) ⟨D, D2, M, f, rfl, Lm, Lf, sm, sf, fun ps2 H14 s14 tp2 => show_at (tdd tp2) nc3 ⟨by rfl, _, rfl, ?_⟩⟩))))))
    rw [if_neg (by rw [decide_eq_true rfl]; decide)]
    have Lm := Lm.same s14
    have T2 := Tabs.same T2 s14
    have P14 := P13.same s14
    clear Lf tp tp2 s14 P13 nc3 tdd
    -- what is no matrix
    refine q_asg (l_s (vp_rows (K := K) rfl _ _ _ P14 (by omega) fun vs H15 b15 P15 os l => ⟨by rw [l]; decide, fun R hR => ?_⟩))
    have sR := Same.new' (o := .lst vs) hR
    have Lm := (Lm.but b15 P14).same sR
    have T2 := Tabs.same (Tabs.but T2 P14 b15) sR
    have P16 := P15.same sR
    have eR : (upd H15 R (.lst vs)) R = some (.lst vs) := upd_same
    have os : ∀ v ∈ vs, NoR K 4 (hole p (upd H15 R (.lst vs))) v := fun v hv => NoR.stab _ _ _ (os v hv) (hole_but (But.of sR))
    revert Lm T2 P16 eR os
    generalize upd H15 R (.lst vs) = H16
    intro Lm T2 P16 eR os
    clear sR hR P15 b15 P14
    refine q_asg (c_call (va_cons (val_var rfl) (va_cons (val_var rfl) va_nil)) ⟨p, c, R, vs, _, rfl, P16, by omega, SqL.of eR, by rw [l]; decide, by rw [l]; decide, fun v H17 hv b17 P17 => ?_⟩)
    have ov := NoR.stab _ _ _ (os v hv) (hole_but b17)
    have Lm := Lm.but b17 P16
    have T2 := Tabs.but T2 P16 b17
    clear hv os eR b17 P16
    refine q_asg (call_1 ((val_var rfl) _ (va_1 (l_s (vp_bads (K := K) rfl _ _ _ P17 (by omega) fun us H18 b18 P18 os2 l2 => ⟨by rw [l2]; decide, fun R2 hR2 => ⟨p, c, R2, us, _, rfl, P18.same (Same.new' hR2), by omega, SqL.of upd_same, by rw [l2]; decide, by rw [l2]; decide, fun u H20 hu b20 P20 => ?_⟩⟩)))))
    have sR2 := Same.new' (o := .lst us) hR2
    have B20 := (b18.trans (But.of sR2)).trans b20
    have ov := NoR.stab _ _ _ ov (hole_but B20)
    have ou := NoR.stab _ _ _ (os2 u hu) (hole_but ((But.of sR2).trans b20))
    have Lm := ((Lm.but b18 P17).same sR2).but b20 (P18.same sR2)
    have T2 := Tabs.but (Tabs.same (Tabs.but T2 P17 b18) sR2) (P18.same sR2) b20
    clear B20 hu os2 b20 P18 b18 P17 sR2 hR2 l2 l
    -- what the calls raise
    have rm := (Lm.rwr sm (by decide)).bare
    have ov := NoR.stab _ _ _ ov (hole_bare (p := p) (H := H20))
    have ou := NoR.stab _ _ _ ou (hole_bare (p := p) (H := H20))
    obtain ⟨qv, dv, fv⟩ := ov
    obtain ⟨qu, du, fu⟩ := ou
    have Pb := P20.bare
    clear Lm P20
    refine t_unless (why_rowne rfl (bare_no H20) (bare_in H20) T2 fv (fun H1 E Q1 s1 bad => c_call (va_cons (val_var rfl) va_nil) ⟨v, rfl, .inl ⟨qv.same s1, bad⟩⟩) fun H21 s21 T21 => ⟨false, rfl, ?_⟩)
    rw [if_neg (by decide)]
    refine t_unless (why_rowne rfl (bare_no H20) s21 T21 fv (fun H1 E Q1 s1 bad => c_call (va_cons (val_var rfl) (va_cons (val_var rfl) va_nil)) ⟨v, u, rfl, .inl ⟨qv.same s1, .inl (qu.same s1), bad⟩⟩) fun H22 s22 T22 => ⟨false, rfl, ?_⟩)
    rw [if_neg (by decide)]
    refine t_unless1 (why_rowne rfl (bare_no H20) s22 T22 fu (fun H1 E Q1 s1 bad => c_call (va_cons (val_var rfl) (va_cons (val_var rfl) va_nil)) ⟨.ref D, u, rfl, .inr ⟨M, rm.same s1, .inl ⟨qu.same s1, bad⟩⟩⟩) fun H23 s23 T23 => ⟨false, rfl, ?_⟩)
    rw [if_neg (by decide)]
    exact ⟨⟨_, _, _, _, _, _, _, _, _, _, _, _, rfl⟩, (Pb.same s23).le (by omega), T23⟩
  · obtain ⟨⟨z2, z3, z4, z5, z6, z7, z8, z9, z10, z11, z12, z13, rfl⟩, P1, T1⟩ := z
    refine q_forRawL (l_s (va_x (l_wrow (by decide) (by decide) (by decide) (by decide) w_still fun v1 H1 s1 w1 => va_x (l_wrow (by decide) (by decide) (by decide) (by decide) w_sliding fun v2 H2 s2 w2 => va_1 (l_wrow (by decide) (by decide) (by decide) (by decide) w_out fun v3 H3 s3 w3 => ⟨by show 3 ≤ sizeLine; decide, fun R hR => ?_⟩)))))
    have sR := Same.new' (o := .lst [v1, v2, v3]) hR
    have all : ∀ v ∈ [v1, v2, v3], WordRow (upd H3 R (.lst [v1, v2, v3])) v := fun v hv => by
      simp only [List.mem_cons, List.not_mem_nil, or_false] at hv
      rcases hv with rfl | rfl | rfl
      · exact (w1.same (s2.trans s3)).same sR
      · exact (w2.same s3).same sR
      · exact w3.same sR
    have eR : (upd H3 R (.lst [v1, v2, v3])) R = some (.lst [v1, v2, v3]) := upd_same
    revert all eR
    generalize upd H3 R (.lst [v1, v2, v3]) = H4
    intro all eR
    clear sR hR w1 w2 w3 s1 s2 s3 P1 T1 P0 T0 s0 hT hS
    refine rawL_of (SqL.of eR) (fun i σ H => (∃ z11 z12, σ = [some (.ref a), some (.ref p), z2, z3, z4, z5, z6, z7, z8, z9, z10, z11, z12, z13]) ∧ L2.Same H4 H) ⟨⟨_, _, rfl⟩, L2.Same.refl _⟩ (fun i σ H _ z => SqL.of (z.2 _ _ eR)) (fun i x σ H hx z => ?_) (fun σ H z => ?_)
    · obtain ⟨⟨z11, z12, rfl⟩, s⟩ := z
      obtain ⟨T', R', m, rfl, eT, rr, sm⟩ := (all x (get_mem hx)).same s
      refine g_two (SqT.of eT) ?_
      refine t_unless1 (op_in (show tFld K _ "word" _ _ _ from c_call (va_cons (val_var rfl) va_nil) ⟨.ref R', rfl, .inr ⟨m, 3, rr, sm, by decide, fun kk t d H6 s6 ki lt ld => ?_⟩⟩))
      obtain ⟨dx, ek⟩ := ki
      refine ⟨kk, _, dx, _, _, rfl, ek, TK.cls, TK.no3, ki_w, (val_var rfl) _ ⟨by rfl, _, rfl, ?_⟩⟩
      rw [if_neg (by rw [decide_eq_true rfl]; decide)]
      exact ⟨⟨_, _, rfl⟩, s.trans s6⟩
    · obtain ⟨⟨z11, z12, rfl⟩, s⟩ := z
      refine q_asg (mk_one fun kk t1 d1 H' et ed ki => ?_)
      refine r_ret (op_in (show tTup _ _ _ _ from va_s (v_kt TK (val_var rfl) ki) (va_s (v_kd TK (val_var rfl) ki) (va_s (v_kw TK (val_var rfl) ki) ⟨by show 3 ≤ sizeLine; decide, fun q1 hq1 => (show tTup _ _ _ _ from va_x (l_pr fun b1 H5 s5 e5 => va_x (l_pr fun b2 H6 s6 e6 => va_s val_c ⟨by show 3 ≤ sizeLine; decide, fun q2 hq2 => ?_⟩)))⟩))))
      have n1 := Same.new' (o := .tup [.ref t1, .ref d1, .str "x"]) hq1
      have n2 := Same.new' (o := .tup [.ref b1, .ref b2, .str "x"]) hq2
      have S := ((n1.trans s5).trans s6).trans n2
      have pr : ∀ {H : Hp} {q : Addr} {i j : Int}, H q = some (.tup [.int i, .int j]) → Dp K H (.ref q) (.tuple [.int i, .int j]) := fun e => .tup (SqT.of e) (.cons (.int _) (.cons (.int _) .nil))
      have tr : ∀ {H : Hp} {q x y : Addr}, H q = some (.tup [.ref x, .ref y, .str "x"]) → H x = some (.tup [.int 1, .int 2]) → H y = some (.tup [.int 3, .int 4]) → Dp K H (.ref q) (.tuple [.tuple [.int 1, .int 2], .tuple [.int 3, .int 4], .str "x"]) := fun e e1 e2 => .tup (SqT.of e) (.cons (pr e1) (.cons (pr e2) (.cons (.str _) .nil)))
      refine ⟨_, _, tr (((s5.trans s6).trans n2) _ _ upd_same) (S _ _ et) (S _ _ ed), tr upd_same ((s6.trans n2) _ _ e5) (n2 _ _ e6), by decide +kernel, by decide +kernel, ?_⟩
      rw [show PyData.eqv (.tuple [.tuple [.int 1, .int 2], .tuple [.int 3, .int 4], .str "x"]) (.tuple [.tuple [.int 1, .int 2], .tuple [.int 3, .int 4], .str "x"]) = true from by decide +kernel]
      exact k _
end
end LW

namespace LW
open PySem PySem.Spec PyProof.Rows L2 GL
theorem Me.mk' {K : PySem.W.Frag} {C f : Addr} {m q : Str} {st : Stmt} {ps : List Str} {oc : Value} {od an : Option Addr} {osl : Array (Option Value)} {kV doc pm cdv ct : Value} (i : PySem.W.findIn K (.ref C) m = some (some (.ref f))) (n : PySem.W.isFn K (.ref f) = true)
    (l : K.lookup f = some ⟨oc, od, .func (PySem.W.fnOf m q (defArgs st) (defBody st) (defScope st) .none kV doc pm an cdv ct), osl⟩) (c : PySem.W.codeIn K cdv q = true) (k : PySem.W.keepIn K (.ref f) = true)
    (bi : ∀ (kV doc pm : Value) (an : Option Addr) (cdv ct : Value) (us : List Value), us.length = ps.length → bindArgs (PySem.W.fnOf m q (defArgs st) (defBody st) (defScope st) .none kV doc pm an cdv ct) ⟨us, []⟩ = pure (ps.zip us)) : Me K C m q st ps := by
  have c2 : mA K C m = f := mA_of i
  have c3 := fDat_of l
  have F := fun_mk (st := st) l c k
  exact ⟨by rw [c2]; exact i, by rw [c2]; exact n, by rw [c2, c3]; exact F, by rw [c2, c3]; exact F.binds bi⟩
theorem kindT_of {K : PySem.W.Frag} {mg : Str → Option Value} {C f : Addr} (g : mg "Kind" = some (.ref C)) (cls : Cls K C) (mk : Mk K C f) (n1 : NoAttr K C "trace") (n2 : NoAttr K C "determinant") (n3 : NoAttr K C "word")
    (m0 : Me K C "__init__" "Kind.__init__" (inClass (top 27) 0) ["self", "trace", "determinant", "word"]) : KindT K mg := by
  obtain rfl : C = kiA mg := (fA_of g).symm
  have e : f = mA K (kiA mg) "__init__" := (mA_of mk.init).symm
  subst e
  exact ⟨g, cls, mk, n1, n2, n3, m0⟩
theorem fin_law {P : Program} {w : World} {K : PySem.W.Frag} {mg : Str → Option Value} {h : Heap} {cC cP : Addr} (T : Txt K mg) (TK : KindT K mg) (TI : C8.InsC K (fA mg "Kind")) (h1 : (fDat K (fA mg "law")).code = .ref cC)
    (tc : h.get? cP = some { cls := .none, data := .fields #[] }) (nc : K.lookup cP = none) (kc : PySem.W.codeHdIn K cC cP = true) :
    GL.LawT P w K 17 63 "_law_script" mg (fA mg "law") h := by
  let Tb : List (Addr × Str) := [(cP, (("law" : Str) ++ (".<locals>." : Str)) ++ ("<lambda>" : Str))]
  refine ⟨_, [(cC, cP)], spLaw (K := K) Tb, fun p hp => ?_, T.lb, fun H a ns hl hH hS => ⟨a, ns, rfl, hS, hl, fun p hp => ?_, fun _ => rfl⟩, fun base _ _ TB => ?_⟩
  · rw [List.mem_singleton.mp hp]
    exact ⟨tc, nc, kc⟩
  · rw [List.mem_singleton.mp hp]
    exact LamX.TabS.nil (hH (cC, cP) (List.mem_cons_self ..))
  · refine ok_law (Tb := Tb) T TK TI (TB (cC, cP) (List.mem_cons_self ..)) h1 (List.mem_cons_self ..) (fun p hp e => ?_)
    rw [List.mem_singleton.mp hp]
end LW

namespace LW
open PySem PySem.Spec PyProof.Rows L2 GL
theorem facts {K : PySem.W.Frag} {h : Heap} {mg : Str → Option Value} {Z : Prop} (X : K.In h) (G : h.Ns mainGlobals mg)
    {f_is_ratio : Addr} {od_is_ratio an_is_ratio : Option Addr} {sl_is_ratio : Array (Option Value)} {oc_is_ratio kV_is_ratio dc_is_ratio pm_is_ratio cd_is_ratio ct_is_ratio : Value} {f_told : Addr} {od_told an_told : Option Addr} {sl_told : Array (Option Value)} {oc_told kV_told dc_told pm_told cd_told ct_told : Value} {f_plus : Addr} {od_plus an_plus : Option Addr} {sl_plus : Array (Option Value)} {oc_plus kV_plus dc_plus pm_plus cd_plus ct_plus : Value} {f_minus : Addr} {od_minus an_minus : Option Addr} {sl_minus : Array (Option Value)} {oc_minus kV_minus dc_minus pm_minus cd_minus ct_minus : Value} {f_times : Addr} {od_times an_times : Option Addr} {sl_times : Array (Option Value)} {oc_times kV_times dc_times pm_times cd_times ct_times : Value} {f_lower : Addr} {od_lower an_lower : Option Addr} {sl_lower : Array (Option Value)} {oc_lower kV_lower dc_lower pm_lower cd_lower ct_lower : Value} {f_is_integer : Addr} {od_is_integer an_is_integer : Option Addr} {sl_is_integer : Array (Option Value)} {oc_is_integer kV_is_integer dc_is_integer pm_is_integer cd_is_integer ct_is_integer : Value} {f_parts : Addr} {od_parts an_parts : Option Addr} {sl_parts : Array (Option Value)} {oc_parts kV_parts dc_parts pm_parts cd_parts ct_parts : Value} {f_lowest : Addr} {od_lowest an_lowest : Option Addr} {sl_lowest : Array (Option Value)} {oc_lowest kV_lowest dc_lowest pm_lowest cd_lowest ct_lowest : Value} {f_is_row : Addr} {od_is_row an_is_row : Option Addr} {sl_is_row : Array (Option Value)} {oc_is_row kV_is_row dc_is_row pm_is_row cd_is_row ct_is_row : Value} {f_is_row_of : Addr} {od_is_row_of an_is_row_of : Option Addr} {sl_is_row_of : Array (Option Value)} {oc_is_row_of kV_is_row_of dc_is_row_of pm_is_row_of cd_is_row_of ct_is_row_of : Value} {f_pair_of : Addr} {od_pair_of an_pair_of : Option Addr} {sl_pair_of : Array (Option Value)} {oc_pair_of kV_pair_of dc_pair_of pm_pair_of cd_pair_of ct_pair_of : Value} {f_held : Addr} {od_held an_held : Option Addr} {sl_held : Array (Option Value)} {oc_held kV_held dc_held pm_held cd_held ct_held : Value} {f_row_of : Addr} {od_row_of an_row_of : Option Addr} {sl_row_of : Array (Option Value)} {oc_row_of kV_row_of dc_row_of pm_row_of cd_row_of ct_row_of : Value} {f_trace_of : Addr} {od_trace_of an_trace_of : Option Addr} {sl_trace_of : Array (Option Value)} {oc_trace_of kV_trace_of dc_trace_of pm_trace_of cd_trace_of ct_trace_of : Value} {f_determinant_of : Addr} {od_determinant_of an_determinant_of : Option Addr} {sl_determinant_of : Array (Option Value)} {oc_determinant_of kV_determinant_of dc_determinant_of pm_determinant_of cd_determinant_of ct_determinant_of : Value} {f_slope_of : Addr} {od_slope_of an_slope_of : Option Addr} {sl_slope_of : Array (Option Value)} {oc_slope_of kV_slope_of dc_slope_of pm_slope_of cd_slope_of ct_slope_of : Value} {f_kind : Addr} {od_kind an_kind : Option Addr} {sl_kind : Array (Option Value)} {oc_kind kV_kind dc_kind pm_kind cd_kind ct_kind : Value} {f_slope_of_form : Addr} {od_slope_of_form an_slope_of_form : Option Addr} {sl_slope_of_form : Array (Option Value)} {oc_slope_of_form kV_slope_of_form dc_slope_of_form pm_slope_of_form cd_slope_of_form ct_slope_of_form : Value} {f_word : Addr} {od_word an_word : Option Addr} {sl_word : Array (Option Value)} {oc_word kV_word dc_word pm_word cd_word ct_word : Value} {f_law_pen : Addr} {od_law_pen an_law_pen : Option Addr} {sl_law_pen : Array (Option Value)} {oc_law_pen kV_law_pen dc_law_pen pm_law_pen cd_law_pen ct_law_pen : Value} {f_law_draw : Addr} {od_law_draw an_law_draw : Option Addr} {sl_law_draw : Array (Option Value)} {oc_law_draw kV_law_draw dc_law_draw pm_law_draw cd_law_draw ct_law_draw : Value} {f_law_pick : Addr} {od_law_pick an_law_pick : Option Addr} {sl_law_pick : Array (Option Value)} {oc_law_pick kV_law_pick dc_law_pick pm_law_pick cd_law_pick ct_law_pick : Value} {f_law_gcd : Addr} {od_law_gcd an_law_gcd : Option Addr} {sl_law_gcd : Array (Option Value)} {oc_law_gcd kV_law_gcd dc_law_gcd pm_law_gcd cd_law_gcd ct_law_gcd : Value} {f_law_q : Addr} {od_law_q an_law_q : Option Addr} {sl_law_q : Array (Option Value)} {oc_law_q kV_law_q dc_law_q pm_law_q cd_law_q ct_law_q : Value} {f_law_plus : Addr} {od_law_plus an_law_plus : Option Addr} {sl_law_plus : Array (Option Value)} {oc_law_plus kV_law_plus dc_law_plus pm_law_plus cd_law_plus ct_law_plus : Value} {f_law_minus : Addr} {od_law_minus an_law_minus : Option Addr} {sl_law_minus : Array (Option Value)} {oc_law_minus kV_law_minus dc_law_minus pm_law_minus cd_law_minus ct_law_minus : Value} {f_law_times : Addr} {od_law_times an_law_times : Option Addr} {sl_law_times : Array (Option Value)} {oc_law_times kV_law_times dc_law_times pm_law_times cd_law_times ct_law_times : Value} {f_law_passed : Addr} {od_law_passed an_law_passed : Option Addr} {sl_law_passed : Array (Option Value)} {oc_law_passed kV_law_passed dc_law_passed pm_law_passed cd_law_passed ct_law_passed : Value} {f_law_ratio : Addr} {od_law_ratio an_law_ratio : Option Addr} {sl_law_ratio : Array (Option Value)} {oc_law_ratio kV_law_ratio dc_law_ratio pm_law_ratio cd_law_ratio ct_law_ratio : Value} {f_law_v_plain : Addr} {od_law_v_plain an_law_v_plain : Option Addr} {sl_law_v_plain : Array (Option Value)} {oc_law_v_plain kV_law_v_plain dc_law_v_plain pm_law_v_plain cd_law_v_plain ct_law_v_plain : Value} {f_law_v_plus : Addr} {od_law_v_plus an_law_v_plus : Option Addr} {sl_law_v_plus : Array (Option Value)} {oc_law_v_plus kV_law_v_plus dc_law_v_plus pm_law_v_plus cd_law_v_plus ct_law_v_plus : Value} {f_law_v_times : Addr} {od_law_v_times an_law_v_times : Option Addr} {sl_law_v_times : Array (Option Value)} {oc_law_v_times kV_law_v_times dc_law_v_times pm_law_v_times cd_law_v_times ct_law_v_times : Value} {f_law_v_slope : Addr} {od_law_v_slope an_law_v_slope : Option Addr} {sl_law_v_slope : Array (Option Value)} {oc_law_v_slope kV_law_v_slope dc_law_v_slope pm_law_v_slope cd_law_v_slope ct_law_v_slope : Value} {f_law_why : Addr} {od_law_why an_law_why : Option Addr} {sl_law_why : Array (Option Value)} {oc_law_why kV_law_why dc_law_why pm_law_why cd_law_why ct_law_why : Value} {f_law_any : Addr} {od_law_any an_law_any : Option Addr} {sl_law_any : Array (Option Value)} {oc_law_any kV_law_any dc_law_any pm_law_any cd_law_any ct_law_any : Value} {f_law_shown : Addr} {od_law_shown an_law_shown : Option Addr} {sl_law_shown : Array (Option Value)} {oc_law_shown kV_law_shown dc_law_shown pm_law_shown cd_law_shown ct_law_shown : Value} {f_law_matrix : Addr} {od_law_matrix an_law_matrix : Option Addr} {sl_law_matrix : Array (Option Value)} {oc_law_matrix kV_law_matrix dc_law_matrix pm_law_matrix cd_law_matrix ct_law_matrix : Value} {f_law_trace : Addr} {od_law_trace an_law_trace : Option Addr} {sl_law_trace : Array (Option Value)} {oc_law_trace kV_law_trace dc_law_trace pm_law_trace cd_law_trace ct_law_trace : Value} {f_law_det : Addr} {od_law_det an_law_det : Option Addr} {sl_law_det : Array (Option Value)} {oc_law_det kV_law_det dc_law_det pm_law_det cd_law_det ct_law_det : Value} {f_law_form_slope : Addr} {od_law_form_slope an_law_form_slope : Option Addr} {sl_law_form_slope : Array (Option Value)} {oc_law_form_slope kV_law_form_slope dc_law_form_slope pm_law_form_slope cd_law_form_slope ct_law_form_slope : Value} {f_law_word : Addr} {od_law_word an_law_word : Option Addr} {sl_law_word : Array (Option Value)} {oc_law_word kV_law_word dc_law_word pm_law_word cd_law_word ct_law_word : Value} {f_law_some : Addr} {od_law_some an_law_some : Option Addr} {sl_law_some : Array (Option Value)} {oc_law_some kV_law_some dc_law_some pm_law_some cd_law_some ct_law_some : Value} {f_law : Addr} {od_law an_law : Option Addr} {sl_law : Array (Option Value)} {oc_law kV_law dc_law pm_law ct_law : Value} {cC_law : Addr} {C_BadText : Addr} {fI_BadText : Addr} {odI_BadText anI_BadText : Option Addr} {slI_BadText : Array (Option Value)} {ocI_BadText kVI_BadText dcI_BadText pmI_BadText cdI_BadText ctI_BadText : Value} {nmI_BadText qI_BadText : Str} {NI_BadText : Addr} {bsI_BadText bmI_BadText : List Value} {snI_BadText : List Str} {subI_BadText : List Value} {abI_BadText : Bool} {colI_BadText : Option Bool} {ddI_BadText : Option Addr} {m0I_BadText m1I_BadText m2I_BadText m3I_BadText m5I_BadText : Option Value} {C_BadNumber : Addr} {fI_BadNumber : Addr} {odI_BadNumber anI_BadNumber : Option Addr} {slI_BadNumber : Array (Option Value)} {ocI_BadNumber kVI_BadNumber dcI_BadNumber pmI_BadNumber cdI_BadNumber ctI_BadNumber : Value} {nmI_BadNumber qI_BadNumber : Str} {NI_BadNumber : Addr} {bsI_BadNumber bmI_BadNumber : List Value} {snI_BadNumber : List Str} {subI_BadNumber : List Value} {abI_BadNumber : Bool} {colI_BadNumber : Option Bool} {ddI_BadNumber : Option Addr} {m0I_BadNumber m1I_BadNumber m2I_BadNumber m3I_BadNumber m5I_BadNumber : Option Value} {C_BadRow : Addr} {fI_BadRow : Addr} {odI_BadRow anI_BadRow : Option Addr} {slI_BadRow : Array (Option Value)} {ocI_BadRow kVI_BadRow dcI_BadRow pmI_BadRow cdI_BadRow ctI_BadRow : Value} {nmI_BadRow qI_BadRow : Str} {NI_BadRow : Addr} {bsI_BadRow bmI_BadRow : List Value} {snI_BadRow : List Str} {subI_BadRow : List Value} {abI_BadRow : Bool} {colI_BadRow : Option Bool} {ddI_BadRow : Option Addr} {m0I_BadRow m1I_BadRow m2I_BadRow m3I_BadRow m5I_BadRow : Option Value} {C_Kind : Addr} {fMKind_init : Addr} {odMKind_init anMKind_init : Option Addr} {slMKind_init : Array (Option Value)} {ocMKind_init kVMKind_init dcMKind_init pmMKind_init cdMKind_init ctMKind_init : Value}
    (z_int : PySem.W.nsIn K mainGlobals "int" = some none)
    (z_bool : PySem.W.nsIn K mainGlobals "bool" = some none)
    (z_list : PySem.W.nsIn K mainGlobals "list" = some none)
    (z_tuple : PySem.W.nsIn K mainGlobals "tuple" = some none)
    (z_len : PySem.W.nsIn K mainGlobals "len" = some none)
    (z_range : PySem.W.nsIn K mainGlobals "range" = some none)
    (z_isinstance : PySem.W.nsIn K mainGlobals "isinstance" = some none)
    (z_repr : PySem.W.nsIn K mainGlobals "repr" = some none)
    (z_abs : PySem.W.nsIn K mainGlobals "abs" = some none)
    (z_all : PySem.W.nsIn K mainGlobals "all" = some none)
    (z_any : PySem.W.nsIn K mainGlobals "any" = some none)
    (z_sorted : PySem.W.nsIn K mainGlobals "sorted" = some none)
    (z_dict : PySem.W.nsIn K mainGlobals "dict" = some none)
    (g_gcd : PySem.W.nsIn K mainGlobals "gcd" = some (some (.builtin "math.gcd")))
    (a_is_ratio : PySem.W.nsIn K mainGlobals "is_ratio" = some (some (.ref f_is_ratio)))
    (l_is_ratio : K.lookup f_is_ratio = some ⟨oc_is_ratio, od_is_ratio, .func (PySem.W.fnOf "is_ratio" "is_ratio" (defArgs sis_ratio) (defBody sis_ratio) (defScope sis_ratio) .none kV_is_ratio dc_is_ratio pm_is_ratio an_is_ratio cd_is_ratio ct_is_ratio), sl_is_ratio⟩)
    (c_is_ratio : PySem.W.codeIn K cd_is_ratio "is_ratio" = true)
    (k_is_ratio : PySem.W.keepIn K (.ref f_is_ratio) = true)
    (a_told : PySem.W.nsIn K mainGlobals "told" = some (some (.ref f_told)))
    (l_told : K.lookup f_told = some ⟨oc_told, od_told, .func (PySem.W.fnOf "told" "told" (defArgs stold) (defBody stold) (defScope stold) .none kV_told dc_told pm_told an_told cd_told ct_told), sl_told⟩)
    (c_told : PySem.W.codeIn K cd_told "told" = true)
    (k_told : PySem.W.keepIn K (.ref f_told) = true)
    (a_plus : PySem.W.nsIn K mainGlobals "plus" = some (some (.ref f_plus)))
    (l_plus : K.lookup f_plus = some ⟨oc_plus, od_plus, .func (PySem.W.fnOf "plus" "plus" (defArgs splus) (defBody splus) (defScope splus) .none kV_plus dc_plus pm_plus an_plus cd_plus ct_plus), sl_plus⟩)
    (c_plus : PySem.W.codeIn K cd_plus "plus" = true)
    (k_plus : PySem.W.keepIn K (.ref f_plus) = true)
    (a_minus : PySem.W.nsIn K mainGlobals "minus" = some (some (.ref f_minus)))
    (l_minus : K.lookup f_minus = some ⟨oc_minus, od_minus, .func (PySem.W.fnOf "minus" "minus" (defArgs sminus) (defBody sminus) (defScope sminus) .none kV_minus dc_minus pm_minus an_minus cd_minus ct_minus), sl_minus⟩)
    (c_minus : PySem.W.codeIn K cd_minus "minus" = true)
    (k_minus : PySem.W.keepIn K (.ref f_minus) = true)
    (a_times : PySem.W.nsIn K mainGlobals "times" = some (some (.ref f_times)))
    (l_times : K.lookup f_times = some ⟨oc_times, od_times, .func (PySem.W.fnOf "times" "times" (defArgs stimes) (defBody stimes) (defScope stimes) .none kV_times dc_times pm_times an_times cd_times ct_times), sl_times⟩)
    (c_times : PySem.W.codeIn K cd_times "times" = true)
    (k_times : PySem.W.keepIn K (.ref f_times) = true)
    (a_lower : PySem.W.nsIn K mainGlobals "lower" = some (some (.ref f_lower)))
    (l_lower : K.lookup f_lower = some ⟨oc_lower, od_lower, .func (PySem.W.fnOf "lower" "lower" (defArgs slower) (defBody slower) (defScope slower) .none kV_lower dc_lower pm_lower an_lower cd_lower ct_lower), sl_lower⟩)
    (c_lower : PySem.W.codeIn K cd_lower "lower" = true)
    (k_lower : PySem.W.keepIn K (.ref f_lower) = true)
    (a_is_integer : PySem.W.nsIn K mainGlobals "is_integer" = some (some (.ref f_is_integer)))
    (l_is_integer : K.lookup f_is_integer = some ⟨oc_is_integer, od_is_integer, .func (PySem.W.fnOf "is_integer" "is_integer" (defArgs sis_integer) (defBody sis_integer) (defScope sis_integer) .none kV_is_integer dc_is_integer pm_is_integer an_is_integer cd_is_integer ct_is_integer), sl_is_integer⟩)
    (c_is_integer : PySem.W.codeIn K cd_is_integer "is_integer" = true)
    (k_is_integer : PySem.W.keepIn K (.ref f_is_integer) = true)
    (a_parts : PySem.W.nsIn K mainGlobals "_parts" = some (some (.ref f_parts)))
    (l_parts : K.lookup f_parts = some ⟨oc_parts, od_parts, .func (PySem.W.fnOf "_parts" "_parts" (defArgs s_parts) (defBody s_parts) (defScope s_parts) .none kV_parts dc_parts pm_parts an_parts cd_parts ct_parts), sl_parts⟩)
    (c_parts : PySem.W.codeIn K cd_parts "_parts" = true)
    (k_parts : PySem.W.keepIn K (.ref f_parts) = true)
    (a_lowest : PySem.W.nsIn K mainGlobals "_lowest" = some (some (.ref f_lowest)))
    (l_lowest : K.lookup f_lowest = some ⟨oc_lowest, od_lowest, .func (PySem.W.fnOf "_lowest" "_lowest" (defArgs s_lowest) (defBody s_lowest) (defScope s_lowest) .none kV_lowest dc_lowest pm_lowest an_lowest cd_lowest ct_lowest), sl_lowest⟩)
    (c_lowest : PySem.W.codeIn K cd_lowest "_lowest" = true)
    (k_lowest : PySem.W.keepIn K (.ref f_lowest) = true)
    (a_is_row : PySem.W.nsIn K mainGlobals "is_row" = some (some (.ref f_is_row)))
    (l_is_row : K.lookup f_is_row = some ⟨oc_is_row, od_is_row, .func (PySem.W.fnOf "is_row" "is_row" (defArgs sis_row) (defBody sis_row) (defScope sis_row) .none kV_is_row dc_is_row pm_is_row an_is_row cd_is_row ct_is_row), sl_is_row⟩)
    (c_is_row : PySem.W.codeIn K cd_is_row "is_row" = true)
    (k_is_row : PySem.W.keepIn K (.ref f_is_row) = true)
    (a_is_row_of : PySem.W.nsIn K mainGlobals "is_row_of" = some (some (.ref f_is_row_of)))
    (l_is_row_of : K.lookup f_is_row_of = some ⟨oc_is_row_of, od_is_row_of, .func (PySem.W.fnOf "is_row_of" "is_row_of" (defArgs sis_row_of) (defBody sis_row_of) (defScope sis_row_of) .none kV_is_row_of dc_is_row_of pm_is_row_of an_is_row_of cd_is_row_of ct_is_row_of), sl_is_row_of⟩)
    (c_is_row_of : PySem.W.codeIn K cd_is_row_of "is_row_of" = true)
    (k_is_row_of : PySem.W.keepIn K (.ref f_is_row_of) = true)
    (a_pair_of : PySem.W.nsIn K mainGlobals "pair_of" = some (some (.ref f_pair_of)))
    (l_pair_of : K.lookup f_pair_of = some ⟨oc_pair_of, od_pair_of, .func (PySem.W.fnOf "pair_of" "pair_of" (defArgs spair_of) (defBody spair_of) (defScope spair_of) .none kV_pair_of dc_pair_of pm_pair_of an_pair_of cd_pair_of ct_pair_of), sl_pair_of⟩)
    (c_pair_of : PySem.W.codeIn K cd_pair_of "pair_of" = true)
    (k_pair_of : PySem.W.keepIn K (.ref f_pair_of) = true)
    (a_held : PySem.W.nsIn K mainGlobals "held" = some (some (.ref f_held)))
    (l_held : K.lookup f_held = some ⟨oc_held, od_held, .func (PySem.W.fnOf "held" "held" (defArgs sheld) (defBody sheld) (defScope sheld) .none kV_held dc_held pm_held an_held cd_held ct_held), sl_held⟩)
    (c_held : PySem.W.codeIn K cd_held "held" = true)
    (k_held : PySem.W.keepIn K (.ref f_held) = true)
    (a_row_of : PySem.W.nsIn K mainGlobals "row_of" = some (some (.ref f_row_of)))
    (l_row_of : K.lookup f_row_of = some ⟨oc_row_of, od_row_of, .func (PySem.W.fnOf "row_of" "row_of" (defArgs srow_of) (defBody srow_of) (defScope srow_of) .none kV_row_of dc_row_of pm_row_of an_row_of cd_row_of ct_row_of), sl_row_of⟩)
    (c_row_of : PySem.W.codeIn K cd_row_of "row_of" = true)
    (k_row_of : PySem.W.keepIn K (.ref f_row_of) = true)
    (a_trace_of : PySem.W.nsIn K mainGlobals "trace_of" = some (some (.ref f_trace_of)))
    (l_trace_of : K.lookup f_trace_of = some ⟨oc_trace_of, od_trace_of, .func (PySem.W.fnOf "trace_of" "trace_of" (defArgs strace_of) (defBody strace_of) (defScope strace_of) .none kV_trace_of dc_trace_of pm_trace_of an_trace_of cd_trace_of ct_trace_of), sl_trace_of⟩)
    (c_trace_of : PySem.W.codeIn K cd_trace_of "trace_of" = true)
    (k_trace_of : PySem.W.keepIn K (.ref f_trace_of) = true)
    (a_determinant_of : PySem.W.nsIn K mainGlobals "determinant_of" = some (some (.ref f_determinant_of)))
    (l_determinant_of : K.lookup f_determinant_of = some ⟨oc_determinant_of, od_determinant_of, .func (PySem.W.fnOf "determinant_of" "determinant_of" (defArgs sdeterminant_of) (defBody sdeterminant_of) (defScope sdeterminant_of) .none kV_determinant_of dc_determinant_of pm_determinant_of an_determinant_of cd_determinant_of ct_determinant_of), sl_determinant_of⟩)
    (c_determinant_of : PySem.W.codeIn K cd_determinant_of "determinant_of" = true)
    (k_determinant_of : PySem.W.keepIn K (.ref f_determinant_of) = true)
    (a_slope_of : PySem.W.nsIn K mainGlobals "slope_of" = some (some (.ref f_slope_of)))
    (l_slope_of : K.lookup f_slope_of = some ⟨oc_slope_of, od_slope_of, .func (PySem.W.fnOf "slope_of" "slope_of" (defArgs sslope_of) (defBody sslope_of) (defScope sslope_of) .none kV_slope_of dc_slope_of pm_slope_of an_slope_of cd_slope_of ct_slope_of), sl_slope_of⟩)
    (c_slope_of : PySem.W.codeIn K cd_slope_of "slope_of" = true)
    (k_slope_of : PySem.W.keepIn K (.ref f_slope_of) = true)
    (a_kind : PySem.W.nsIn K mainGlobals "kind" = some (some (.ref f_kind)))
    (l_kind : K.lookup f_kind = some ⟨oc_kind, od_kind, .func (PySem.W.fnOf "kind" "kind" (defArgs skind) (defBody skind) (defScope skind) .none kV_kind dc_kind pm_kind an_kind cd_kind ct_kind), sl_kind⟩)
    (c_kind : PySem.W.codeIn K cd_kind "kind" = true)
    (k_kind : PySem.W.keepIn K (.ref f_kind) = true)
    (a_slope_of_form : PySem.W.nsIn K mainGlobals "slope_of_form" = some (some (.ref f_slope_of_form)))
    (l_slope_of_form : K.lookup f_slope_of_form = some ⟨oc_slope_of_form, od_slope_of_form, .func (PySem.W.fnOf "slope_of_form" "slope_of_form" (defArgs sslope_of_form) (defBody sslope_of_form) (defScope sslope_of_form) .none kV_slope_of_form dc_slope_of_form pm_slope_of_form an_slope_of_form cd_slope_of_form ct_slope_of_form), sl_slope_of_form⟩)
    (c_slope_of_form : PySem.W.codeIn K cd_slope_of_form "slope_of_form" = true)
    (k_slope_of_form : PySem.W.keepIn K (.ref f_slope_of_form) = true)
    (a_word : PySem.W.nsIn K mainGlobals "_word" = some (some (.ref f_word)))
    (l_word : K.lookup f_word = some ⟨oc_word, od_word, .func (PySem.W.fnOf "_word" "_word" (defArgs s_word) (defBody s_word) (defScope s_word) .none kV_word dc_word pm_word an_word cd_word ct_word), sl_word⟩)
    (c_word : PySem.W.codeIn K cd_word "_word" = true)
    (k_word : PySem.W.keepIn K (.ref f_word) = true)
    (a_law_pen : PySem.W.nsIn K mainGlobals "_law_pen" = some (some (.ref f_law_pen)))
    (l_law_pen : K.lookup f_law_pen = some ⟨oc_law_pen, od_law_pen, .func (PySem.W.fnOf "_law_pen" "_law_pen" (defArgs s_law_pen) (defBody s_law_pen) (defScope s_law_pen) .none kV_law_pen dc_law_pen pm_law_pen an_law_pen cd_law_pen ct_law_pen), sl_law_pen⟩)
    (c_law_pen : PySem.W.codeIn K cd_law_pen "_law_pen" = true)
    (k_law_pen : PySem.W.keepIn K (.ref f_law_pen) = true)
    (a_law_draw : PySem.W.nsIn K mainGlobals "_law_draw" = some (some (.ref f_law_draw)))
    (l_law_draw : K.lookup f_law_draw = some ⟨oc_law_draw, od_law_draw, .func (PySem.W.fnOf "_law_draw" "_law_draw" (defArgs s_law_draw) (defBody s_law_draw) (defScope s_law_draw) .none kV_law_draw dc_law_draw pm_law_draw an_law_draw cd_law_draw ct_law_draw), sl_law_draw⟩)
    (c_law_draw : PySem.W.codeIn K cd_law_draw "_law_draw" = true)
    (k_law_draw : PySem.W.keepIn K (.ref f_law_draw) = true)
    (a_law_pick : PySem.W.nsIn K mainGlobals "_law_pick" = some (some (.ref f_law_pick)))
    (l_law_pick : K.lookup f_law_pick = some ⟨oc_law_pick, od_law_pick, .func (PySem.W.fnOf "_law_pick" "_law_pick" (defArgs s_law_pick) (defBody s_law_pick) (defScope s_law_pick) .none kV_law_pick dc_law_pick pm_law_pick an_law_pick cd_law_pick ct_law_pick), sl_law_pick⟩)
    (c_law_pick : PySem.W.codeIn K cd_law_pick "_law_pick" = true)
    (k_law_pick : PySem.W.keepIn K (.ref f_law_pick) = true)
    (a_law_gcd : PySem.W.nsIn K mainGlobals "_law_gcd" = some (some (.ref f_law_gcd)))
    (l_law_gcd : K.lookup f_law_gcd = some ⟨oc_law_gcd, od_law_gcd, .func (PySem.W.fnOf "_law_gcd" "_law_gcd" (defArgs s_law_gcd) (defBody s_law_gcd) (defScope s_law_gcd) .none kV_law_gcd dc_law_gcd pm_law_gcd an_law_gcd cd_law_gcd ct_law_gcd), sl_law_gcd⟩)
    (c_law_gcd : PySem.W.codeIn K cd_law_gcd "_law_gcd" = true)
    (k_law_gcd : PySem.W.keepIn K (.ref f_law_gcd) = true)
    (a_law_q : PySem.W.nsIn K mainGlobals "_law_q" = some (some (.ref f_law_q)))
    (l_law_q : K.lookup f_law_q = some ⟨oc_law_q, od_law_q, .func (PySem.W.fnOf "_law_q" "_law_q" (defArgs s_law_q) (defBody s_law_q) (defScope s_law_q) .none kV_law_q dc_law_q pm_law_q an_law_q cd_law_q ct_law_q), sl_law_q⟩)
    (c_law_q : PySem.W.codeIn K cd_law_q "_law_q" = true)
    (k_law_q : PySem.W.keepIn K (.ref f_law_q) = true)
    (a_law_plus : PySem.W.nsIn K mainGlobals "_law_plus" = some (some (.ref f_law_plus)))
    (l_law_plus : K.lookup f_law_plus = some ⟨oc_law_plus, od_law_plus, .func (PySem.W.fnOf "_law_plus" "_law_plus" (defArgs s_law_plus) (defBody s_law_plus) (defScope s_law_plus) .none kV_law_plus dc_law_plus pm_law_plus an_law_plus cd_law_plus ct_law_plus), sl_law_plus⟩)
    (c_law_plus : PySem.W.codeIn K cd_law_plus "_law_plus" = true)
    (k_law_plus : PySem.W.keepIn K (.ref f_law_plus) = true)
    (a_law_minus : PySem.W.nsIn K mainGlobals "_law_minus" = some (some (.ref f_law_minus)))
    (l_law_minus : K.lookup f_law_minus = some ⟨oc_law_minus, od_law_minus, .func (PySem.W.fnOf "_law_minus" "_law_minus" (defArgs s_law_minus) (defBody s_law_minus) (defScope s_law_minus) .none kV_law_minus dc_law_minus pm_law_minus an_law_minus cd_law_minus ct_law_minus), sl_law_minus⟩)
    (c_law_minus : PySem.W.codeIn K cd_law_minus "_law_minus" = true)
    (k_law_minus : PySem.W.keepIn K (.ref f_law_minus) = true)
    (a_law_times : PySem.W.nsIn K mainGlobals "_law_times" = some (some (.ref f_law_times)))
    (l_law_times : K.lookup f_law_times = some ⟨oc_law_times, od_law_times, .func (PySem.W.fnOf "_law_times" "_law_times" (defArgs s_law_times) (defBody s_law_times) (defScope s_law_times) .none kV_law_times dc_law_times pm_law_times an_law_times cd_law_times ct_law_times), sl_law_times⟩)
    (c_law_times : PySem.W.codeIn K cd_law_times "_law_times" = true)
    (k_law_times : PySem.W.keepIn K (.ref f_law_times) = true)
    (a_law_passed : PySem.W.nsIn K mainGlobals "_law_passed" = some (some (.ref f_law_passed)))
    (l_law_passed : K.lookup f_law_passed = some ⟨oc_law_passed, od_law_passed, .func (PySem.W.fnOf "_law_passed" "_law_passed" (defArgs s_law_passed) (defBody s_law_passed) (defScope s_law_passed) .none kV_law_passed dc_law_passed pm_law_passed an_law_passed cd_law_passed ct_law_passed), sl_law_passed⟩)
    (c_law_passed : PySem.W.codeIn K cd_law_passed "_law_passed" = true)
    (k_law_passed : PySem.W.keepIn K (.ref f_law_passed) = true)
    (a_law_ratio : PySem.W.nsIn K mainGlobals "_law_ratio" = some (some (.ref f_law_ratio)))
    (l_law_ratio : K.lookup f_law_ratio = some ⟨oc_law_ratio, od_law_ratio, .func (PySem.W.fnOf "_law_ratio" "_law_ratio" (defArgs s_law_ratio) (defBody s_law_ratio) (defScope s_law_ratio) .none kV_law_ratio dc_law_ratio pm_law_ratio an_law_ratio cd_law_ratio ct_law_ratio), sl_law_ratio⟩)
    (c_law_ratio : PySem.W.codeIn K cd_law_ratio "_law_ratio" = true)
    (k_law_ratio : PySem.W.keepIn K (.ref f_law_ratio) = true)
    (a_law_v_plain : PySem.W.nsIn K mainGlobals "_law_v_plain" = some (some (.ref f_law_v_plain)))
    (l_law_v_plain : K.lookup f_law_v_plain = some ⟨oc_law_v_plain, od_law_v_plain, .func (PySem.W.fnOf "_law_v_plain" "_law_v_plain" (defArgs s_law_v_plain) (defBody s_law_v_plain) (defScope s_law_v_plain) .none kV_law_v_plain dc_law_v_plain pm_law_v_plain an_law_v_plain cd_law_v_plain ct_law_v_plain), sl_law_v_plain⟩)
    (c_law_v_plain : PySem.W.codeIn K cd_law_v_plain "_law_v_plain" = true)
    (k_law_v_plain : PySem.W.keepIn K (.ref f_law_v_plain) = true)
    (a_law_v_plus : PySem.W.nsIn K mainGlobals "_law_v_plus" = some (some (.ref f_law_v_plus)))
    (l_law_v_plus : K.lookup f_law_v_plus = some ⟨oc_law_v_plus, od_law_v_plus, .func (PySem.W.fnOf "_law_v_plus" "_law_v_plus" (defArgs s_law_v_plus) (defBody s_law_v_plus) (defScope s_law_v_plus) .none kV_law_v_plus dc_law_v_plus pm_law_v_plus an_law_v_plus cd_law_v_plus ct_law_v_plus), sl_law_v_plus⟩)
    (c_law_v_plus : PySem.W.codeIn K cd_law_v_plus "_law_v_plus" = true)
    (k_law_v_plus : PySem.W.keepIn K (.ref f_law_v_plus) = true)
    (a_law_v_times : PySem.W.nsIn K mainGlobals "_law_v_times" = some (some (.ref f_law_v_times)))
    (l_law_v_times : K.lookup f_law_v_times = some ⟨oc_law_v_times, od_law_v_times, .func (PySem.W.fnOf "_law_v_times" "_law_v_times" (defArgs s_law_v_times) (defBody s_law_v_times) (defScope s_law_v_times) .none kV_law_v_times dc_law_v_times pm_law_v_times an_law_v_times cd_law_v_times ct_law_v_times), sl_law_v_times⟩)
    (c_law_v_times : PySem.W.codeIn K cd_law_v_times "_law_v_times" = true)
    (k_law_v_times : PySem.W.keepIn K (.ref f_law_v_times) = true)
    (a_law_v_slope : PySem.W.nsIn K mainGlobals "_law_v_slope" = some (some (.ref f_law_v_slope)))
    (l_law_v_slope : K.lookup f_law_v_slope = some ⟨oc_law_v_slope, od_law_v_slope, .func (PySem.W.fnOf "_law_v_slope" "_law_v_slope" (defArgs s_law_v_slope) (defBody s_law_v_slope) (defScope s_law_v_slope) .none kV_law_v_slope dc_law_v_slope pm_law_v_slope an_law_v_slope cd_law_v_slope ct_law_v_slope), sl_law_v_slope⟩)
    (c_law_v_slope : PySem.W.codeIn K cd_law_v_slope "_law_v_slope" = true)
    (k_law_v_slope : PySem.W.keepIn K (.ref f_law_v_slope) = true)
    (a_law_why : PySem.W.nsIn K mainGlobals "_law_why" = some (some (.ref f_law_why)))
    (l_law_why : K.lookup f_law_why = some ⟨oc_law_why, od_law_why, .func (PySem.W.fnOf "_law_why" "_law_why" (defArgs s_law_why) (defBody s_law_why) (defScope s_law_why) .none kV_law_why dc_law_why pm_law_why an_law_why cd_law_why ct_law_why), sl_law_why⟩)
    (c_law_why : PySem.W.codeIn K cd_law_why "_law_why" = true)
    (k_law_why : PySem.W.keepIn K (.ref f_law_why) = true)
    (a_law_any : PySem.W.nsIn K mainGlobals "_law_any" = some (some (.ref f_law_any)))
    (l_law_any : K.lookup f_law_any = some ⟨oc_law_any, od_law_any, .func (PySem.W.fnOf "_law_any" "_law_any" (defArgs s_law_any) (defBody s_law_any) (defScope s_law_any) .none kV_law_any dc_law_any pm_law_any an_law_any cd_law_any ct_law_any), sl_law_any⟩)
    (c_law_any : PySem.W.codeIn K cd_law_any "_law_any" = true)
    (k_law_any : PySem.W.keepIn K (.ref f_law_any) = true)
    (a_law_shown : PySem.W.nsIn K mainGlobals "_law_shown" = some (some (.ref f_law_shown)))
    (l_law_shown : K.lookup f_law_shown = some ⟨oc_law_shown, od_law_shown, .func (PySem.W.fnOf "_law_shown" "_law_shown" (defArgs s_law_shown) (defBody s_law_shown) (defScope s_law_shown) .none kV_law_shown dc_law_shown pm_law_shown an_law_shown cd_law_shown ct_law_shown), sl_law_shown⟩)
    (c_law_shown : PySem.W.codeIn K cd_law_shown "_law_shown" = true)
    (k_law_shown : PySem.W.keepIn K (.ref f_law_shown) = true)
    (a_law_matrix : PySem.W.nsIn K mainGlobals "_law_matrix" = some (some (.ref f_law_matrix)))
    (l_law_matrix : K.lookup f_law_matrix = some ⟨oc_law_matrix, od_law_matrix, .func (PySem.W.fnOf "_law_matrix" "_law_matrix" (defArgs s_law_matrix) (defBody s_law_matrix) (defScope s_law_matrix) .none kV_law_matrix dc_law_matrix pm_law_matrix an_law_matrix cd_law_matrix ct_law_matrix), sl_law_matrix⟩)
    (c_law_matrix : PySem.W.codeIn K cd_law_matrix "_law_matrix" = true)
    (k_law_matrix : PySem.W.keepIn K (.ref f_law_matrix) = true)
    (a_law_trace : PySem.W.nsIn K mainGlobals "_law_trace" = some (some (.ref f_law_trace)))
    (l_law_trace : K.lookup f_law_trace = some ⟨oc_law_trace, od_law_trace, .func (PySem.W.fnOf "_law_trace" "_law_trace" (defArgs s_law_trace) (defBody s_law_trace) (defScope s_law_trace) .none kV_law_trace dc_law_trace pm_law_trace an_law_trace cd_law_trace ct_law_trace), sl_law_trace⟩)
    (c_law_trace : PySem.W.codeIn K cd_law_trace "_law_trace" = true)
    (k_law_trace : PySem.W.keepIn K (.ref f_law_trace) = true)
    (a_law_det : PySem.W.nsIn K mainGlobals "_law_det" = some (some (.ref f_law_det)))
    (l_law_det : K.lookup f_law_det = some ⟨oc_law_det, od_law_det, .func (PySem.W.fnOf "_law_det" "_law_det" (defArgs s_law_det) (defBody s_law_det) (defScope s_law_det) .none kV_law_det dc_law_det pm_law_det an_law_det cd_law_det ct_law_det), sl_law_det⟩)
    (c_law_det : PySem.W.codeIn K cd_law_det "_law_det" = true)
    (k_law_det : PySem.W.keepIn K (.ref f_law_det) = true)
    (a_law_form_slope : PySem.W.nsIn K mainGlobals "_law_form_slope" = some (some (.ref f_law_form_slope)))
    (l_law_form_slope : K.lookup f_law_form_slope = some ⟨oc_law_form_slope, od_law_form_slope, .func (PySem.W.fnOf "_law_form_slope" "_law_form_slope" (defArgs s_law_form_slope) (defBody s_law_form_slope) (defScope s_law_form_slope) .none kV_law_form_slope dc_law_form_slope pm_law_form_slope an_law_form_slope cd_law_form_slope ct_law_form_slope), sl_law_form_slope⟩)
    (c_law_form_slope : PySem.W.codeIn K cd_law_form_slope "_law_form_slope" = true)
    (k_law_form_slope : PySem.W.keepIn K (.ref f_law_form_slope) = true)
    (a_law_word : PySem.W.nsIn K mainGlobals "_law_word" = some (some (.ref f_law_word)))
    (l_law_word : K.lookup f_law_word = some ⟨oc_law_word, od_law_word, .func (PySem.W.fnOf "_law_word" "_law_word" (defArgs s_law_word) (defBody s_law_word) (defScope s_law_word) .none kV_law_word dc_law_word pm_law_word an_law_word cd_law_word ct_law_word), sl_law_word⟩)
    (c_law_word : PySem.W.codeIn K cd_law_word "_law_word" = true)
    (k_law_word : PySem.W.keepIn K (.ref f_law_word) = true)
    (a_law_some : PySem.W.nsIn K mainGlobals "_law_some" = some (some (.ref f_law_some)))
    (l_law_some : K.lookup f_law_some = some ⟨oc_law_some, od_law_some, .func (PySem.W.fnOf "_law_some" "_law_some" (defArgs s_law_some) (defBody s_law_some) (defScope s_law_some) .none kV_law_some dc_law_some pm_law_some an_law_some cd_law_some ct_law_some), sl_law_some⟩)
    (c_law_some : PySem.W.codeIn K cd_law_some "_law_some" = true)
    (k_law_some : PySem.W.keepIn K (.ref f_law_some) = true)
    (a_law : PySem.W.nsIn K mainGlobals "law" = some (some (.ref f_law)))
    (l_law : K.lookup f_law = some ⟨oc_law, od_law, .func (PySem.W.fnOf "law" "law" (defArgs slaw) (defBody slaw) (defScope slaw) .none kV_law dc_law pm_law an_law (.ref cC_law) ct_law), sl_law⟩)
    (c_law : PySem.W.codeIn K (.ref cC_law) "law" = true)
    (k_law : PySem.W.keepIn K (.ref f_law) = true)
    (hn_ : PySem.W.specialIn K (.builtin "object.__class__") "__get__" = some (some (.builtin "getset_descriptor.__get__")))
    (ht_ : PySem.W.takesIn K (.builtin "object.__class__") = some true)
    (a_BadText : PySem.W.nsIn K mainGlobals "BadText" = some (some (.ref C_BadText)))
    (ga_BadText : PySem.W.findIn K (.ref C_BadText) "__getattribute__" = some (some (.builtin "BaseException.__getattribute__")))
    (gg_BadText : PySem.W.findIn K (.ref C_BadText) "__getattr__" = some none)
    (sb_BadText : PySem.W.subIn K (.ref C_BadText) (.type "BaseException") = some true)
    (hd_BadText : PySem.W.hasDictIn K C_BadText = true)
    (ca_BadText : PySem.W.findIn K (.ref C_BadText) "__class__" = some (some (.builtin "object.__class__")))
    (mo_BadText : PySem.W.mroIn K C_BadText (.type "object") = some true)
    (kp_BadText : PySem.W.keepIn K (.ref C_BadText) = true)
    (xL_BadText : K.lookup C_BadText = some (excClassObj nmI_BadText qI_BadText C_BadText NI_BadText bsI_BadText bmI_BadText true snI_BadText subI_BadText abI_BadText colI_BadText ddI_BadText m0I_BadText m1I_BadText m2I_BadText m3I_BadText m5I_BadText "ValueError.__new__"))
    (rb_BadText : PySem.HandSPX.refsVE bmI_BadText = true)
    (sa_BadText : PySem.W.findIn K (.ref C_BadText) "__setattr__" = some (some (.builtin "object.__setattr__")))
    (ty_BadText : PySem.W.typeIn K (.ref C_BadText) = some (.type "type"))
    (i_BadText : PySem.W.findIn K (.ref C_BadText) "__init__" = some (some (.ref fI_BadText)))
    (t_BadText : PySem.W.typeIn K (.ref fI_BadText) = some (.type "function"))
    (lI_BadText : K.lookup fI_BadText = some ⟨ocI_BadText, odI_BadText, .func (PySem.W.fnOf "__init__" "BadText.__init__" (defArgs (inClass (top 3) 0)) (defBody (inClass (top 3) 0)) (defScope (inClass (top 3) 0)) .none kVI_BadText dcI_BadText pmI_BadText anI_BadText cdI_BadText ctI_BadText), slI_BadText⟩)
    (cI_BadText : PySem.W.codeIn K cdI_BadText "BadText.__init__" = true)
    (kI_BadText : PySem.W.keepIn K (.ref fI_BadText) = true)
    (n_BadText_column : PySem.W.findIn K (.ref C_BadText) "column" = some none)
    (a_BadNumber : PySem.W.nsIn K mainGlobals "BadNumber" = some (some (.ref C_BadNumber)))
    (ga_BadNumber : PySem.W.findIn K (.ref C_BadNumber) "__getattribute__" = some (some (.builtin "BaseException.__getattribute__")))
    (gg_BadNumber : PySem.W.findIn K (.ref C_BadNumber) "__getattr__" = some none)
    (sb_BadNumber : PySem.W.subIn K (.ref C_BadNumber) (.type "BaseException") = some true)
    (hd_BadNumber : PySem.W.hasDictIn K C_BadNumber = true)
    (ca_BadNumber : PySem.W.findIn K (.ref C_BadNumber) "__class__" = some (some (.builtin "object.__class__")))
    (mo_BadNumber : PySem.W.mroIn K C_BadNumber (.type "object") = some true)
    (kp_BadNumber : PySem.W.keepIn K (.ref C_BadNumber) = true)
    (xL_BadNumber : K.lookup C_BadNumber = some (excClassObj nmI_BadNumber qI_BadNumber C_BadNumber NI_BadNumber bsI_BadNumber bmI_BadNumber true snI_BadNumber subI_BadNumber abI_BadNumber colI_BadNumber ddI_BadNumber m0I_BadNumber m1I_BadNumber m2I_BadNumber m3I_BadNumber m5I_BadNumber "ValueError.__new__"))
    (rb_BadNumber : PySem.HandSPX.refsVE bmI_BadNumber = true)
    (sa_BadNumber : PySem.W.findIn K (.ref C_BadNumber) "__setattr__" = some (some (.builtin "object.__setattr__")))
    (ty_BadNumber : PySem.W.typeIn K (.ref C_BadNumber) = some (.type "type"))
    (i_BadNumber : PySem.W.findIn K (.ref C_BadNumber) "__init__" = some (some (.ref fI_BadNumber)))
    (t_BadNumber : PySem.W.typeIn K (.ref fI_BadNumber) = some (.type "function"))
    (lI_BadNumber : K.lookup fI_BadNumber = some ⟨ocI_BadNumber, odI_BadNumber, .func (PySem.W.fnOf "__init__" "BadNumber.__init__" (defArgs (inClass (top 4) 0)) (defBody (inClass (top 4) 0)) (defScope (inClass (top 4) 0)) .none kVI_BadNumber dcI_BadNumber pmI_BadNumber anI_BadNumber cdI_BadNumber ctI_BadNumber), slI_BadNumber⟩)
    (cI_BadNumber : PySem.W.codeIn K cdI_BadNumber "BadNumber.__init__" = true)
    (kI_BadNumber : PySem.W.keepIn K (.ref fI_BadNumber) = true)
    (n_BadNumber_what : PySem.W.findIn K (.ref C_BadNumber) "what" = some none)
    (n_BadNumber_number : PySem.W.findIn K (.ref C_BadNumber) "number" = some none)
    (a_BadRow : PySem.W.nsIn K mainGlobals "BadRow" = some (some (.ref C_BadRow)))
    (ga_BadRow : PySem.W.findIn K (.ref C_BadRow) "__getattribute__" = some (some (.builtin "BaseException.__getattribute__")))
    (gg_BadRow : PySem.W.findIn K (.ref C_BadRow) "__getattr__" = some none)
    (sb_BadRow : PySem.W.subIn K (.ref C_BadRow) (.type "BaseException") = some true)
    (hd_BadRow : PySem.W.hasDictIn K C_BadRow = true)
    (ca_BadRow : PySem.W.findIn K (.ref C_BadRow) "__class__" = some (some (.builtin "object.__class__")))
    (mo_BadRow : PySem.W.mroIn K C_BadRow (.type "object") = some true)
    (kp_BadRow : PySem.W.keepIn K (.ref C_BadRow) = true)
    (xL_BadRow : K.lookup C_BadRow = some (excClassObj nmI_BadRow qI_BadRow C_BadRow NI_BadRow bsI_BadRow bmI_BadRow true snI_BadRow subI_BadRow abI_BadRow colI_BadRow ddI_BadRow m0I_BadRow m1I_BadRow m2I_BadRow m3I_BadRow m5I_BadRow "ValueError.__new__"))
    (rb_BadRow : PySem.HandSPX.refsVE bmI_BadRow = true)
    (sa_BadRow : PySem.W.findIn K (.ref C_BadRow) "__setattr__" = some (some (.builtin "object.__setattr__")))
    (ty_BadRow : PySem.W.typeIn K (.ref C_BadRow) = some (.type "type"))
    (i_BadRow : PySem.W.findIn K (.ref C_BadRow) "__init__" = some (some (.ref fI_BadRow)))
    (t_BadRow : PySem.W.typeIn K (.ref fI_BadRow) = some (.type "function"))
    (lI_BadRow : K.lookup fI_BadRow = some ⟨ocI_BadRow, odI_BadRow, .func (PySem.W.fnOf "__init__" "BadRow.__init__" (defArgs (inClass (top 5) 0)) (defBody (inClass (top 5) 0)) (defScope (inClass (top 5) 0)) .none kVI_BadRow dcI_BadRow pmI_BadRow anI_BadRow cdI_BadRow ctI_BadRow), slI_BadRow⟩)
    (cI_BadRow : PySem.W.codeIn K cdI_BadRow "BadRow.__init__" = true)
    (kI_BadRow : PySem.W.keepIn K (.ref fI_BadRow) = true)
    (n_BadRow_row : PySem.W.findIn K (.ref C_BadRow) "row" = some none)
    (e_xBadNumberBadText : PySem.W.exmOne K (.ref C_BadNumber) (.ref C_BadText) = some false)
    (e_xBadNumberBadNumber : PySem.W.exmOne K (.ref C_BadNumber) (.ref C_BadNumber) = some true)
    (e_xBadRowBadText : PySem.W.exmOne K (.ref C_BadRow) (.ref C_BadText) = some false)
    (e_xBadRowBadNumber : PySem.W.exmOne K (.ref C_BadRow) (.ref C_BadNumber) = some false)
    (e_xBadRowBadRow : PySem.W.exmOne K (.ref C_BadRow) (.ref C_BadRow) = some true)
    (a_Kind : PySem.W.nsIn K mainGlobals "Kind" = some (some (.ref C_Kind)))
    (p_pgKind : PySem.W.plainGet K C_Kind Str.empty = true)
    (p_hdKind : PySem.W.hasDictIn K C_Kind = true)
    (p_poKind : PySem.W.plainOver K C_Kind = true)
    (p_saKind : PySem.W.findIn K (.ref C_Kind) "__setattr__" = some (some (.builtin "object.__setattr__")))
    (p_mkKind : PySem.W.makesIn K C_Kind = true)
    (p_kpKind : PySem.W.keepIn K (.ref C_Kind) = true)
    (p_noKind_trace : PySem.W.findIn K (.ref C_Kind) "trace" = some none)
    (p_noKind_determinant : PySem.W.findIn K (.ref C_Kind) "determinant" = some none)
    (p_noKind_word : PySem.W.findIn K (.ref C_Kind) "word" = some none)
    (iMKind_init : PySem.W.findIn K (.ref C_Kind) "__init__" = some (some (.ref fMKind_init)))
    (nMKind_init : PySem.W.isFn K (.ref fMKind_init) = true)
    (lMKind_init : K.lookup fMKind_init = some ⟨ocMKind_init, odMKind_init, .func (PySem.W.fnOf "__init__" "Kind.__init__" (defArgs (inClass (top 27) 0)) (defBody (inClass (top 27) 0)) (defScope (inClass (top 27) 0)) .none kVMKind_init dcMKind_init pmMKind_init anMKind_init cdMKind_init ctMKind_init), slMKind_init⟩)
    (cMKind_init : PySem.W.codeIn K cdMKind_init "Kind.__init__" = true)
    (kMKind_init : PySem.W.keepIn K (.ref fMKind_init) = true)
    (p_hcKind : PySem.W.findIn K (.ref C_Kind) "__class__" = some (some (.builtin "object.__class__")))
    (p_hmKind : PySem.W.mroIn K C_Kind (.type "object") = some true)
    (p_meKind : PySem.W.kitOne K (.ref C_Kind) (.ref C_Kind) = some true)
    (fin : Txt K mg → KindT K mg → C8.InsC K (fA mg "Kind") → (fDat K (fA mg "law")).code = .ref cC_law → Z) : Z := fin {
  int := PySem.W.mg_none_of X G z_int
  bool := PySem.W.mg_none_of X G z_bool
  list := PySem.W.mg_none_of X G z_list
  tuple := PySem.W.mg_none_of X G z_tuple
  len := PySem.W.mg_none_of X G z_len
  range := PySem.W.mg_none_of X G z_range
  isinstance := PySem.W.mg_none_of X G z_isinstance
  repr := PySem.W.mg_none_of X G z_repr
  abs := PySem.W.mg_none_of X G z_abs
  all := PySem.W.mg_none_of X G z_all
  any := PySem.W.mg_none_of X G z_any
  sorted := PySem.W.mg_none_of X G z_sorted
  dict := PySem.W.mg_none_of X G z_dict
  gcd := PySem.W.mg_of X G g_gcd
  is_ratio := Df.mk' X G a_is_ratio l_is_ratio c_is_ratio k_is_ratio fun _ _ _ _ _ _ us hl => match us, hl with | [_], _ => rfl
  told := Df.mk' X G a_told l_told c_told k_told fun _ _ _ _ _ _ us hl => match us, hl with | [_, _], _ => rfl
  plus := Df.mk' X G a_plus l_plus c_plus k_plus fun _ _ _ _ _ _ us hl => match us, hl with | [_, _], _ => rfl
  minus := Df.mk' X G a_minus l_minus c_minus k_minus fun _ _ _ _ _ _ us hl => match us, hl with | [_, _], _ => rfl
  times := Df.mk' X G a_times l_times c_times k_times fun _ _ _ _ _ _ us hl => match us, hl with | [_, _], _ => rfl
  lower := Df.mk' X G a_lower l_lower c_lower k_lower fun _ _ _ _ _ _ us hl => match us, hl with | [_, _], _ => rfl
  is_integer := Df.mk' X G a_is_integer l_is_integer c_is_integer k_is_integer fun _ _ _ _ _ _ us hl => match us, hl with | [_], _ => rfl
  _parts := Df.mk' X G a_parts l_parts c_parts k_parts fun _ _ _ _ _ _ us hl => match us, hl with | [_, _], _ => rfl
  _lowest := Df.mk' X G a_lowest l_lowest c_lowest k_lowest fun _ _ _ _ _ _ us hl => match us, hl with | [_, _], _ => rfl
  is_row := Df.mk' X G a_is_row l_is_row c_is_row k_is_row fun _ _ _ _ _ _ us hl => match us, hl with | [_], _ => rfl
  is_row_of := Df.mk' X G a_is_row_of l_is_row_of c_is_row_of k_is_row_of fun _ _ _ _ _ _ us hl => match us, hl with | [_, _], _ => rfl
  pair_of := Df.mk' X G a_pair_of l_pair_of c_pair_of k_pair_of fun _ _ _ _ _ _ us hl => match us, hl with | [_], _ => rfl
  held := Df.mk' X G a_held l_held c_held k_held fun _ _ _ _ _ _ us hl => match us, hl with | [_], _ => rfl
  row_of := Df.mk' X G a_row_of l_row_of c_row_of k_row_of fun _ _ _ _ _ _ us hl => match us, hl with | [_, _], _ => rfl
  trace_of := Df.mk' X G a_trace_of l_trace_of c_trace_of k_trace_of fun _ _ _ _ _ _ us hl => match us, hl with | [_], _ => rfl
  determinant_of := Df.mk' X G a_determinant_of l_determinant_of c_determinant_of k_determinant_of fun _ _ _ _ _ _ us hl => match us, hl with | [_], _ => rfl
  slope_of := Df.mk' X G a_slope_of l_slope_of c_slope_of k_slope_of fun _ _ _ _ _ _ us hl => match us, hl with | [_, _], _ => rfl
  kind := Df.mk' X G a_kind l_kind c_kind k_kind fun _ _ _ _ _ _ us hl => match us, hl with | [_], _ => rfl
  slope_of_form := Df.mk' X G a_slope_of_form l_slope_of_form c_slope_of_form k_slope_of_form fun _ _ _ _ _ _ us hl => match us, hl with | [_, _], _ => rfl
  _word := Df.mk' X G a_word l_word c_word k_word fun _ _ _ _ _ _ us hl => match us, hl with | [_, _, _], _ => rfl
  _law_pen := Df.mk' X G a_law_pen l_law_pen c_law_pen k_law_pen fun _ _ _ _ _ _ us hl => match us, hl with | [_], _ => rfl
  _law_draw := Df.mk' X G a_law_draw l_law_draw c_law_draw k_law_draw fun _ _ _ _ _ _ us hl => match us, hl with | [_, _], _ => rfl
  _law_pick := Df.mk' X G a_law_pick l_law_pick c_law_pick k_law_pick fun _ _ _ _ _ _ us hl => match us, hl with | [_, _], _ => rfl
  _law_gcd := Df.mk' X G a_law_gcd l_law_gcd c_law_gcd k_law_gcd fun _ _ _ _ _ _ us hl => match us, hl with | [_, _], _ => rfl
  _law_q := Df.mk' X G a_law_q l_law_q c_law_q k_law_q fun _ _ _ _ _ _ us hl => match us, hl with | [_, _], _ => rfl
  _law_plus := Df.mk' X G a_law_plus l_law_plus c_law_plus k_law_plus fun _ _ _ _ _ _ us hl => match us, hl with | [_, _], _ => rfl
  _law_minus := Df.mk' X G a_law_minus l_law_minus c_law_minus k_law_minus fun _ _ _ _ _ _ us hl => match us, hl with | [_, _], _ => rfl
  _law_times := Df.mk' X G a_law_times l_law_times c_law_times k_law_times fun _ _ _ _ _ _ us hl => match us, hl with | [_, _], _ => rfl
  _law_passed := Df.mk' X G a_law_passed l_law_passed c_law_passed k_law_passed fun _ _ _ _ _ _ us hl => match us, hl with | [_, _], _ => rfl
  _law_ratio := Df.mk' X G a_law_ratio l_law_ratio c_law_ratio k_law_ratio fun _ _ _ _ _ _ us hl => match us, hl with | [_, _], _ => rfl
  _law_v_plain := Df.mk' X G a_law_v_plain l_law_v_plain c_law_v_plain k_law_v_plain fun _ _ _ _ _ _ us hl => match us, hl with | [_], _ => rfl
  _law_v_plus := Df.mk' X G a_law_v_plus l_law_v_plus c_law_v_plus k_law_v_plus fun _ _ _ _ _ _ us hl => match us, hl with | [_, _], _ => rfl
  _law_v_times := Df.mk' X G a_law_v_times l_law_v_times c_law_v_times k_law_v_times fun _ _ _ _ _ _ us hl => match us, hl with | [_, _], _ => rfl
  _law_v_slope := Df.mk' X G a_law_v_slope l_law_v_slope c_law_v_slope k_law_v_slope fun _ _ _ _ _ _ us hl => match us, hl with | [_, _], _ => rfl
  _law_why := Df.mk' X G a_law_why l_law_why c_law_why k_law_why fun _ _ _ _ _ _ us hl => match us, hl with | [_], _ => rfl
  _law_any := Df.mk' X G a_law_any l_law_any c_law_any k_law_any fun _ _ _ _ _ _ us hl => match us, hl with | [_], _ => rfl
  _law_shown := Df.mk' X G a_law_shown l_law_shown c_law_shown k_law_shown fun _ _ _ _ _ _ us hl => match us, hl with | [_, _], _ => rfl
  _law_matrix := Df.mk' X G a_law_matrix l_law_matrix c_law_matrix k_law_matrix fun _ _ _ _ _ _ us hl => match us, hl with | [_, _], _ => rfl
  _law_trace := Df.mk' X G a_law_trace l_law_trace c_law_trace k_law_trace fun _ _ _ _ _ _ us hl => match us, hl with | [_], _ => rfl
  _law_det := Df.mk' X G a_law_det l_law_det c_law_det k_law_det fun _ _ _ _ _ _ us hl => match us, hl with | [_], _ => rfl
  _law_form_slope := Df.mk' X G a_law_form_slope l_law_form_slope c_law_form_slope k_law_form_slope fun _ _ _ _ _ _ us hl => match us, hl with | [_, _], _ => rfl
  _law_word := Df.mk' X G a_law_word l_law_word c_law_word k_law_word fun _ _ _ _ _ _ us hl => match us, hl with | [_], _ => rfl
  _law_some := Df.mk' X G a_law_some l_law_some c_law_some k_law_some fun _ _ _ _ _ _ us hl => match us, hl with | [_], _ => rfl
  law := Df.mk' X G a_law l_law c_law k_law fun _ _ _ _ _ _ us hl => match us, hl with | [_], _ => rfl
  BadText := ClI.mk' X G a_BadText ⟨ga_BadText, gg_BadText, sb_BadText, hd_BadText, ca_BadText, hn_, ht_, mo_BadText⟩ ⟨⟨_, _, _, _, _, _, _, _, _, _, _, _, _, _, _, xL_BadText, rb_BadText⟩, sa_BadText, sb_BadText, ty_BadText, kp_BadText⟩ i_BadText t_BadText lI_BadText cI_BadText kI_BadText (fun _ _ _ _ _ _ us hl => match us, hl with | [_, _], _ => rfl) (List.forall_mem_cons.mpr ⟨n_BadText_column, List.forall_mem_nil _⟩)
  BadNumber := ClI.mk' X G a_BadNumber ⟨ga_BadNumber, gg_BadNumber, sb_BadNumber, hd_BadNumber, ca_BadNumber, hn_, ht_, mo_BadNumber⟩ ⟨⟨_, _, _, _, _, _, _, _, _, _, _, _, _, _, _, xL_BadNumber, rb_BadNumber⟩, sa_BadNumber, sb_BadNumber, ty_BadNumber, kp_BadNumber⟩ i_BadNumber t_BadNumber lI_BadNumber cI_BadNumber kI_BadNumber (fun _ _ _ _ _ _ us hl => match us, hl with | [_, _, _], _ => rfl) (List.forall_mem_cons.mpr ⟨n_BadNumber_what, List.forall_mem_cons.mpr ⟨n_BadNumber_number, List.forall_mem_nil _⟩⟩)
  BadRow := ClI.mk' X G a_BadRow ⟨ga_BadRow, gg_BadRow, sb_BadRow, hd_BadRow, ca_BadRow, hn_, ht_, mo_BadRow⟩ ⟨⟨_, _, _, _, _, _, _, _, _, _, _, _, _, _, _, xL_BadRow, rb_BadRow⟩, sa_BadRow, sb_BadRow, ty_BadRow, kp_BadRow⟩ i_BadRow t_BadRow lI_BadRow cI_BadRow kI_BadRow (fun _ _ _ _ _ _ us hl => match us, hl with | [_, _], _ => rfl) (List.forall_mem_cons.mpr ⟨n_BadRow_row, List.forall_mem_nil _⟩)
  xBadNumberBadText := by rw [fA_of (PySem.W.mg_of X G a_BadNumber), fA_of (PySem.W.mg_of X G a_BadText)]; exact e_xBadNumberBadText
  xBadNumberBadNumber := by rw [fA_of (PySem.W.mg_of X G a_BadNumber)]; exact e_xBadNumberBadNumber
  xBadRowBadText := by rw [fA_of (PySem.W.mg_of X G a_BadRow), fA_of (PySem.W.mg_of X G a_BadText)]; exact e_xBadRowBadText
  xBadRowBadNumber := by rw [fA_of (PySem.W.mg_of X G a_BadRow), fA_of (PySem.W.mg_of X G a_BadNumber)]; exact e_xBadRowBadNumber
  xBadRowBadRow := by rw [fA_of (PySem.W.mg_of X G a_BadRow)]; exact e_xBadRowBadRow
  lb := fun s u => by rw [fA_of (PySem.W.mg_of X G a_law), fDat_of l_law]; exact .of_eq rfl } (kindT_of (PySem.W.mg_of X G a_Kind) ⟨p_pgKind, p_hdKind, p_poKind, p_saKind⟩ ⟨p_mkKind, iMKind_init, nMKind_init, p_kpKind⟩ p_noKind_trace p_noKind_determinant p_noKind_word (Me.mk' iMKind_init nMKind_init lMKind_init cMKind_init kMKind_init (fun _ _ _ _ _ _ us hl => match us, hl with | [_, _, _, _], _ => rfl))) (by rw [fA_of (PySem.W.mg_of X G a_Kind)]; exact ⟨⟨p_pgKind, p_hdKind, p_poKind, p_saKind⟩, p_hcKind, hn_, ht_, p_hmKind, p_meKind⟩) (by rw [fA_of (PySem.W.mg_of X G a_law), fDat_of l_law])
end LW
open PySem PySem.W PyProof.Rows
set_option maxRecDepth 100000 in
set_option maxHeartbeats 0 in
theorem PySem.Challenge.cw_flowpapers_k38_whole_kinds_of_linear_flo_holds : PySem.Challenge.rw_flowpapers_k38_whole_kinds_of_linear_flo.Holds := by
  w_on; o_law; k_head; (case hw => w_witness2)
  k_fill
  refine GL.walk_GT (l := PySem.Challenge.rw_flowpapers_k38_whole_kinds_of_linear_flo) (n := 63) (k := 17) (x := "_law_script") rfl (by decide) rfl ⟨rfl, by decide, by decide⟩ (fun w h Y => PySem.W.km_in_of Y) ?F
  case F =>
    intro w mg fa h Y KX G hmg
    have hT8 := PySem.W.km_tabs_of Y
    refine' LW.facts KX G ?z_int ?z_bool ?z_list ?z_tuple ?z_len ?z_range ?z_isinstance ?z_repr ?z_abs ?z_all ?z_any ?z_sorted ?z_dict ?g_gcd ?a_is_ratio ?l_is_ratio ?c_is_ratio ?k_is_ratio ?a_told ?l_told ?c_told ?k_told ?a_plus ?l_plus ?c_plus ?k_plus ?a_minus ?l_minus ?c_minus ?k_minus ?a_times ?l_times ?c_times ?k_times ?a_lower ?l_lower ?c_lower ?k_lower ?a_is_integer ?l_is_integer ?c_is_integer ?k_is_integer ?a_parts ?l_parts ?c_parts ?k_parts ?a_lowest ?l_lowest ?c_lowest ?k_lowest ?a_is_row ?l_is_row ?c_is_row ?k_is_row ?a_is_row_of ?l_is_row_of ?c_is_row_of ?k_is_row_of ?a_pair_of ?l_pair_of ?c_pair_of ?k_pair_of ?a_held ?l_held ?c_held ?k_held ?a_row_of ?l_row_of ?c_row_of ?k_row_of ?a_trace_of ?l_trace_of ?c_trace_of ?k_trace_of ?a_determinant_of ?l_determinant_of ?c_determinant_of ?k_determinant_of ?a_slope_of ?l_slope_of ?c_slope_of ?k_slope_of ?a_kind ?l_kind ?c_kind ?k_kind ?a_slope_of_form ?l_slope_of_form ?c_slope_of_form ?k_slope_of_form ?a_word ?l_word ?c_word ?k_word ?a_law_pen ?l_law_pen ?c_law_pen ?k_law_pen ?a_law_draw ?l_law_draw ?c_law_draw ?k_law_draw ?a_law_pick ?l_law_pick ?c_law_pick ?k_law_pick ?a_law_gcd ?l_law_gcd ?c_law_gcd ?k_law_gcd ?a_law_q ?l_law_q ?c_law_q ?k_law_q ?a_law_plus ?l_law_plus ?c_law_plus ?k_law_plus ?a_law_minus ?l_law_minus ?c_law_minus ?k_law_minus ?a_law_times ?l_law_times ?c_law_times ?k_law_times ?a_law_passed ?l_law_passed ?c_law_passed ?k_law_passed ?a_law_ratio ?l_law_ratio ?c_law_ratio ?k_law_ratio ?a_law_v_plain ?l_law_v_plain ?c_law_v_plain ?k_law_v_plain ?a_law_v_plus ?l_law_v_plus ?c_law_v_plus ?k_law_v_plus ?a_law_v_times ?l_law_v_times ?c_law_v_times ?k_law_v_times ?a_law_v_slope ?l_law_v_slope ?c_law_v_slope ?k_law_v_slope ?a_law_why ?l_law_why ?c_law_why ?k_law_why ?a_law_any ?l_law_any ?c_law_any ?k_law_any ?a_law_shown ?l_law_shown ?c_law_shown ?k_law_shown ?a_law_matrix ?l_law_matrix ?c_law_matrix ?k_law_matrix ?a_law_trace ?l_law_trace ?c_law_trace ?k_law_trace ?a_law_det ?l_law_det ?c_law_det ?k_law_det ?a_law_form_slope ?l_law_form_slope ?c_law_form_slope ?k_law_form_slope ?a_law_word ?l_law_word ?c_law_word ?k_law_word ?a_law_some ?l_law_some ?c_law_some ?k_law_some ?a_law ?l_law ?c_law ?k_law ?hn_ ?ht_ ?a_BadText ?ga_BadText ?gg_BadText ?sb_BadText ?hd_BadText ?ca_BadText ?mo_BadText ?kp_BadText ?xL_BadText ?rb_BadText ?sa_BadText ?ty_BadText ?i_BadText ?t_BadText ?lI_BadText ?cI_BadText ?kI_BadText ?n_BadText_column ?a_BadNumber ?ga_BadNumber ?gg_BadNumber ?sb_BadNumber ?hd_BadNumber ?ca_BadNumber ?mo_BadNumber ?kp_BadNumber ?xL_BadNumber ?rb_BadNumber ?sa_BadNumber ?ty_BadNumber ?i_BadNumber ?t_BadNumber ?lI_BadNumber ?cI_BadNumber ?kI_BadNumber ?n_BadNumber_what ?n_BadNumber_number ?a_BadRow ?ga_BadRow ?gg_BadRow ?sb_BadRow ?hd_BadRow ?ca_BadRow ?mo_BadRow ?kp_BadRow ?xL_BadRow ?rb_BadRow ?sa_BadRow ?ty_BadRow ?i_BadRow ?t_BadRow ?lI_BadRow ?cI_BadRow ?kI_BadRow ?n_BadRow_row ?e_xBadNumberBadText ?e_xBadNumberBadNumber ?e_xBadRowBadText ?e_xBadRowBadNumber ?e_xBadRowBadRow ?a_Kind ?p_pgKind ?p_hdKind ?p_poKind ?p_saKind ?p_mkKind ?p_kpKind ?p_noKind_trace ?p_noKind_determinant ?p_noKind_word ?iMKind_init ?nMKind_init ?lMKind_init ?cMKind_init ?kMKind_init ?p_hcKind ?p_hmKind ?p_meKind ?fin
    (case z_int => k_is); (case z_bool => k_is); (case z_list => k_is); (case z_tuple => k_is); (case z_len => k_is); (case z_range => k_is); (case z_isinstance => k_is); (case z_repr => k_is); (case z_abs => k_is); (case z_all => k_is); (case z_any => k_is); (case z_sorted => k_is); (case z_dict => k_is); (case g_gcd => k_is); (case a_is_ratio => k_is); (case l_is_ratio => k_is); (case c_is_ratio => k_is); (case k_is_ratio => k_is); (case a_told => k_is); (case l_told => k_is); (case c_told => k_is); (case k_told => k_is); (case a_plus => k_is); (case l_plus => k_is); (case c_plus => k_is); (case k_plus => k_is); (case a_minus => k_is); (case l_minus => k_is); (case c_minus => k_is); (case k_minus => k_is); (case a_times => k_is); (case l_times => k_is); (case c_times => k_is); (case k_times => k_is); (case a_lower => k_is); (case l_lower => k_is); (case c_lower => k_is); (case k_lower => k_is); (case a_is_integer => k_is); (case l_is_integer => k_is); (case c_is_integer => k_is); (case k_is_integer => k_is); (case a_parts => k_is); (case l_parts => k_is); (case c_parts => k_is); (case k_parts => k_is); (case a_lowest => k_is); (case l_lowest => k_is); (case c_lowest => k_is); (case k_lowest => k_is); (case a_is_row => k_is); (case l_is_row => k_is); (case c_is_row => k_is); (case k_is_row => k_is); (case a_is_row_of => k_is); (case l_is_row_of => k_is); (case c_is_row_of => k_is); (case k_is_row_of => k_is); (case a_pair_of => k_is); (case l_pair_of => k_is); (case c_pair_of => k_is); (case k_pair_of => k_is); (case a_held => k_is); (case l_held => k_is); (case c_held => k_is); (case k_held => k_is); (case a_row_of => k_is); (case l_row_of => k_is); (case c_row_of => k_is); (case k_row_of => k_is); (case a_trace_of => k_is); (case l_trace_of => k_is); (case c_trace_of => k_is); (case k_trace_of => k_is); (case a_determinant_of => k_is); (case l_determinant_of => k_is); (case c_determinant_of => k_is); (case k_determinant_of => k_is); (case a_slope_of => k_is); (case l_slope_of => k_is); (case c_slope_of => k_is); (case k_slope_of => k_is); (case a_kind => k_is); (case l_kind => k_is); (case c_kind => k_is); (case k_kind => k_is); (case a_slope_of_form => k_is); (case l_slope_of_form => k_is); (case c_slope_of_form => k_is); (case k_slope_of_form => k_is); (case a_word => k_is); (case l_word => k_is); (case c_word => k_is); (case k_word => k_is); (case a_law_pen => k_is); (case l_law_pen => k_is); (case c_law_pen => k_is); (case k_law_pen => k_is); (case a_law_draw => k_is); (case l_law_draw => k_is); (case c_law_draw => k_is); (case k_law_draw => k_is); (case a_law_pick => k_is); (case l_law_pick => k_is); (case c_law_pick => k_is); (case k_law_pick => k_is); (case a_law_gcd => k_is); (case l_law_gcd => k_is); (case c_law_gcd => k_is); (case k_law_gcd => k_is); (case a_law_q => k_is); (case l_law_q => k_is); (case c_law_q => k_is); (case k_law_q => k_is); (case a_law_plus => k_is); (case l_law_plus => k_is); (case c_law_plus => k_is); (case k_law_plus => k_is); (case a_law_minus => k_is); (case l_law_minus => k_is); (case c_law_minus => k_is); (case k_law_minus => k_is); (case a_law_times => k_is); (case l_law_times => k_is); (case c_law_times => k_is); (case k_law_times => k_is); (case a_law_passed => k_is); (case l_law_passed => k_is); (case c_law_passed => k_is); (case k_law_passed => k_is); (case a_law_ratio => k_is); (case l_law_ratio => k_is); (case c_law_ratio => k_is); (case k_law_ratio => k_is); (case a_law_v_plain => k_is); (case l_law_v_plain => k_is); (case c_law_v_plain => k_is); (case k_law_v_plain => k_is); (case a_law_v_plus => k_is); (case l_law_v_plus => k_is); (case c_law_v_plus => k_is); (case k_law_v_plus => k_is); (case a_law_v_times => k_is); (case l_law_v_times => k_is); (case c_law_v_times => k_is); (case k_law_v_times => k_is); (case a_law_v_slope => k_is); (case l_law_v_slope => k_is); (case c_law_v_slope => k_is); (case k_law_v_slope => k_is); (case a_law_why => k_is); (case l_law_why => k_is); (case c_law_why => k_is); (case k_law_why => k_is); (case a_law_any => k_is); (case l_law_any => k_is); (case c_law_any => k_is); (case k_law_any => k_is); (case a_law_shown => k_is); (case l_law_shown => k_is); (case c_law_shown => k_is); (case k_law_shown => k_is); (case a_law_matrix => k_is); (case l_law_matrix => k_is); (case c_law_matrix => k_is); (case k_law_matrix => k_is); (case a_law_trace => k_is); (case l_law_trace => k_is); (case c_law_trace => k_is); (case k_law_trace => k_is); (case a_law_det => k_is); (case l_law_det => k_is); (case c_law_det => k_is); (case k_law_det => k_is); (case a_law_form_slope => k_is); (case l_law_form_slope => k_is); (case c_law_form_slope => k_is); (case k_law_form_slope => k_is); (case a_law_word => k_is); (case l_law_word => k_is); (case c_law_word => k_is); (case k_law_word => k_is); (case a_law_some => k_is); (case l_law_some => k_is); (case c_law_some => k_is); (case k_law_some => k_is); (case a_law => k_is); (case l_law => k_is); (case c_law => k_is); (case k_law => k_is); (case hn_ => k_is); (case ht_ => k_is); (case a_BadText => k_is); (case ga_BadText => k_is); (case gg_BadText => k_is); (case sb_BadText => k_is); (case hd_BadText => k_is); (case ca_BadText => k_is); (case mo_BadText => k_is); (case kp_BadText => k_is); (case xL_BadText => k_is); (case rb_BadText => decide +kernel); (case sa_BadText => k_is); (case ty_BadText => k_is); (case i_BadText => k_is); (case t_BadText => k_is); (case lI_BadText => k_is); (case cI_BadText => k_is); (case kI_BadText => k_is); (case n_BadText_column => k_is); (case a_BadNumber => k_is); (case ga_BadNumber => k_is); (case gg_BadNumber => k_is); (case sb_BadNumber => k_is); (case hd_BadNumber => k_is); (case ca_BadNumber => k_is); (case mo_BadNumber => k_is); (case kp_BadNumber => k_is); (case xL_BadNumber => k_is); (case rb_BadNumber => decide +kernel); (case sa_BadNumber => k_is); (case ty_BadNumber => k_is); (case i_BadNumber => k_is); (case t_BadNumber => k_is); (case lI_BadNumber => k_is); (case cI_BadNumber => k_is); (case kI_BadNumber => k_is); (case n_BadNumber_what => k_is); (case n_BadNumber_number => k_is); (case a_BadRow => k_is); (case ga_BadRow => k_is); (case gg_BadRow => k_is); (case sb_BadRow => k_is); (case hd_BadRow => k_is); (case ca_BadRow => k_is); (case mo_BadRow => k_is); (case kp_BadRow => k_is); (case xL_BadRow => k_is); (case rb_BadRow => decide +kernel); (case sa_BadRow => k_is); (case ty_BadRow => k_is); (case i_BadRow => k_is); (case t_BadRow => k_is); (case lI_BadRow => k_is); (case cI_BadRow => k_is); (case kI_BadRow => k_is); (case n_BadRow_row => k_is); (case e_xBadNumberBadText => kernel_rfl); (case e_xBadNumberBadNumber => kernel_rfl); (case e_xBadRowBadText => kernel_rfl); (case e_xBadRowBadNumber => kernel_rfl); (case e_xBadRowBadRow => kernel_rfl); (case a_Kind => k_is); (case p_pgKind => (first | k_is | kernel_rfl)); (case p_hdKind => (first | k_is | kernel_rfl)); (case p_poKind => (first | k_is | kernel_rfl)); (case p_saKind => k_is); (case p_mkKind => (first | k_is | kernel_rfl)); (case p_kpKind => (first | k_is | kernel_rfl)); (case p_noKind_trace => (first | k_is | kernel_rfl)); (case p_noKind_determinant => (first | k_is | kernel_rfl)); (case p_noKind_word => (first | k_is | kernel_rfl)); (case iMKind_init => k_is); (case nMKind_init => (first | k_is | kernel_rfl)); (case lMKind_init => k_is); (case cMKind_init => k_is); (case kMKind_init => k_is); (case p_hcKind => k_is); (case p_hmKind => (first | k_is | kernel_rfl)); (case p_meKind => (first | k_is | kernel_rfl))
    case fin =>
      intro T TC0 TI0 h1
      have e : fa = GL.fA mg "law" := by
        have q := hmg.symm.trans T.law.g
        exact Value.ref.inj (Option.some.inj q)
      subst e
      have t1 := hT8 _ (List.mem_cons_self ..)
      exact LW.fin_law T TC0 TI0 h1 t1 (Option.isNone_iff_eq_none.mp (by kernel_rfl)) (by kernel_rfl)
