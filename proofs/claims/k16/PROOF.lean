import PyProof.Rows.All
import Wide.All
import OpenK.AllK
import Wide.FinOn
import HandS.ForMost
import HandS.ExcInit
import HandS.IsInst
import HandS.RaiseMore
import HandS.Wide
import HandS.Codes
import HandS.Steps
import HandS.Zip
import HandS.Evl
import HandS.ExcIs
import KE.KExcIs
import HandS.ExcValue
import HandS.Exc
import HandS.TryMany
import HandS.Gcd
import HandS.ExcField
import HandS.Lambda
import HandS.CallLocal
import HandS.Style
import HandS.StrMore
import HandS.WordsExc
import HandS.WideBits
import HandS.EndTab
import KE.KNestM
import HandS.Head0
import HandS.Head1
import HandS.Head2
import HandS.Head3
import HandS.HeadHook4
import KE.KOpsOwn
import HandS.OwnEq
import KE.KDictZip
import HandS.GenList
import KE.KMathG
import HandS.TryOnly
import HandS.TupAny
import HandS.List
import HandS.SortKw
import KE.DataMinMax
import HandS.NoneIn
import KE.KDictOf
import KE.KDictCopyH
import KE.KDictKeyed
import HandS.Conv
import HandS.More
import KE.KDictDisplayH
import HandS.Iter
import KE.GoesMore
import PyProof.EnumMake
import PyProof.Draws
import HandS.Sort
import HandS.RevRange
import HandS.Star
import HandS.DictComp
import KE.KEqDict
import PyProof.DictFindH
import KE.KDictPairs
import HandS.Walk
import PySem.Challenge.RW_flowpapers_k16_whole_series
set_option Elab.async false
set_option linter.all false
set_option maxRecDepth 100000
set_option maxHeartbeats 4000000
/-! Defs that are run where no repr is under way: what repr and == of data ask. -/
namespace GL
open PySem PySem.Spec PyProof.Rows L2

/-- nothing is being shown -/
abbrev Quiet (A : Around) : Prop := A.guards = some []

/-- as FnOk, asked only where nothing is being shown -/
structure OkG (P : Program) (w : World) (K : PySem.W.Frag) (mg : Str → Option Value) (base : Heap) (CX : CXT) (k : Nat) (f : Addr) (fd : FuncData) (ps : List Str) (sp : Sp) : Prop where
  len : ∀ vs H Q E, sp vs H Q E → vs.length = ps.length
  run : ∀ (A : Around) (outer : List Env) (s : Shared) (H : Hp) (args : Args) (us : List Value) (vs : List V) (Q : VK) (E : XK), Room k A → Quiet A → Env0 P w K mg base A outer s H →
    BindsTo s fd args (ps.zip us) → Vals vs us → sp vs H Q E → codeAny (model P w) A (.call (.ref f) args) (CR CX outer P w H s Q E) s

section
variable {P : Program} {w : World} {K : PySem.W.Frag} {mg : Str → Option Value} {base : Heap} {CX : CXT} {k : Nat} {f : Addr} {fd : FuncData} {ps : List Str} {sp : Sp}
end

section
variable {X : Cx} {CX : CXT} {k : Nat} {f : Addr} {fd : FuncData} {ps : List Str} {sp : Sp} {dvs : List V} {ds : List Value} {E : XK}
variable {x : Str} {p pos : Pos} {e : Expr} {es : List Expr} {t : TA}
end

/-! ### repr -/
/-! ### values at a heap that stays -/
section
variable {σ : L2.St} {H : Hp} {i : Nat} {v x y z : V} {ta tb te tv : TE} {b : Bool} {K : PySem.W.Frag} {D : Ends} {p : Addr} {kvs : List (Key × V)} {k : Key}
theorem v_I0 {g : Int → Int → V} {i j : Int} (ha : Val ta σ H (.int i)) (hb : Val tb σ H (.int j)) : Val (tOp (rI0 g) ta tb) σ H (g i j) := val_op ha hb fun Q q => ⟨i, j, rfl, rfl, q⟩
theorem v_I {C : Int → Int → Prop} {g : Int → Int → V} {i j : Int} (ha : Val ta σ H (.int i)) (hb : Val tb σ H (.int j)) (hc : C i j) : Val (tOp (rI C g) ta tb) σ H (g i j) := val_op ha hb fun Q q => ⟨i, j, rfl, rfl, hc, q⟩
theorem v_add {i j : Int} (ha : Val ta σ H (.int i)) (hb : Val tb σ H (.int j)) : Val (tOp (rI0 fun i j => .int (i + j)) ta tb) σ H (.int (i + j)) := v_I0 ha hb
theorem v_sub {i j : Int} (ha : Val ta σ H (.int i)) (hb : Val tb σ H (.int j)) : Val (tOp (rI0 fun i j => .int (i - j)) ta tb) σ H (.int (i - j)) := v_I0 ha hb
theorem v_mul {C : Int → Int → Prop} {i j : Int} (ha : Val ta σ H (.int i)) (hb : Val tb σ H (.int j)) (hc : C i j) : Val (tOp (rI C fun i j => .int (i * j)) ta tb) σ H (.int (i * j)) := v_I ha hb hc
theorem v_pow {i j : Int} (ha : Val ta σ H (.int i)) (hb : Val tb σ H (.int j)) (hc : 0 ≤ j ∧ j ≤ 1000000 ∧ i.natAbs < 2 ^ 64) : Val (tOp (rI CPow fun i j => .int (i ^ j.toNat)) ta tb) σ H (.int (i ^ j.toNat)) := v_I ha hb hc
theorem v_mod {C : Int → Int → Prop} {i j : Int} (ha : Val ta σ H (.int i)) (hb : Val tb σ H (.int j)) (hc : C i j) : Val (tOp (rI C fun i j => .int (i % j)) ta tb) σ H (.int (i % j)) := v_I ha hb hc
theorem v_div {C : Int → Int → Prop} {i j : Int} (ha : Val ta σ H (.int i)) (hb : Val tb σ H (.int j)) (hc : C i j) : Val (tOp (rI C fun i j => .int (i / j)) ta tb) σ H (.int (i / j)) := v_I ha hb hc
theorem v_fmod {C : Int → Int → Prop} {i j : Int} (ha : Val ta σ H (.int i)) (hb : Val tb σ H (.int j)) (hc : C i j) : Val (tOp (rI C fun i j => .int (i.fmod j)) ta tb) σ H (.int (i.fmod j)) := v_I ha hb hc
theorem v_fdiv {C : Int → Int → Prop} {i j : Int} (ha : Val ta σ H (.int i)) (hb : Val tb σ H (.int j)) (hc : C i j) : Val (tOp (rI C fun i j => .int (i.fdiv j)) ta tb) σ H (.int (i.fdiv j)) := v_I ha hb hc
theorem v_get (h : Val te σ H (.ref p)) (hp : H p = some (.dK kvs)) (hv : valV kvs k = some v) : Val (tDGet te (tC (kV k))) σ H v := fun Q q => h _ ⟨p, v, rfl, .inl ⟨kvs, k, .inl hp, rfl, hv.symm⟩, q⟩
theorem v_int1 {i : Int} (h : Val te σ H (.int i)) : Val (tCB (fun xs H Q => (∃ i, xs = [.int i] ∧ Q (.int i) H) ∨ ∃ k, xs = [.bl k] ∧ Q (.int (if k then 1 else 0)) H) (tCons te tNil)) σ H (.int i) :=
  fun Q q => h _ (.inl ⟨i, rfl, q⟩)
theorem v_len {xs : List V} (h : Val te σ H (.ref p)) (hx : SqL K H p xs ∨ SqT K H p xs) : Val (tCB (fun xs H Q => ∃ p ys, xs = [.ref p] ∧ (SqL K H p ys ∨ SqT K H p ys) ∧ Q (.int ys.length) H) (tCons te tNil)) σ H (.int (xs.length : Int)) :=
  fun Q q => h _ ⟨p, xs, rfl, hx, q⟩
theorem v_ixL {xs : List V} {n : Nat} (h : Val te σ H (.ref p)) (hi : Val tb σ H (.int (n : Int))) (hx : SqL K H p xs) (he : xs[n]? = some v) : Val (tOp (rIxL K) te tb) σ H v :=
  val_op h hi fun Q q => ⟨p, xs, n, v, rfl, rfl, hx, atI_nat he, q⟩
theorem v_ixT {xs : List V} {n : Nat} (h : Val te σ H (.ref p)) (hi : Val tb σ H (.int (n : Int))) (hx : SqT K H p xs) (he : xs[n]? = some v) : Val (tOp (rIxT K) te tb) σ H v :=
  val_op h hi fun Q q => ⟨p, xs, n, v, rfl, rfl, hx, atI_nat he, q⟩
/-- values of an argument list -/
def VA (ta : TA) (σ : L2.St) (H : Hp) (vs : List V) : Prop := ∀ Q : List V → Hp → Prop, Q vs H → ta σ H Q
theorem va_nil : VA tNil σ H [] := fun _ q => q
theorem va_cons {tr : TA} {vs : List V} (h : Val te σ H v) (hr : VA tr σ H vs) : VA (tCons te tr) σ H (v :: vs) := fun Q q => h _ (hr _ q)
theorem l_lst {ta : TA} {vs : List V} {Q : VK} (h : VA ta σ H vs) (hl : vs.length ≤ 100000) (q : ∀ p, H p = none → Q (.ref p) (upd H p (.lst vs))) : tLst ta σ H Q := h _ ⟨Nat.le_trans hl (by decide), q⟩
theorem l_tup {ta : TA} {vs : List V} {Q : VK} (h : VA ta σ H vs) (hl : vs.length ≤ 100000) (q : ∀ p, H p = none → Q (.ref p) (upd H p (.tup vs))) : tTup ta σ H Q := h _ ⟨Nat.le_trans hl (by decide), q⟩
theorem v_cb {r : List V → Hp → VK → Prop} {ta : TA} {vs : List V} {z : V} (h : VA ta σ H vs) (hr : ∀ Q : VK, Q z H → r vs H Q) : Val (tCB r ta) σ H z := fun Q q => h _ (hr Q q)
theorem c_call {sp : Sp} {E : XK} {ta : TA} {vs : List V} {Q : VK} (h : VA ta σ H vs) (q : sp vs H Q E) : tCall sp [] E ta σ H Q := h _ (by rw [List.append_nil]; exact q)
theorem s_put (h0 : Val te σ H (.ref p)) (h : Val tv σ H v) (hp : H p = some (.dK kvs)) (hl : kvs.length ≤ 100) (q : D.nx σ (upd H p (.dK (putK kvs k v)))) : sDPut te (tC (kV k)) tv D σ H :=
  h _ (h0 _ ⟨p, _, rfl, DPut.k hp (Nat.lt_of_le_of_lt hl (by decide)), q⟩)
theorem a_I {g : Int → Int → Bool} {i j : Int} (ha : Val ta σ H (.int i)) (hb : Val tb σ H (.int j)) : Ans (tTest (tOp (rI0 fun i j => .bl (g i j)) ta tb)) σ H (g i j) := ans_cmp ha hb fun Q q => ⟨i, j, rfl, rfl, q⟩
theorem st_if {t : TT} {t1 t2 : TS} (h : Ans t σ H b) (h1 : b = true → t1 D σ H) (h2 : b = false → t2 D σ H) : tIfS t t1 t2 D σ H := by
  cases b with
  | true => exact st_yes h (h1 rfl)
  | false => exact st_no h (h2 rfl)
end

/-- a walk over enumerate of a list -/
theorem for_enumL {K : PySem.W.Frag} {a : Addr} {xs : List V} {g : TG} {tb : TS} {D : Ends} {σ : L2.St} {H : Hp} (Pv : Nat → L2.St → Hp → Prop) (h0 : Pv 0 σ H) (hq : ∀ i σ H, Pv i σ H → SqL K H a xs)
    (hs : ∀ (i : Nat) (x : V) (T : Addr) (σ : L2.St) (H : Hp), xs[i]? = some x → Pv i σ H → H T = none → g (.ref T) σ (upd H T (.tup [.int (i : Nat), x])) fun σ2 H2 => tb { D with nx := Pv (i + 1), ct := Pv (i + 1), bk := D.nx } σ2 H2)
    (hd : ∀ σ H, Pv xs.length σ H → D.nx σ H) :
    ∃ W : Nat → Nat → L2.St → Hp → Prop, (∃ m, W 0 m σ H) ∧ ∀ i m σ H, W i m σ H →
      ((Ite K a).stop i H ∧ D.nx σ H) ∨ ((Ite K a).go i H ∧ ∃ N : L2.St → Hp → Prop, (∀ σ' H', N σ' H' → ∃ m', m' < m ∧ W (i + 1) m' σ' H') ∧ ∀ v H', (Ite K a).yld i H v H' → g v σ H' fun σ2 H2 => tb { D with nx := N, ct := N, bk := D.nx } σ2 H2) := by
  refine ⟨fun i m σ H => m = xs.length - i ∧ i ≤ xs.length ∧ Pv i σ H, ⟨_, rfl, Nat.zero_le _, h0⟩, ?_⟩
  rintro i m σ H ⟨rfl, hi, p⟩
  have q := hq i σ H p
  rcases Nat.lt_or_ge i xs.length with lt | ge
  · refine .inr ⟨⟨xs, xs[i], q, List.getElem?_eq_getElem lt⟩, Pv (i + 1), fun σ' H' p' => ⟨xs.length - (i + 1), by omega, rfl, lt, p'⟩, ?_⟩
    rintro v H' ⟨T, x, rfl, hT, rfl, f⟩
    exact hs i x T σ H (f xs q) p hT
  · obtain rfl : i = xs.length := by omega
    exact .inl ⟨⟨xs, q, Nat.le_refl _⟩, hd σ H p⟩
theorem Same.new' {H : Hp} {p : Addr} {o : HO} (h : H p = none) : Same H (upd H p o) := fun b u e => by
  rw [upd_ne (ne_of_none e h)]
  exact e
section
variable {σ : L2.St} {H : Hp} {i : Nat} {ta : TE} {tb : TA} {D : Ends} {l : Addr} {xs ys : List V}
end
/-! ### statements in a row: what follows stays as it is written -/
section
variable {σ : L2.St} {H : Hp} {i : Nat} {ta te tv : TE} {tb : TA} {D : Ends} {l p : Addr} {xs ys : List V} {tz t1 t2 : TS} {v : V} {kvs : List (Key × V)} {k : Key} {t : TT} {b : Bool}
theorem q_set (h : Val te σ H v) (q : tz D (σ.set i (some v)) H) : tSeq (tAsg te (gName i)) tz D σ H := h _ q
/-- any expression that is stored: its own reading, then what follows -/
theorem q_asg (h : te σ H fun v H' => tz D (σ.set i (some v)) H') : tSeq (tAsg te (gName i)) tz D σ H := h
/-- an if without else -/
theorem q_when (h : Ans t σ H b) (h1 : b = true → t1 { D with nx := tz D } σ H) (h2 : b = false → tz D σ H) : tSeq (tIfS t t1 tNext) tz D σ H := st_if (D := { D with nx := tz D }) h h1 h2
theorem q_unless (h : Ans t σ H false) (q : tz D σ H) : tSeq (tIfS t t1 tNext) tz D σ H := st_no (D := { D with nx := tz D }) h q
theorem r_ret (h : te σ H D.rt) : tRet te D σ H := h
end
/-! ### expressions that make things -/
def EM (te : TE) (σ : L2.St) (H : Hp) (P : V → Hp → Prop) : Prop := ∀ Q : VK, (∀ v H', Same H H' → P v H' → Q v H') → te σ H Q
def VM (tb : TA) (σ : L2.St) (H : Hp) (R : List V → Hp → Prop) : Prop := ∀ Q : List V → Hp → Prop, (∀ vs H', Same H H' → R vs H' → Q vs H') → tb σ H Q
def Stays {α : Type} (R : α → Hp → Prop) : Prop := ∀ x H1 H2, Same H1 H2 → R x H1 → R x H2
/-- a row whose items are of one kind each, by their places from k on -/
def Run (P : Nat → V → Hp → Prop) : Nat → List V → Hp → Prop
  | _, [], _ => True
  | k, v :: r, H => P k v H ∧ Run P (k + 1) r H
theorem Run.keep {P : Nat → V → Hp → Prop} (st : ∀ k, Stays (P k)) : ∀ {k : Nat} {xs : List V} {H1 H2 : Hp}, Same H1 H2 → Run P k xs H1 → Run P k xs H2
  | _, [], _, _, _, _ => trivial
  | _, _ :: _, _, _, s, ⟨a, b⟩ => ⟨st _ _ _ _ s a, Run.keep st s b⟩
theorem Run.app {P : Nat → V → Hp → Prop} {H : Hp} : ∀ {k : Nat} {xs ys : List V}, Run P k xs H → Run P (k + xs.length) ys H → Run P k (xs ++ ys) H
  | _, [], _, _, b => b
  | k, v :: r, ys, ⟨a, c⟩, b => ⟨a, Run.app c (by rw [List.length_cons] at b; rw [show k + 1 + r.length = k + (r.length + 1) by omega]; exact b)⟩
theorem Run.get {P : Nat → V → Hp → Prop} {H : Hp} : ∀ {k : Nat} {xs : List V} {i : Nat} {v : V}, Run P k xs H → xs[i]? = some v → P (k + i) v H
  | _, [], _, _, _, e => by simp at e
  | _, _ :: _, 0, _, ⟨a, _⟩, e => by simp at e; subst e; exact a
  | k, _ :: r, i + 1, v, ⟨_, b⟩, e => by
    have q := Run.get (i := i) (v := v) b (by simpa using e)
    rw [show k + (i + 1) = k + 1 + i by omega]
    exact q
/-- the row's kinds, and how many -/
def Rows (P : Nat → V → Hp → Prop) (k n : Nat) (xs : List V) (H : Hp) : Prop := Run P k xs H ∧ xs.length = n
theorem Rows.stays {P : Nat → V → Hp → Prop} (st : ∀ k, Stays (P k)) {k n : Nat} : Stays (Rows P k n) := fun _ _ _ s h => ⟨Run.keep st s h.1, h.2⟩
section
variable {σ : L2.St} {H : Hp} {i : Nat} {ta te : TE} {tb tr : TA} {D : Ends} {l p : Addr} {xs ys ws : List V} {tz : TS} {P : Nat → V → Hp → Prop} {k n : Nat} {R : List V → Hp → Prop}
end
/-! ### walks, what follows stays as it is written -/
section
variable {K : PySem.W.Frag} {σ : L2.St} {H : Hp} {g : TG} {ta : TA} {te : TE} {tb tz : TS} {D : Ends} {a b : Addr} {xs ys : List V}
theorem q_forR1 {n : Nat} (h : VA ta σ H [.int (n : Int)]) (hn : n ≤ 100000) (Pv : Nat → L2.St → Hp → Prop) (h0 : Pv 0 σ H)
    (hs : ∀ i σ H, i < n → Pv i σ H → g (.int (i : Int)) σ H fun σ2 H2 => tb { D with nx := Pv (i + 1), ct := Pv (i + 1), bk := tz D } σ2 H2) (hd : ∀ σ H, Pv n σ H → tz D σ H) : tSeq (tFor (iRng1 ta) g tb) tz D σ H :=
  h _ ⟨(n : Int), rfl, by omega, by omega, for_range (lo := 0) (n := (n : Int).toNat) (D := { D with nx := tz D }) Pv h0 (fun i σ H hi p => by rw [Int.zero_add]; exact hs i σ H (by omega) p) (fun σ H p => hd σ H (by rw [Int.toNat_natCast] at p; exact p))⟩
theorem q_forE (h : VA ta σ H [.ref a]) (hx : SqL K H a xs) (Pv : Nat → L2.St → Hp → Prop) (h0 : Pv 0 σ H) (hq : ∀ i σ H, Pv i σ H → SqL K H a xs)
    (hs : ∀ (i : Nat) (x : V) (T : Addr) (σ : L2.St) (H : Hp), xs[i]? = some x → Pv i σ H → H T = none → g (.ref T) σ (upd H T (.tup [.int (i : Nat), x])) fun σ2 H2 => tb { D with nx := Pv (i + 1), ct := Pv (i + 1), bk := tz D } σ2 H2)
    (hd : ∀ σ H, Pv xs.length σ H → tz D σ H) : tSeq (tFor (iEnum K ta) g tb) tz D σ H :=
  h _ ⟨a, xs, rfl, hx, for_enumL (D := { D with nx := tz D }) Pv h0 hq hs hd⟩
/-- two names from a pair -/
theorem g_two {i j : Nat} {x y : V} {T : Addr} {K' : L2.St → Hp → Prop} (hT : SqT K H T [x, y]) (q : K' ((σ.set i (some x)).set j (some y)) H) : gTup K 2 (gCons (gName i) (gCons (gName j) gNil)) (.ref T) σ H K' :=
  ⟨T, _, rfl, hT, rfl, x, _, rfl, y, _, rfl, rfl, q⟩
end
section
variable {K : PySem.W.Frag} {σ : L2.St} {H : Hp} {t1 te to : TE} {tb : TA} {D : Ends} {l : Addr} {xs : List V} {v x : V} {i : Nat} {R : List V → Hp → Prop}
theorem g_name {K' : L2.St → Hp → Prop} (q : K' (σ.set i (some v)) H) : gName i v σ H K' := q
theorem s_appC (h : Val to σ H (.ref l)) (hl : H l = some (.lst xs)) (he : te σ H fun v H1 => rAppend (.ref l) [v] H1 fun _ H2 => D.nx σ H2) : tDrop (tBM K "list" rAppend to (tCons te tNil)) D σ H := h _ ⟨.inl ⟨rfl, _, SqL.of hl⟩, he⟩
/-- f(x, [e, ..]) -/
theorem c_callL {sp : Sp} {E : XK} {Q : VK} (h1 : Val t1 σ H x) (st : Stays R) (h2 : VM tb σ H R) (hl : ∀ vs H', R vs H' → vs.length ≤ 1000) (q : ∀ l vs H', Same H H' → H' l = some (.lst vs) → R vs H' → sp [x, .ref l] H' Q E) :
    tCall sp [] E (tCons t1 (tCons (tLst tb) tNil)) σ H Q :=
  h1 _ (h2 _ fun vs H1 s1 r1 => ⟨Nat.le_trans (hl vs H1 r1) (by decide), fun a ha => q a vs _ (s1.trans (Same.new' ha)) upd_same (st _ _ _ (Same.new' ha) r1)⟩)
theorem v_neg {n : Int} (h : Val te σ H (.int n)) : Val (tUn (rU fun i => .int (-i)) te) σ H (.int (-n)) := fun Q q => h _ ⟨n, rfl, q⟩
theorem em_tup {ws : List V} {P : V → Hp → Prop} (h : VA tb σ H ws) (hl : ws.length ≤ 100000) (q : ∀ a H', H' a = some (.tup ws) → P (.ref a) H') : EM (tTup tb) σ H P := fun Q k => l_tup h hl fun a ha => k _ _ (Same.new' ha) (q a _ upd_same)
end
section
variable {K : PySem.W.Frag} {σ : L2.St} {H : Hp} {t1 t2 te to : TE} {ta tb : TA} {tu tw tz : TS} {D : Ends} {a b l : Addr} {xs ys : List V} {x y v w : V} {i j : Nat} {r : R2} {Q : VK}
theorem Val.is (h : Val te σ H v) (e : v = w) : Val te σ H w := e ▸ h
/-- an if over a comparison, part by part -/
theorem st_cmp (h : t1 σ H fun x H1 => t2 σ H1 fun y H2 => r x y H2 fun z H3 => ∃ b, z = .bl b ∧ if b = true then tu D σ H3 else tw D σ H3) : tIfS (tTest (tOp r t1 t2)) tu tw D σ H := h
theorem q_cmp (h : t1 σ H fun x H1 => t2 σ H1 fun y H2 => r x y H2 fun z H3 => ∃ b, z = .bl b ∧ if b = true then tu { D with nx := tz D } σ H3 else tw { D with nx := tz D } σ H3) : tSeq (tIfS (tTest (tOp r t1 t2)) tu tw) tz D σ H := h
theorem ta_two {Q : List V → Hp → Prop} (h : t1 σ H fun v H1 => t2 σ H1 fun w H2 => Q [v, w] H2) : tCons t1 (tCons t2 tNil) σ H Q := h
theorem cb_one {r : List V → Hp → VK → Prop} (h : te σ H fun v H1 => r [v] H1 Q) : tCB r (tCons te tNil) σ H Q := h
theorem l_slHi (h : Val te σ H (.ref a)) (hx : SqL K H a xs) {n : Int} (hi : Val t1 σ H (.int n)) (q : ∀ p H', Same H H' → H' p = some (.lst (cutV xs none (some n))) → Q (.ref p) H') : tSl (rSlL K) te tNoPart (tPart t1) σ H Q :=
  h _ (hi _ ⟨n, rfl, a, xs, rfl, hx, fun p hp => q p _ (Same.new' hp) upd_same⟩)
end
/-! ### what the top has written, by names -/
@[irreducible] def fA (mg : Str → Option Value) (x : Str) : Addr := match mg x with
  | some (.ref a) => a
  | _ => 0
@[irreducible] def fDat (K : PySem.W.Frag) (f : Addr) : FuncData := match K.lookup f with
  | some ⟨_, _, .func fd, _⟩ => fd
  | _ => default
/-- the def x of the text -/
structure Df (K : PySem.W.Frag) (mg : Str → Option Value) (x : Str) (st : Stmt) (ps : List Str) : Prop where
  g : mg x = some (.ref (fA mg x))
  F : Fun K x x st (fA mg x) (fDat K (fA mg x))
  b : Binds K (fDat K (fA mg x)) ps []
theorem fA_of {mg : Str → Option Value} {x : Str} {a : Addr} (h : mg x = some (.ref a)) : fA mg x = a := by
  unfold fA
  rw [h]
theorem fDat_of {K : PySem.W.Frag} {f : Addr} {oc : Value} {od : Option Addr} {fd : FuncData} {sl : Array (Option Value)} (h : K.lookup f = some ⟨oc, od, .func fd, sl⟩) : fDat K f = fd := by
  unfold fDat
  rw [h]
theorem Df.mk' {K : PySem.W.Frag} {mg : Str → Option Value} {x : Str} {st : Stmt} {ps : List Str} {h : Heap} {f : Addr} {oc : Value} {od an : Option Addr} {osl : Array (Option Value)} {kV doc pm cdv ct : Value} (X : K.In h) (G : h.Ns mainGlobals mg)
    (a : PySem.W.nsIn K mainGlobals x = some (some (.ref f))) (l : K.lookup f = some ⟨oc, od, .func (PySem.W.fnOf x x (defArgs st) (defBody st) (defScope st) .none kV doc pm an cdv ct), osl⟩)
    (c : PySem.W.codeIn K cdv x = true) (k : PySem.W.keepIn K (.ref f) = true)
    (bi : ∀ (kV doc pm : Value) (an : Option Addr) (cdv ct : Value) (us : List Value), us.length = ps.length → bindArgs (PySem.W.fnOf x x (defArgs st) (defBody st) (defScope st) .none kV doc pm an cdv ct) ⟨us, []⟩ = pure (ps.zip us)) : Df K mg x st ps := by
  have e := PySem.W.mg_of X G a
  have F := fun_mk (st := st) l c k
  have e1 := fA_of e
  have e2 := fDat_of l
  refine ⟨by rw [e1]; exact e, ?_, ?_⟩
  · rw [e1, e2]; exact F
  · rw [e1, e2]; exact F.binds bi
section
variable {X : Cx} {k : Nat} {x : Str} {st : Stmt} {ps : List Str} {sp : Sp} {p pos : Pos} {e : Expr} {es : List Expr} {t : TA}
/-- a call of the def x -/
theorem pe_c (d : Df X.K X.mg x st ps) (G : FnOk X.prog X.w X.K X.mg X.base CX0 k (fA X.mg x) (fDat X.K (fA X.mg x)) ps sp) (hr : Room k X.A) (ha : PA X (e :: es) t) (hg : Gl X x := by rfl) (hdb : (x == ("__debug__" : Str)) = false := by decide)
    (he : starEach (e :: es) X.env = (false, eval e X.env) :: starEach es X.env := by rfl) (hpl : (backTo pos (starEach es X.env)).any (·.1) = false := by rfl) : PE X (.Call (.Name x p) (e :: es) [] pos) (tCall sp [] E0 t) :=
  pe_call G hr hg d.g d.F.kp d.b .nil pass0 ha hdb he hpl
/-- a class's name as a value -/
theorem pe_cls {C : Addr} (hm : X.mg x = some (.ref C)) (hg : Gl X x := by rfl) (hd : (x == ("__debug__" : Str)) = false := by decide) : PE X (.Name x pos) (tC (.ref C)) := pe_glob hg hm rfl hd
end
theorem hu64 {A : Around} {k : Nat} (hr : Room k A) : A.units + 64 < cLine := hr.units

/-! ### the law's end, where nothing is being shown -/
section
variable {P : Program} {w : World} {K : PySem.W.Frag} {mg mb : Str → Option Value} {k : Nat} {fa a : Addr} {fd : FuncData} {x : Str} {sp : Sp} {s₁ : Shared} {vs : List Value} {ns : List Int}
/-- what the law's call must do -/
abbrev Law (P : Program) (w : World) (fa a : Addr) (s₁ : Shared) : Prop :=
  codeAny (model P w) callerA (.call (.ref fa) ⟨[.ref a], []⟩) (fun r s' => r = .ok (.ret (.bool true)) ∧ OldK s₁.heap s'.heap ∧ s'.os = s₁.os ∧ AllBare s'.gens) s₁
end
end GL

/-! Exceptions of the program's own as values: made, asked for their class, their fields read. -/
namespace GL
open PySem PySem.Spec PyProof.Rows L2

/-- an exception of the class at C stands at a, with these fields (none: it has no dict of its own) -/
inductive IsEx (H : Hp) (a C : Addr) : List (Str × V) → Prop
  | bare (e : H a = some (ExO (.ref C) a)) : IsEx H a C []
  | full {dx : Addr} {fs : List (Str × V)} (e : H a = some (exo a C (some dx))) (ed : H dx = some (exd dx fs)) : IsEx H a C fs
section
variable {X : Cx} {pins : List (Addr × Obj)} {σ : L2.St} {H : Hp} {s : Shared} {a C : Addr} {fs : List (Str × V)}
/-! ### isinstance -/
/-! ### a field -/
/-! ### made: by an __init__ of its own, by none -/
end

/-! ### the classes, by names -/
@[irreducible] def iA (K : PySem.W.Frag) (C : Addr) : Addr := match PySem.W.findIn K (.ref C) "__init__" with
  | some (some (.ref f)) => f
  | _ => 0
/-- what is asked of a class without an __init__ -/
structure Cl0 (K : PySem.W.Frag) (mg : Str → Option Value) (x : Str) : Prop where
  g : mg x = some (.ref (fA mg x))
  k : PySem.W.keepIn K (.ref (fA mg x)) = true
  e : ExcC K (fA mg x)
  q : PySem.W.excIn K (fA mg x) [.type "ValueError", .type "Exception", .type "BaseException", .type "object"] "ValueError.__new__" = true
/-- .. of one with an __init__ that stores the fields fs -/
structure ClI (K : PySem.W.Frag) (mg : Str → Option Value) (x qual : Str) (st : Stmt) (ps fs : List Str) : Prop where
  g : mg x = some (.ref (fA mg x))
  e : ExcC K (fA mg x)
  o : OexC K (fA mg x)
  i : PySem.W.findIn K (.ref (fA mg x)) "__init__" = some (some (.ref (iA K (fA mg x))))
  t : PySem.W.typeIn K (.ref (iA K (fA mg x))) = some (.type "function")
  F : Fun K "__init__" qual st (iA K (fA mg x)) (fDat K (iA K (fA mg x)))
  b : Binds K (fDat K (iA K (fA mg x))) ps []
  n : ∀ f ∈ fs, PySem.W.findIn K (.ref (fA mg x)) f = some none
theorem iA_of {K : PySem.W.Frag} {C f : Addr} (h : PySem.W.findIn K (.ref C) "__init__" = some (some (.ref f))) : iA K C = f := by
  unfold iA
  rw [h]
theorem ClI.mk' {K : PySem.W.Frag} {mg : Str → Option Value} {x qual : Str} {st : Stmt} {ps fs : List Str} {h : Heap} {C f : Addr} {oc : Value} {od an : Option Addr} {osl : Array (Option Value)} {kV doc pm cdv ct : Value} (X : K.In h) (G : h.Ns mainGlobals mg)
    (a : PySem.W.nsIn K mainGlobals x = some (some (.ref C))) (e : ExcC K C) (o : OexC K C) (i : PySem.W.findIn K (.ref C) "__init__" = some (some (.ref f))) (t : PySem.W.typeIn K (.ref f) = some (.type "function"))
    (l : K.lookup f = some ⟨oc, od, .func (PySem.W.fnOf "__init__" qual (defArgs st) (defBody st) (defScope st) .none kV doc pm an cdv ct), osl⟩) (c : PySem.W.codeIn K cdv qual = true) (k : PySem.W.keepIn K (.ref f) = true)
    (bi : ∀ (kV doc pm : Value) (an : Option Addr) (cdv ct : Value) (us : List Value), us.length = ps.length → bindArgs (PySem.W.fnOf "__init__" qual (defArgs st) (defBody st) (defScope st) .none kV doc pm an cdv ct) ⟨us, []⟩ = pure (ps.zip us))
    (n : ∀ f ∈ fs, PySem.W.findIn K (.ref C) f = some none) : ClI K mg x qual st ps fs := by
  have m := PySem.W.mg_of X G a
  have c1 := fA_of m
  have c2 : iA K (fA mg x) = f := by rw [c1]; exact iA_of i
  have c3 := fDat_of l
  have F := fun_mk (st := st) l c k
  refine ⟨by rw [c1]; exact m, by rw [c1]; exact e, by rw [c1]; exact o, by rw [c2, c1]; exact i, by rw [c2]; exact t, by rw [c2, c3]; exact F, by rw [c2, c3]; exact F.binds bi, by rw [c1]; exact n⟩
def spI1 (C : Addr) (f : Str) : Sp := fun vs H Q _ => ∃ a v, vs = [.ref a, v] ∧ H a = some (exo a C none) ∧ ∀ dx, H dx = none → dx ≠ a → Q .non (upd (upd H dx (exd dx [(f, v)])) a (exo a C (some dx)))
def spI2 (C : Addr) (f g : Str) : Sp := fun vs H Q _ => ∃ a v u, vs = [.ref a, v, u] ∧ H a = some (exo a C none) ∧ ∀ dx, H dx = none → dx ≠ a → Q .non (upd (upd (upd H dx (exd dx [(f, v)])) a (exo a C (some dx))) dx (exd dx [(g, u), (f, v)]))
section
variable {K : PySem.W.Frag} {σ : L2.St} {H : Hp} {D : Ends} {a C dx : Addr} {f g : Str} {v u : V} {ta : TA} {Q : VK}
theorem s_ost1 (T : OexC K C) (n : PySem.W.findIn K (.ref C) f = some none) (h : H a = some (exo a C none)) (h0 : σ[0]? = some (some (.ref a))) {i : Nat} (h1 : σ[i]? = some (some v))
    (q : ∀ dx, H dx = none → dx ≠ a → D.nx σ (upd (upd H dx (exd dx [(f, v)])) a (exo a C (some dx)))) : tOst K f (tVar 0) (tVar i) D σ H := ⟨v, h1, _, h0, a, C, rfl, T, n, .inl ⟨h, q⟩⟩
theorem s_ost2 (T : OexC K C) (n : PySem.W.findIn K (.ref C) g = some none) (h : H a = some (exo a C (some dx))) (hd : H dx = some (exd dx [(f, v)])) (h0 : σ[0]? = some (some (.ref a))) {i : Nat} (h1 : σ[i]? = some (some u))
    (q : D.nx σ (upd H dx (exd dx [(g, u), (f, v)]))) : tOst K g (tVar 0) (tVar i) D σ H := ⟨u, h1, _, h0, a, C, rfl, T, n, .inr ⟨dx, _, h, hd, by show 1 ≤ 900; decide, q⟩⟩
end
end GL

/-! What data the heap holds, dicts among it, and what repr tells of it. -/
namespace GL
open PySem PySem.Spec PyProof.Rows L2

def keyD : Key → PyData
  | .inl i => .int i
  | .inr x => .str x
mutual
/-- the data of a value: as Dp, dicts too -/
inductive Dd (K : PySem.W.Frag) (H : Hp) : V → PyData → Prop
  | non : Dd K H .non .none
  | bl (b : Bool) : Dd K H (.bl b) (.bool b)
  | int (i : Int) : Dd K H (.int i) (.int i)
  | str (x : Str) : Dd K H (.str x) (.str x)
  | lst {a : Addr} {xs : List V} {ds : List PyData} : SqL K H a xs → DdAll K H xs ds → Dd K H (.ref a) (.list ds)
  | tup {a : Addr} {xs : List V} {ds : List PyData} : SqT K H a xs → DdAll K H xs ds → Dd K H (.ref a) (.tuple ds)
  | dic {a : Addr} {kvs : List (Key × V)} {ps : List (PyData × PyData)} : H a = some (.dK kvs) → DdKv K H kvs ps → Dd K H (.ref a) (.dict ps)
inductive DdAll (K : PySem.W.Frag) (H : Hp) : List V → List PyData → Prop
  | nil : DdAll K H [] []
  | cons {v : V} {vs : List V} {d : PyData} {ds : List PyData} : Dd K H v d → DdAll K H vs ds → DdAll K H (v :: vs) (d :: ds)
inductive DdKv (K : PySem.W.Frag) (H : Hp) : List (Key × V) → List (PyData × PyData) → Prop
  | nil : DdKv K H [] []
  | cons {k : Key} {v : V} {r : List (Key × V)} {d : PyData} {ps : List (PyData × PyData)} : Dd K H v d → DdKv K H r ps → DdKv K H ((k, v) :: r) ((keyD k, d) :: ps)
end
theorem sqt_same {K : PySem.W.Frag} {H H' : Hp} {a : Addr} {xs : List V} (e : Same H H') (h : SqT K H a xs) : SqT K H' a xs := by
  rcases h with (h | ⟨o, h⟩) | h
  · exact .inl (.inl (e _ _ h))
  · exact .inl (.inr ⟨o, e _ _ h⟩)
  · exact .inr h
mutual
theorem Dd.same {K : PySem.W.Frag} {H H' : Hp} (s : Same H H') : ∀ (d : PyData) (v : V), Dd K H v d → Dd K H' v d
  | .none, _, h => by cases h; exact .non
  | .bool _, _, h => by cases h; exact .bl _
  | .int _, _, h => by cases h; exact .int _
  | .str _, _, h => by cases h; exact .str _
  | .list ds, _, h => by
    cases h with
    | lst a b => exact .lst (s.seq a) (Dd.sameAll s ds _ b)
  | .tuple ds, _, h => by
    cases h with
    | tup a b => exact .tup (sqt_same s a) (Dd.sameAll s ds _ b)
  | .dict ps, _, h => by
    cases h with
    | dic a b => exact .dic (s _ _ a) (Dd.sameKv s ps _ b)
theorem Dd.sameAll {K : PySem.W.Frag} {H H' : Hp} (s : Same H H') : ∀ (ds : List PyData) (vs : List V), DdAll K H vs ds → DdAll K H' vs ds
  | [], _, h => by cases h; exact .nil
  | d :: ds, _, h => by
    cases h with
    | cons a b => exact .cons (Dd.same s d _ a) (Dd.sameAll s ds _ b)
theorem Dd.sameKv {K : PySem.W.Frag} {H H' : Hp} (s : Same H H') : ∀ (ps : List (PyData × PyData)) (kvs : List (Key × V)), DdKv K H kvs ps → DdKv K H' kvs ps
  | [], _, h => by cases h; exact .nil
  | (_, d) :: ps, _, h => by
    cases h with
    | cons a b => exact .cons (Dd.same s d _ a) (Dd.sameKv s ps _ b)
end
section
variable {X : Cx} {pins : List (Addr × Obj)} {σ : L2.St} {H : Hp} {s : Shared}
/-- what repr tells of a value whose data are known -/
def Shows (X : Cx) (h : Heap) (d : PyData) (u : Value) : Prop := (∃ as, Reads h u d as) ∧ ∃ bs, ReadAtMost h d.depth bs ∧ ReprK X.prog X.w bs h d.depth u d.shown
def ShowsAll (X : Cx) (h : Heap) (ds : List PyData) (us : List Value) : Prop := (∃ as, ReadsAll h us ds as) ∧ ∃ bs, ReadAtMost h (PyData.depthAll ds) bs ∧ ReprAllK X.prog X.w bs h (PyData.depthAll ds) us (PyData.shownAll ds)
theorem ShowsAll.nil {h : Heap} : ShowsAll X h [] [] := ⟨⟨_, .nil⟩, [], (fun _ z => nomatch z), .nil⟩
theorem ShowsAll.cons {h : Heap} {d : PyData} {ds : List PyData} {u : Value} {us : List Value} (a : Shows X h d u) (b : ShowsAll X h ds us) : ShowsAll X h (d :: ds) (u :: us) := by
  obtain ⟨⟨as1, r1⟩, b1, h1, k1⟩ := a
  obtain ⟨⟨as2, r2⟩, b2, h2, k2⟩ := b
  have m1 : d.depth ≤ PyData.depthAll (d :: ds) := Nat.le_max_left _ _
  have m2 : PyData.depthAll ds ≤ PyData.depthAll (d :: ds) := Nat.le_max_right _ _
  exact ⟨⟨_, .cons r1 r2⟩, b1 ++ b2, (h1.mono m1).append (h2.mono m2), .cons ((k1.more fun _ z => List.mem_append_left _ z).level_le m1) (k2.more_le (fun _ z => List.mem_append_right _ z) m2)⟩
theorem Shows.lst {h : Heap} {ds : List PyData} {us : List Value} {a : Addr} {o : Obj} {n : Nat} (ha : h.get? a = some o) (hc : o.cls = .type "list") (hd : o.data = .seq us.toArray n) (b : ShowsAll X h ds us) : Shows X h (.list ds) (.ref a) := by
  obtain ⟨⟨as, r⟩, bs, hb, k⟩ := b
  have R : Reads h (.ref a) (.list ds) _ := .list ha hc hd r
  have off : a ∉ bs := not_mem_of_deeper R (by simp only [PyData.depth]; omega) hb
  refine ⟨⟨_, R⟩, a :: bs, ReadAtMost.cons R (by simp only [PyData.depth]; omega) hb, ?_⟩
  cases us with
  | nil =>
    cases r
    exact ReprK.listEmpty ha hc hd
  | cons u us => exact ReprK.list ha hc hd off (by simpa using k.length_eq) fun i y e => k.item i y (by simpa using e)
theorem Shows.tup {h : Heap} {ds : List PyData} {us : List Value} {a : Addr} (ha : IsTup h a us.toArray) (b : ShowsAll X h ds us) : Shows X h (.tuple ds) (.ref a) := by
  obtain ⟨⟨as, r⟩, bs, hb, k⟩ := b
  obtain ⟨o, ho, hc, n, hd⟩ := ha
  have R : Reads h (.ref a) (.tuple ds) _ := .tuple ho hc hd r
  exact ⟨⟨_, R⟩, a :: bs, ReadAtMost.cons R (by simp only [PyData.depth]; omega) hb, ReprK.tuple ho hc hd (not_mem_of_deeper R (by simp only [PyData.depth]; omega) hb) k⟩
theorem shows_key {h : Heap} {k : Key} {u : Value} (e : keyIs k u = true) (hs : (keyD k).showable = true) (hz : (keyD k).shown.length ≤ sizeLine) : Shows X h (keyD k) u := by
  rcases keyIs_shape e with ⟨i, t, rfl, rfl⟩ | ⟨x, t, rfl, rfl⟩
  · exact ⟨⟨_, .int i t⟩, [], (fun _ z => nomatch z), .of_is (ReprIs.int t (of_decide_eq_true hs)) _ _ _⟩
  · exact ⟨⟨_, .str x t⟩, [], (fun _ z => nomatch z), .of_is (ReprIs.str x t hz) _ _ _⟩
theorem Shows.dic {h : Heap} {ps : List (PyData × PyData)} {es : Array DictEntry} {a : Addr} {o : Obj} {n : Nat} (ho : h.get? a = some o) (hc : o.cls = .type "dict") (hd : o.data = .dict es n) (hsys : (a == sysModules) = false)
    (b1 : ShowsAll X h (ps.map (·.1)) (es.toList.map (·.key))) (b2 : ShowsAll X h (ps.map (·.2)) (es.toList.map (·.val))) : Shows X h (.dict ps) (.ref a) := by
  obtain ⟨⟨as1, r1⟩, c1, h1, k1⟩ := b1
  obtain ⟨⟨as2, r2⟩, c2, h2, k2⟩ := b2
  have R : Reads h (.ref a) (.dict ps) _ := .dict ho hc hd r1 r2
  have hb : ReadAtMost h (PyData.depthKv ps) (c1 ++ c2) := (h1.mono (PyData.depthAll_keys_le ps)).append (h2.mono (PyData.depthAll_vals_le ps))
  refine ⟨⟨_, R⟩, a :: (c1 ++ c2), ReadAtMost.cons R (by simp only [PyData.depth]; omega) hb, ?_⟩
  simp only [PyData.depth, PyData.shown, PyData.shownKv_eq]
  exact ReprK.dict ho hc hd hsys (not_mem_of_deeper R (by simp only [PyData.depth]; omega) hb) (ReprEntriesK.of_two es.toList _ _
    (k1.more_le (fun _ z => List.mem_append_left _ z) (PyData.depthAll_keys_le ps)) (k2.more_le (fun _ z => List.mem_append_right _ z) (PyData.depthAll_vals_le ps)))
theorem all_le {ds : List PyData} {d : PyData} (hd : d ∈ ds) : d.shown ∈ PyData.shownAll ds := by
  induction ds with
  | nil => cases hd
  | cons x xs ih =>
    simp only [PyData.shownAll]
    rcases List.mem_cons.mp hd with e | e
    · rw [e]; exact List.mem_cons_self ..
    · exact List.mem_cons_of_mem _ (ih e)
mutual
theorem Dd.shows (I : Inv X pins σ H s) : ∀ (d : PyData) (v : V) (u : Value), Dd X.K H v d → RelV v u → d.showable = true → d.shown.length ≤ sizeLine → Shows X s.heap d u
  | .none, _, _, h, r, _, _ => by
    cases h; cases r
    exact ⟨⟨_, .none⟩, [], (fun _ z => nomatch z), .of_is ReprIs.none _ _ _⟩
  | .bool b, _, _, h, r, _, _ => by
    cases h; cases r
    exact ⟨⟨_, .bool b⟩, [], (fun _ z => nomatch z), .of_is (ReprIs.bool b) _ _ _⟩
  | .int i, _, _, h, r, hs, _ => by
    cases h
    obtain ⟨t, rfl⟩ := r
    exact ⟨⟨_, .int i t⟩, [], (fun _ z => nomatch z), .of_is (ReprIs.int t (of_decide_eq_true hs)) _ _ _⟩
  | .str x, _, _, h, r, _, hz => by
    cases h
    obtain ⟨t, rfl⟩ := r
    exact ⟨⟨_, .str x t⟩, [], (fun _ z => nomatch z), .of_is (ReprIs.str x t hz) _ _ _⟩
  | .list ds, _, _, h, r, hs, hz => by
    cases h with
    | lst hq ha =>
      cases r
      obtain ⟨its, rv, ⟨o, n, ho, hc, _, hd⟩, _⟩ := I.list hq
      have hz' : (listText (PyData.shownAll ds)).length ≤ sizeLine := by simpa only [PyData.shown] using hz
      exact Shows.lst ho hc hd (Dd.showsAll I ds _ its ha rv (by simpa [PyData.showable] using hs) fun t ht => Nat.le_trans (listText_mem_le ht) hz')
  | .tuple ds, _, _, h, r, hs, hz => by
    cases h with
    | tup hq ha =>
      cases r
      obtain ⟨its, rv, ⟨o, ho, hc, n, hd⟩, _⟩ := I.tuple hq
      have hz' : (tupleText (PyData.shownAll ds)).length ≤ sizeLine := by simpa only [PyData.shown] using hz
      exact Shows.tup ⟨o, ho, hc, n, hd⟩ (Dd.showsAll I ds _ its ha rv (by simpa [PyData.showable] using hs) fun t ht => Nat.le_trans (tupleText_mem_le ht) hz')
  | .dict ps, _, _, h, r, hs, hz => by
    cases h with
    | dic hq ha =>
      cases r
      obtain ⟨_, hsys, vs, kv, o, es, ep, ho, ⟨hc, _, _⟩, hd, _, pr, _⟩ := I.hok _ _ hq
      have hz' : (dictText (PyData.shownKv ps)).length ≤ sizeLine := by simpa only [PyData.shown] using hz
      obtain ⟨b1, b2⟩ := Dd.showsKv I ps _ vs es.toList ha kv pr (by simpa [PyData.showable] using hs) (fun t ht => Nat.le_trans (dictText_mem_le ht) hz')
      exact Shows.dic ho hc hd hsys b1 b2
theorem Dd.showsAll (I : Inv X pins σ H s) : ∀ (ds : List PyData) (vs : List V) (us : List Value), DdAll X.K H vs ds → Vals vs us → PyData.showableAll ds = true → (∀ t ∈ PyData.shownAll ds, t.length ≤ sizeLine) → ShowsAll X s.heap ds us
  | [], _, _, h, r, _, _ => by
    cases h; cases r
    exact .nil
  | d :: ds, _, _, h, r, hs, hz => by
    cases h with
    | cons h1 h2 => cases r with
      | cons r1 r2 =>
        have hs' : d.showable = true ∧ PyData.showableAll ds = true := by simpa [PyData.showableAll] using hs
        exact .cons (Dd.shows I d _ _ h1 r1 hs'.1 (hz _ (by simp only [PyData.shownAll]; exact List.mem_cons_self ..))) (Dd.showsAll I ds _ _ h2 r2 hs'.2 fun t ht => hz t (by simp only [PyData.shownAll]; exact List.mem_cons_of_mem _ ht))
theorem Dd.showsKv (I : Inv X pins σ H s) : ∀ (ps : List (PyData × PyData)) (kvs : List (Key × V)) (vs : List (Key × Value)) (es : List DictEntry), DdKv X.K H kvs ps → KV kvs vs → Pairs (mixKind X.prog X.w) es vs → PyData.showableKv ps = true →
    (∀ t ∈ PyData.shownKv ps, t.length ≤ sizeLine) → ShowsAll X s.heap (ps.map (·.1)) (es.map (·.key)) ∧ ShowsAll X s.heap (ps.map (·.2)) (es.map (·.val))
  | [], _, _, _, h, kv, pr, _, _ => by
    cases h; cases kv; cases pr
    exact ⟨.nil, .nil⟩
  | (k, d) :: ps, _, _, _, h, kv, pr, hs, hz => by
    cases h with
    | cons h1 h2 => cases kv with
      | cons e kv2 => cases pr with
        | cons p1 p2 p3 =>
          rename_i k0 v0 _ q _ en _
          have hs' : ((keyD k0).showable = true ∧ d.showable = true) ∧ PyData.showableKv ps = true := by simpa [PyData.showableKv] using hs
          have z0 := hz _ (by simp only [PyData.shownKv]; exact List.mem_cons_self ..)
          obtain ⟨e1, e2⟩ := e
          have z1 : (keyD k0).shown.length ≤ sizeLine := Nat.le_trans (by simp only [Str.length_append]; omega) z0
          have z2 : d.shown.length ≤ sizeLine := Nat.le_trans (by simp only [Str.length_append]; omega) z0
          obtain ⟨i1, i2⟩ := Dd.showsKv I ps _ _ _ h2 kv2 p3 hs'.2 fun t ht => hz t (by simp only [PyData.shownKv]; exact List.mem_cons_of_mem _ ht)
          have q1 : k0 = q.1 := e1
          have ky : keyIs k0 en.key = true := by rw [q1]; exact p1
          refine ⟨.cons (shows_key ky hs'.1.1 z1) i1, .cons (Dd.shows I d v0 _ h1 ?_ hs'.1.2 z2) i2⟩
          show RelV v0 en.val
          rw [p2]; exact e2
end
/-- repr of any such data -/
def rShow (K : PySem.W.Frag) : List V → Hp → VK → Prop := fun xs H Q => ∃ (v : V) (d : PyData), xs = [v] ∧ Dd K H v d ∧ d.showable = true ∧ d.depth ≤ 40 ∧ d.shown.length ≤ sizeLine ∧ Q (.str d.shown) H
theorem call_show (hq : Quiet X.A) (hu : X.A.units + 64 < cLine) : CallR X (.builtin "repr") (rShow X.K) := by
  intro pins s σ H xs us Q I r h
  obtain ⟨v, d, rfl, hd, hs, hp, hz, q⟩ := h
  cases r with
  | cons rv rn =>
    rename_i u us'
    cases rn
    have done : ∀ h' tk, (∀ b o, s.heap.get? b = some o → h'.get? b = some o) → ∀ z, EP X pins σ Q (.str d.shown z) { s with heap := h', toks := tk } := fun h' tk hk z => ⟨.str _, H, I.kept hk, ⟨z, rfl⟩, q⟩
    cases hd with
    | non => cases rv; exact PySem.P.repr_of_none ⟨.str _, H, I.tok _, ⟨_, rfl⟩, q⟩
    | bl b => cases rv; exact PySem.P.repr_of_bool ⟨.str _, H, I.tok _, ⟨_, rfl⟩, q⟩
    | int i =>
      obtain ⟨t, rfl⟩ := rv
      exact PySem.P.repr_of_int (of_decide_eq_true hs) ⟨.str _, H, I.tok _, ⟨_, rfl⟩, q⟩
    | str x =>
      obtain ⟨t, rfl⟩ := rv
      exact PySem.P.repr_of_str ⟨.str _, H, I.tok _, ⟨_, rfl⟩, q⟩
    | @lst a xs ds hq2 ha =>
      cases rv
      obtain ⟨its, rv2, ⟨o, n, ho, hc, _, hd2⟩, _⟩ := I.list hq2
      have hz' : (listText (PyData.shownAll ds)).length ≤ sizeLine := by simpa only [PyData.shown] using hz
      have hp' : PyData.depthAll ds + 1 ≤ 40 := by simpa only [PyData.depth] using hp
      obtain ⟨⟨as, r⟩, bs, hb, k⟩ := Dd.showsAll I ds _ its ha rv2 (by simpa [PyData.showable] using hs) fun t ht => Nat.le_trans (listText_mem_le ht) hz'
      have R : Reads s.heap (.ref a) (.list ds) _ := .list ho hc hd2 r
      have off : a ∉ bs := not_mem_of_deeper R (by simp only [PyData.depth]; omega) hb
      refine call_repr_slot (by omega) ⟨o, ho, hc⟩ F.slot_list_repr.toG ?_
      simp only [PyData.shown] at done
      cases its with
      | nil =>
        cases r
        simp only [PyData.shownAll, listText_nil] at done
        exact call_list_repr_empty ⟨o, ho, hc⟩ ho hd2 ⟨_, _, rfl, done s.heap _ (fun _ _ e => e) _⟩
      | cons u us => exact call_list_reprK ho hc hd2 off (by simpa using k.length_eq) (fun i y e => k.item i y (by simpa using e)) hq (fun b _ => Clear.nil b) (by show X.A.units + 1 + (PyData.depthAll ds + 1) < cLine; omega) (fun _ _ e => e) (fun h' u tk hk => ⟨_, _, rfl, done h' tk hk u⟩) hz'
    | @tup a xs ds hq2 ha =>
      cases rv
      obtain ⟨its, rv2, ⟨o, ho, hc, n, hd2⟩, _⟩ := I.tuple hq2
      have hz' : (tupleText (PyData.shownAll ds)).length ≤ sizeLine := by simpa only [PyData.shown] using hz
      have hp' : PyData.depthAll ds + 1 ≤ 40 := by simpa only [PyData.depth] using hp
      obtain ⟨⟨as, r⟩, bs, hb, k⟩ := Dd.showsAll I ds _ its ha rv2 (by simpa [PyData.showable] using hs) fun t ht => Nat.le_trans (tupleText_mem_le ht) hz'
      have R : Reads s.heap (.ref a) (.tuple ds) _ := .tuple ho hc hd2 r
      have off : a ∉ bs := not_mem_of_deeper R (by simp only [PyData.depth]; omega) hb
      simp only [PyData.shown] at done
      exact call_repr_slot (by omega) ⟨o, ho, hc⟩ F.slot_tuple_repr (call_tuple_reprK ho hc hd2 off k hq (fun b _ => Clear.nil b) (by show X.A.units + 1 + (PyData.depthAll ds + 1) < cLine; omega) (fun _ _ e => e) (fun h' u tk hk => ⟨_, _, rfl, done h' tk hk u⟩) hz')
    | @dic a kvs ps hq2 ha =>
      cases rv
      obtain ⟨_, hsys, vs, kv, o, es, ep, ho, ⟨hc, _, _⟩, hd2, _, pr, _⟩ := I.hok _ _ hq2
      have hz' : (dictText (PyData.shownKv ps)).length ≤ sizeLine := by simpa only [PyData.shown] using hz
      have hp' : PyData.depthKv ps + 1 ≤ 40 := by simpa only [PyData.depth] using hp
      obtain ⟨⟨⟨as1, r1⟩, c1, h1, k1⟩, ⟨as2, r2⟩, c2, h2, k2⟩ := Dd.showsKv I ps _ vs es.toList ha kv pr (by simpa [PyData.showable] using hs) (fun t ht => Nat.le_trans (dictText_mem_le ht) hz')
      have R : Reads s.heap (.ref a) (.dict ps) _ := .dict ho hc hd2 r1 r2
      have hb : ReadAtMost s.heap (PyData.depthKv ps) (c1 ++ c2) := (h1.mono (PyData.depthAll_keys_le ps)).append (h2.mono (PyData.depthAll_vals_le ps))
      have off : a ∉ c1 ++ c2 := not_mem_of_deeper R (by simp only [PyData.depth]; omega) hb
      simp only [PyData.shown] at done
      exact call_repr_slot (by omega) ⟨o, ho, hc⟩ F.slot_dict_repr (call_dict_reprK ho hc hd2 hsys off (ReprEntriesK.of_two es.toList _ _
        (k1.more_le (fun _ z => List.mem_append_left _ z) (PyData.depthAll_keys_le ps)) (k2.more_le (fun _ z => List.mem_append_right _ z) (PyData.depthAll_vals_le ps)) |> fun z => by rw [← PyData.shownKv_eq] at z; exact z)
        hq (fun b _ => Clear.nil b) (by show X.A.units + 1 + (PyData.depthKv ps + 1) < cLine; omega) (fun _ _ e => e) (fun h' u tk hk => ⟨_, _, rfl, done h' tk hk u⟩) hz')
end
section
variable {K : PySem.W.Frag} {σ : L2.St} {H : Hp} {te : TE} {v : V} {d : PyData}
theorem v_show (h : Val te σ H v) (hd : Dd K H v d) (hs : d.showable = true) (hp : d.depth ≤ 40) (hz : d.shown.length ≤ 100000) : Val (tCB (rShow K) (tCons te tNil)) σ H (.str d.shown) := v_cb (va_cons h va_nil) fun Q q => ⟨v, d, rfl, hd, hs, hp, Nat.le_trans hz (by decide), q⟩
end
end GL

/-! several clauses 'except X as e' in one try -/
namespace TM
open PySem PySem.Spec PyProof.Rows L2
abbrev Cl := Value × Nat × (Addr → Value → Option Addr → TS)
/-- what the clauses wish of an exception, the first one first -/
def wNames (K : PySem.W.Frag) (Wout : WX) (D : Ends) (l : List Cl) : WX := l.foldr (fun q W => wAs K q.1 q.2.1 q.2.2 W D) Wout
/-- asked only of states that hold every name -/
def wLen (n : Nat) (W : WX) : WX := fun cls d σ H => σ.length = n → W cls d σ H
inductive Clauses (X : Cx) : List ExceptHandler → List Cl → Prop
  | nil : Clauses X [] []
  | cons {x n : Str} {c : Value} {i : Nat} {ts : Addr → Value → Option Addr → TS} {b : Stmt} {r : List Stmt} {np hp : Pos} {hds : List ExceptHandler} {l : List Cl} (hi : X.N[i]? = some n) (hn : X.env.kindOf n = some .local) (hc : Names X x c)
      (suite : ∀ (a : Addr) (oe : Obj) (cls : Value) (d : Option Addr) (pn : List (Addr × Obj)), Zc cls d oe → (∃ vs, oe.data = .fields vs) → PSs (X.suite a ((a, oe) :: pn)) (b :: r) (ts a cls d)) (more : Clauses X hds l) :
      Clauses X (.ExceptHandler (some (.Name x np)) (some n) (b :: r) hp :: hds) ((c, i, ts) :: l)
section
variable {X : Cx} {body : List Stmt} {h₀ : ExceptHandler} {hds : List ExceptHandler} {l : List Cl} {pos : Pos} {tb : WX → TS} {Wout : WX}
theorem ps_try_names (hs : X.stack = X.env :: X.outer) (hf : X.env.frame = some X.env.locals) (hN : X.N.Nodup) (tk : Takes X Wout)
    (hb : ∀ (W : WX) (pn : List (Addr × Obj)) (xe : Value → Shared → Prop), Takes (X.tr pn xe) W → PassesOwn (model X.prog X.w) X.A X.env xe → PSs (X.tr pn xe) body (tb W))
    (cl : Clauses X (h₀ :: hds) l) : PS X (.Try body (h₀ :: hds) [] [] pos) (fun D σ H => tb (wLen X.N.length (wNames X.K Wout D l)) D σ H) := by
  refine ⟨fun pins s σ H D I h => ?_⟩
  have ok := I.ok
  have frames : X.A.frames = some (X.env :: X.outer) := by rw [ok.frames, hs]
  refine wpAny_Try_except ?_
  have run := (hb (wLen X.N.length (wNames X.K Wout D l)) (X.pn ++ pins) (fun e t => wpAny (model X.prog X.w) X.A (noteFrame e X.env) (fun _ t2 => wpAny (model X.prog X.w) X.A (setFlight e none) (fun _ t3 =>
    wpAny (model X.prog X.w) X.A (handleBy e X.env (h₀ :: hds)) (SP X pins D) X.xe t3) X.xe t2) X.xe t) (fun u s' xx => ?_) PassesOwn.looking).run [] s σ H D (I.toTry _) h
  · refine wpAny_mono run (fun f s1 e => ?_) (fun e s1 he => he)
    cases f with
    | next =>
      obtain ⟨σ', H', J', q⟩ := e
      exact wpAny_execs_nil ⟨σ', H', J'.ofTry ok, q⟩
    | brk =>
      obtain ⟨σ', H', J', q⟩ := e
      exact ⟨σ', H', J'.ofTry ok, q⟩
    | cont =>
      obtain ⟨σ', H', J', q⟩ := e
      exact ⟨σ', H', J'.ofTry ok, q⟩
    | ret u =>
      obtain ⟨v, σ', H', J', r, q⟩ := e
      exact ⟨v, σ', H', J'.ofTry ok, r, q⟩
  · obtain ⟨a, B, sI, pins', σ', H', cls, d, rfl, J', nb, up, sky, na, os, ag, w⟩ := xx
    have J : Inv X pins σ' H' sI := J'.ofTry ok
    have sky' : Sky B (X.env :: X.outer) a (Zc cls d) X.env.locals s'.heap := by rw [← hs]; exact sky
    show wpAny (model X.prog X.w) X.A (noteFrame (.ref a) X.env) _ _ _
    refine Sky.land Zc.steady frames hf sky' fun h3 fl3 up3 => ?_
    have J3 : Inv X pins σ' H' { s' with heap := h3 } := J.landed nb fl3.1 (up.trans up3) os ag
    obtain ⟨oe, vs, he, hz, hd⟩ := fl3.there
    have away : a ∉ frs (X.env :: X.outer) := fun hm => by
      obtain ⟨_, o', e', no⟩ := fl3.2.2.1.mem hm
      rw [he] at e'; cases e'
      exact no _ hd
    have nL : a ≠ X.env.locals := fun z => away (List.mem_filterMap.mpr ⟨X.env, List.mem_cons_self, by rw [hf, z]⟩)
    have nF : a ∉ X.fs := fun hm => by
      obtain ⟨e, m, q⟩ := List.mem_filterMap.mp hm
      exact away (List.mem_filterMap.mpr ⟨e, List.mem_cons_of_mem _ m, q⟩)
    have S3 := J3.suite he hd na nL nF
    have looks : PySem.W.Looks (model X.prog X.w) h3 (typeOf (.ref a)) cls := fun A Q E s k q => wpAny_typeOf_ref (k _ _ he) (by rw [hz.1]; exact q)
    suffices go : ∀ {hs' : List ExceptHandler} {l' : List Cl}, Clauses X hs' l' → wNames X.K Wout D l' cls d σ' H' → wpAny (model X.prog X.w) X.A (handleBy (.ref a) X.env hs') (SP X pins D) X.xe { s' with heap := h3 } from go cl (w J.len)
    intro hs' l' k
    induction k with
    | nil =>
      intro w
      refine wpAny_handleBy_nil ?_
      obtain ⟨k1, k2, k3, oe2, vs2, T, oT, ts', he2, hz2, hd2, h1, hr⟩ := id fl3
      unfold PySem.passOn
      refine wpAny_bind (wpAny_field he2 hd2 h1 ?_)
      rw [if_neg (show ¬ ((Value.ref T == Value.none) = true) from by simp)]
      have out : wpAny (model X.prog X.w) X.A (setFlight (.ref a) X.env.frame) (fun _ s4 => wpAny (model X.prog X.w) X.A (throw (.ref a) : Sem Flow) (SP X pins D) X.xe s4) X.xe { s' with heap := h3 } := by
        rw [hf]
        refine HandSPX.setFlight_upZ fl3 fun h4 hh4 up4 => wpAny_throw (tk _ _ ?_)
        exact ⟨a, B, sI, pins, σ', H', cls, d, rfl, J, nb, (up.trans up3).trans up4, .inr (.inr (by rw [hs]; exact hh4)), na, os, ag, w⟩
      first
        | exact wpAny_bind (wpAny_pure (wpAny_bind out))
        | exact wpAny_bind out
    | @cons x n c i ts b r np hp hds2 l2 hi hn hc suite more ih =>
      intro w
      obtain ⟨t, ht, yes, no⟩ := w
      refine wpAny_handleBy_cons (codeAny_handlers_test ?_) (by intro q; cases q)
      have LM := PySem.W.exm_one (M := model X.prog X.w) (J3.kIn) looks ht
      have test : ∀ {Q : Value → Shared → Prop} {E : Value → Shared → Prop}, Q c { s' with heap := h3 } → wpAny (model X.prog X.w) (X.A.mark (some (.ref a))) (eval (.Name x np) X.env) Q E { s' with heap := h3 } := fun {Q E} q => by
        obtain ⟨g, db, hm | ⟨hm, hv, nn⟩⟩ := hc
        · exact ld_glob (X := X.suite a ((a, oe) :: (X.pn ++ pins))) S3 g hm q db
        · exact ld_blt (X := X.suite a ((a, oe) :: (X.pn ++ pins))) S3 g hm hv q nn db
      refine test (LM.here ?_)
      cases t with
      | false => exact ih (no rfl)
      | true =>
        refine codeAny_handlers_suite_as ?_
        refine HandSPX.lands_againZ fl3 fun h4 fl4 up4 => ?_
        have J4 : Inv X pins σ' H' { s' with heap := h4 } := J.landed nb fl4.1 ((up.trans up3).trans up4) os ag
        obtain ⟨oe4, vs4, he4, hz4, hd4⟩ := fl4.there
        have S4 := J4.suite he4 hd4 na nL nF
        refine store_ok (X := X.suite a ((a, oe4) :: (X.pn ++ pins))) (v := .ref a) S4 hN hi (.inl hn) rfl (fun s5 S5 => ?_) (.inr hn)
        refine wpAny_mono ((suite a oe4 cls d (X.pn ++ pins) hz4 ⟨_, hd4⟩).run [] s5 _ H' _ S5 (yes rfl a na)) (fun f s6 e => ?_) (fun _ _ z => False.elim z)
        cases f with
        | next =>
          obtain ⟨σ6, H6, S6, q6⟩ := e
          exact gone_ok (S6.unsuite ok) hN hi hn fun s7 J7 => ⟨_, _, J7, q6⟩
        | brk =>
          obtain ⟨σ6, H6, S6, q6⟩ := e
          exact gone_ok (S6.unsuite ok) hN hi hn fun s7 J7 => ⟨_, _, J7, q6⟩
        | cont =>
          obtain ⟨σ6, H6, S6, q6⟩ := e
          exact gone_ok (S6.unsuite ok) hN hi hn fun s7 J7 => ⟨_, _, J7, q6⟩
        | ret u =>
          obtain ⟨v6, σ6, H6, S6, r6, q6⟩ := e
          exact gone_ok (S6.unsuite ok) hN hi hn fun s7 J7 => ⟨_, _, _, J7, r6, q6⟩
end
end TM

namespace LW
open PySem PySem.Spec PyProof.Rows L2 GL
def top (i : Nat) : Stmt := PySem.Challenge.pw_flowpapers_k16_whole_series.main.body.getD i (.Pass ⟨0, 0, 0, 0⟩)
abbrev tBadNumber : Stmt := top 3
abbrev tBadRow : Stmt := top 4
abbrev tPlane : Stmt := top 37
abbrev tField : Stmt := top 54
abbrev sis_ratio : Stmt := top 6
theorem scis_ratio : FnScope ["value"] ["value"] (defScope sis_ratio) := ⟨rfl, rfl, rfl, by decide +kernel, rfl, by decide +kernel, by decide +kernel⟩
abbrev stold : Stmt := top 7
theorem sctold : FnScope ["value", "what", "top", "bottom"] ["value", "what"] (defScope stold) := ⟨rfl, rfl, rfl, by decide +kernel, rfl, by decide +kernel, by decide +kernel⟩
abbrev splus : Stmt := top 8
theorem scplus : FnScope ["one", "other", "top", "bottom", "other_top", "other_bottom"] ["one", "other"] (defScope splus) := ⟨rfl, rfl, rfl, by decide +kernel, rfl, by decide +kernel, by decide +kernel⟩
abbrev stimes : Stmt := top 9
theorem sctimes : FnScope ["one", "other", "top", "bottom", "other_top", "other_bottom"] ["one", "other"] (defScope stimes) := ⟨rfl, rfl, rfl, by decide +kernel, rfl, by decide +kernel, by decide +kernel⟩
abbrev sis_integer : Stmt := top 10
theorem scis_integer : FnScope ["value"] ["value"] (defScope sis_integer) := ⟨rfl, rfl, rfl, by decide +kernel, rfl, by decide +kernel, by decide +kernel⟩
abbrev s_parts : Stmt := top 11
theorem sc_parts : FnScope ["value", "what"] ["value", "what"] (defScope s_parts) := ⟨rfl, rfl, rfl, by decide +kernel, rfl, by decide +kernel, by decide +kernel⟩
abbrev s_lowest : Stmt := top 12
theorem sc_lowest : FnScope ["top", "bottom", "divisor"] ["top", "bottom"] (defScope s_lowest) := ⟨rfl, rfl, rfl, by decide +kernel, rfl, by decide +kernel, by decide +kernel⟩
abbrev sis_from : Stmt := top 14
theorem scis_from : FnScope ["value", "low", "high"] ["value", "low", "high"] (defScope sis_from) := ⟨rfl, rfl, rfl, by decide +kernel, rfl, by decide +kernel, by decide +kernel⟩
abbrev sis_row : Stmt := top 15
theorem scis_row : FnScope ["value", "number"] ["value"] (defScope sis_row) := ⟨rfl, rfl, rfl, by decide +kernel, rfl, by decide +kernel, by decide +kernel⟩
abbrev sis_row_of : Stmt := top 16
abbrev sis_place : Stmt := top 17
abbrev spair_of : Stmt := top 18
abbrev splace_of : Stmt := top 19
abbrev sis_strict_ratio : Stmt := top 20
theorem scis_strict_ratio : FnScope ["value"] ["value"] (defScope sis_strict_ratio) := ⟨rfl, rfl, rfl, by decide +kernel, rfl, by decide +kernel, by decide +kernel⟩
abbrev sheld : Stmt := top 21
theorem scheld : FnScope ["value"] ["value"] (defScope sheld) := ⟨rfl, rfl, rfl, by decide +kernel, rfl, by decide +kernel, by decide +kernel⟩
abbrev sbottom_of : Stmt := top 23
abbrev swhole_row : Stmt := top 24
abbrev swhole_rows : Stmt := top 25
abbrev stop_power : Stmt := top 26
theorem sctop_power : FnScope ["tops", "power"] ["tops"] (defScope stop_power) := ⟨rfl, rfl, rfl, by decide +kernel, rfl, by decide +kernel, by decide +kernel⟩
abbrev stotal : Stmt := top 27
theorem sctotal : FnScope ["pairs", "parts", "k"] ["pairs"] (defScope stotal) := ⟨rfl, rfl, rfl, by decide +kernel, rfl, by decide +kernel, by decide +kernel⟩
abbrev s_joined : Stmt := top 28
theorem sc_joined : FnScope ["parts", "top", "bottom", "other", "other_bottom", "below"] ["parts"] (defScope s_joined) := ⟨rfl, rfl, rfl, by decide +kernel, rfl, by decide +kernel, by decide +kernel⟩
abbrev srow_product : Stmt := top 29
abbrev s_beside : Stmt := top 32
abbrev s_number : Stmt := top 33
abbrev s_sum : Stmt := top 34
abbrev s_product : Stmt := top 35
abbrev s_are_rows : Stmt := top 38
theorem sc_are_rows : FnScope ["value", "row"] ["value"] (defScope s_are_rows) := ⟨rfl, rfl, rfl, by decide +kernel, rfl, by decide +kernel, by decide +kernel⟩
abbrev s_shortened : Stmt := top 39
theorem sc_shortened : FnScope ["pairs", "top", "_"] ["pairs"] (defScope s_shortened) := ⟨rfl, rfl, rfl, by decide +kernel, rfl, by decide +kernel, by decide +kernel⟩
abbrev s_plane_beside : Stmt := top 40
theorem sc_plane_beside : FnScope ["value"] ["value"] (defScope s_plane_beside) := ⟨rfl, rfl, rfl, by decide +kernel, rfl, by decide +kernel, by decide +kernel⟩
abbrev s_row : Stmt := top 41
theorem sc_row : FnScope ["plane", "i"] ["plane", "i"] (defScope s_row) := ⟨rfl, rfl, rfl, by decide +kernel, rfl, by decide +kernel, by decide +kernel⟩
abbrev s_plane_sum : Stmt := top 42
theorem sc_plane_sum : FnScope ["one", "other", "many", "i"] ["one", "other"] (defScope s_plane_sum) := ⟨rfl, rfl, rfl, by decide +kernel, rfl, by decide +kernel, by decide +kernel⟩
abbrev s_row_sum : Stmt := top 43
theorem sc_row_sum : FnScope ["row", "other", "shared", "j"] ["row", "other"] (defScope s_row_sum) := ⟨rfl, rfl, rfl, by decide +kernel, rfl, by decide +kernel, by decide +kernel⟩
abbrev s_plane_product : Stmt := top 44
theorem sc_plane_product : FnScope ["one", "other", "many", "i"] ["one", "other"] (defScope s_plane_product) := ⟨rfl, rfl, rfl, by decide +kernel, rfl, by decide +kernel, by decide +kernel⟩
abbrev s_facing : Stmt := top 45
theorem sc_facing : FnScope ["rows", "others", "i", "k"] ["rows", "others", "i"] (defScope s_facing) := ⟨rfl, rfl, rfl, by decide +kernel, rfl, by decide +kernel, by decide +kernel⟩
abbrev s_product_row : Stmt := top 46
theorem sc_product_row : FnScope ["facing", "wide", "row", "other", "j"] ["facing"] (defScope s_product_row) := ⟨rfl, rfl, rfl, by decide +kernel, rfl, by decide +kernel, by decide +kernel⟩
abbrev s_crossed_pairs : Stmt := top 47
theorem sc_crossed_pairs : FnScope ["facing", "j", "row", "other", "k"] ["facing", "j"] (defScope s_crossed_pairs) := ⟨rfl, rfl, rfl, by decide +kernel, rfl, by decide +kernel, by decide +kernel⟩
abbrev s_value_at : Stmt := top 48
abbrev s_scaled : Stmt := top 49
abbrev smoved_whole : Stmt := top 50
abbrev s_times_line : Stmt := top 51
abbrev s_plane_of_numbers : Stmt := top 52
abbrev sslope_along : Stmt := top 55
theorem scslope_along : FnScope ["field", "plane"] ["field", "plane"] (defScope sslope_along) := ⟨rfl, rfl, rfl, by decide +kernel, rfl, by decide +kernel, by decide +kernel⟩
abbrev sseries : Stmt := top 56
theorem scseries : FnScope ["field", "order", "found", "k", "x", "y"] ["field", "order"] (defScope sseries) := ⟨rfl, rfl, rfl, by decide +kernel, rfl, by decide +kernel, by decide +kernel⟩
abbrev s_law_pen : Stmt := top 58
theorem sc_law_pen : FnScope ["_law_script", "_law_fold", "_law_cell"] ["_law_script"] (defScope s_law_pen) := ⟨rfl, rfl, rfl, by decide +kernel, rfl, by decide +kernel, by decide +kernel⟩
abbrev s_law_draw : Stmt := top 59
theorem sc_law_draw : FnScope ["_law_pen_here", "_law_many", "_law_cell", "_law_digit", "_law_mixed"] ["_law_pen_here", "_law_many"] (defScope s_law_draw) := ⟨rfl, rfl, rfl, by decide +kernel, rfl, by decide +kernel, by decide +kernel⟩
abbrev s_law_pick : Stmt := top 60
theorem sc_law_pick : FnScope ["_law_pen_here", "_law_some"] ["_law_pen_here", "_law_some"] (defScope s_law_pick) := ⟨rfl, rfl, rfl, by decide +kernel, rfl, by decide +kernel, by decide +kernel⟩
abbrev s_law_gcd : Stmt := top 61
theorem sc_law_gcd : FnScope ["_law_one", "_law_two", "_law_lap"] ["_law_one", "_law_two"] (defScope s_law_gcd) := ⟨rfl, rfl, rfl, by decide +kernel, rfl, by decide +kernel, by decide +kernel⟩
abbrev s_law_q : Stmt := top 62
theorem sc_law_q : FnScope ["_law_top", "_law_bottom", "_law_by"] ["_law_top", "_law_bottom"] (defScope s_law_q) := ⟨rfl, rfl, rfl, by decide +kernel, rfl, by decide +kernel, by decide +kernel⟩
abbrev s_law_plus : Stmt := top 63
theorem sc_law_plus : FnScope ["_law_one", "_law_two"] ["_law_one", "_law_two"] (defScope s_law_plus) := ⟨rfl, rfl, rfl, by decide +kernel, rfl, by decide +kernel, by decide +kernel⟩
abbrev s_law_times : Stmt := top 64
theorem sc_law_times : FnScope ["_law_one", "_law_two"] ["_law_one", "_law_two"] (defScope s_law_times) := ⟨rfl, rfl, rfl, by decide +kernel, rfl, by decide +kernel, by decide +kernel⟩
abbrev s_law_share : Stmt := top 65
theorem sc_law_share : FnScope ["_law_one", "_law_two"] ["_law_one", "_law_two"] (defScope s_law_share) := ⟨rfl, rfl, rfl, by decide +kernel, rfl, by decide +kernel, by decide +kernel⟩
abbrev s_law_passed : Stmt := top 66
theorem sc_law_passed : FnScope ["_law_pen_here", "_law_ratio_here", "_law_by"] ["_law_pen_here", "_law_ratio_here"] (defScope s_law_passed) := ⟨rfl, rfl, rfl, by decide +kernel, rfl, by decide +kernel, by decide +kernel⟩
abbrev s_law_ratio : Stmt := top 67
theorem sc_law_ratio : FnScope ["_law_pen_here", "_law_most", "_law_bottom"] ["_law_pen_here", "_law_most"] (defScope s_law_ratio) := ⟨rfl, rfl, rfl, by decide +kernel, rfl, by decide +kernel, by decide +kernel⟩
abbrev s_law_poly : Stmt := top 68
theorem sc_law_poly : FnScope ["_law_numbers", "_law_found", "_law_lap"] ["_law_numbers"] (defScope s_law_poly) := ⟨rfl, rfl, rfl, by decide +kernel, rfl, by decide +kernel, by decide +kernel⟩
abbrev s_law_p_plus : Stmt := top 69
theorem sc_law_p_plus : FnScope ["_law_one", "_law_two", "_law_many", "_law_first", "_law_second", "_law_a", "_law_b"] ["_law_one", "_law_two"] (defScope s_law_p_plus) := ⟨rfl, rfl, rfl, by decide +kernel, rfl, by decide +kernel, by decide +kernel⟩
abbrev s_law_p_times : Stmt := top 70
theorem sc_law_p_times : FnScope ["_law_one", "_law_two", "_law_found", "_law_i", "_law_k"] ["_law_one", "_law_two"] (defScope s_law_p_times) := ⟨rfl, rfl, rfl, by decide +kernel, rfl, by decide +kernel, by decide +kernel⟩
abbrev s_law_p_at : Stmt := top 71
theorem sc_law_p_at : FnScope ["_law_one", "_law_point", "_law_total", "_law_number"] ["_law_one", "_law_point"] (defScope s_law_p_at) := ⟨rfl, rfl, rfl, by decide +kernel, rfl, by decide +kernel, by decide +kernel⟩
abbrev s_law_p_moved : Stmt := top 72
theorem sc_law_p_moved : FnScope ["_law_one", "_law_start", "_law_step", "_law_found", "_law_line", "_law_number"] ["_law_one", "_law_start", "_law_step"] (defScope s_law_p_moved) := ⟨rfl, rfl, rfl, by decide +kernel, rfl, by decide +kernel, by decide +kernel⟩
abbrev s_law_drawn : Stmt := top 73
theorem sc_law_drawn : FnScope ["_law_pen_here", "_law_degree", "_law_most", "_law_k"] ["_law_pen_here", "_law_degree", "_law_most"] (defScope s_law_drawn) := ⟨rfl, rfl, rfl, by decide +kernel, rfl, by decide +kernel, by decide +kernel⟩
abbrev s_law_v_plain : Stmt := top 74
theorem sc_law_v_plain : FnScope ["_law_plane", "_law_found", "_law_spot"] ["_law_plane"] (defScope s_law_v_plain) := ⟨rfl, rfl, rfl, by decide +kernel, rfl, by decide +kernel, by decide +kernel⟩
abbrev s_law_v_plus : Stmt := top 75
theorem sc_law_v_plus : FnScope ["_law_one", "_law_two", "_law_found", "_law_spot"] ["_law_one", "_law_two"] (defScope s_law_v_plus) := ⟨rfl, rfl, rfl, by decide +kernel, rfl, by decide +kernel, by decide +kernel⟩
abbrev s_law_v_scaled : Stmt := top 76
theorem sc_law_v_scaled : FnScope ["_law_one", "_law_by", "_law_found", "_law_spot"] ["_law_one", "_law_by"] (defScope s_law_v_scaled) := ⟨rfl, rfl, rfl, by decide +kernel, rfl, by decide +kernel, by decide +kernel⟩
abbrev s_law_v_times : Stmt := top 77
theorem sc_law_v_times : FnScope ["_law_one", "_law_two", "_law_found", "_law_a", "_law_b", "_law_spot"] ["_law_one", "_law_two"] (defScope s_law_v_times) := ⟨rfl, rfl, rfl, by decide +kernel, rfl, by decide +kernel, by decide +kernel⟩
abbrev s_law_q_power : Stmt := top 78
theorem sc_law_q_power : FnScope ["_law_ratio_here", "_law_many", "_law_found", "_law_lap"] ["_law_ratio_here", "_law_many"] (defScope s_law_q_power) := ⟨rfl, rfl, rfl, by decide +kernel, rfl, by decide +kernel, by decide +kernel⟩
abbrev s_law_v_at : Stmt := top 79
theorem sc_law_v_at : FnScope ["_law_one", "_law_place_here", "_law_total", "_law_spot", "_law_term"] ["_law_one", "_law_place_here"] (defScope s_law_v_at) := ⟨rfl, rfl, rfl, by decide +kernel, rfl, by decide +kernel, by decide +kernel⟩
abbrev s_law_v_of : Stmt := top 80
theorem sc_law_v_of : FnScope ["_law_plane", "_law_found", "_law_i", "_law_j"] ["_law_plane"] (defScope s_law_v_of) := ⟨rfl, rfl, rfl, by decide +kernel, rfl, by decide +kernel, by decide +kernel⟩
abbrev s_law_v_rows : Stmt := top 81
theorem sc_law_v_rows : FnScope ["_law_one", "_law_wide", "_law_spot", "_law_high", "_law_j", "_law_i"] ["_law_one"] (defScope s_law_v_rows) := ⟨rfl, rfl, rfl, by decide +kernel, rfl, by decide +kernel, by decide +kernel⟩
abbrev s_law_made_plane : Stmt := top 82
theorem sc_law_made_plane : FnScope ["_law_pen_here", "_law_one", "_law_number", "_law_row"] ["_law_pen_here", "_law_one"] (defScope s_law_made_plane) := ⟨rfl, rfl, rfl, by decide +kernel, rfl, by decide +kernel, by decide +kernel⟩
abbrev s_law_v_drawn : Stmt := top 83
theorem sc_law_v_drawn : FnScope ["_law_pen_here", "_law_degree", "_law_most", "_law_found", "_law_i", "_law_j"] ["_law_pen_here", "_law_degree", "_law_most"] (defScope s_law_v_drawn) := ⟨rfl, rfl, rfl, by decide +kernel, rfl, by decide +kernel, by decide +kernel⟩
abbrev s_law_place : Stmt := top 84
theorem sc_law_place : FnScope ["_law_pen_here", "_law_most"] ["_law_pen_here", "_law_most"] (defScope s_law_place) := ⟨rfl, rfl, rfl, by decide +kernel, rfl, by decide +kernel, by decide +kernel⟩
abbrev s_law_fault : Stmt := top 85
theorem sc_law_fault : FnScope ["_law_call", "_law_found", "error"] ["_law_call"] (defScope s_law_fault) := ⟨rfl, rfl, rfl, by decide +kernel, rfl, by decide +kernel, by decide +kernel⟩
abbrev s_law_made_field : Stmt := top 86
theorem sc_law_made_field : FnScope ["_law_pen_here", "_law_f"] ["_law_pen_here", "_law_f"] (defScope s_law_made_field) := ⟨rfl, rfl, rfl, by decide +kernel, rfl, by decide +kernel, by decide +kernel⟩
abbrev s_law_x : Stmt := top 87
theorem sc_law_x : FnScope [] [] (defScope s_law_x) := ⟨rfl, rfl, rfl, by decide +kernel, rfl, by decide +kernel, by decide +kernel⟩
abbrev s_law_y : Stmt := top 88
theorem sc_law_y : FnScope [] [] (defScope s_law_y) := ⟨rfl, rfl, rfl, by decide +kernel, rfl, by decide +kernel, by decide +kernel⟩
abbrev s_law_some_field : Stmt := top 89
theorem sc_law_some_field : FnScope ["_law_pen_here", "_law_degree", "_law_most"] ["_law_pen_here", "_law_degree", "_law_most"] (defScope s_law_some_field) := ⟨rfl, rfl, rfl, by decide +kernel, rfl, by decide +kernel, by decide +kernel⟩
abbrev s_law_easy_field : Stmt := top 90
theorem sc_law_easy_field : FnScope ["_law_pen_here", "_law_a", "_law_g", "_law_first", "_law_second", "_law_k", "_law_number", "_law_turned"] ["_law_pen_here"] (defScope s_law_easy_field) := ⟨rfl, rfl, rfl, by decide +kernel, rfl, by decide +kernel, by decide +kernel⟩
abbrev s_law_easy_flow : Stmt := top 91
theorem sc_law_easy_flow : FnScope ["_law_easy", "_law_place_here", "_law_time", "_law_f", "_law_letter", "_law_a", "_law_g", "_law_start", "_law_whole", "_law_moved", "_law_k", "_law_number", "_law_one", "_law_two"] ["_law_easy", "_law_place_here", "_law_time"] (defScope s_law_easy_flow) := ⟨rfl, rfl, rfl, by decide +kernel, rfl, by decide +kernel, by decide +kernel⟩
abbrev s_law_row_times : Stmt := top 92
theorem sc_law_row_times : FnScope ["_law_one", "_law_two", "_law_many", "_law_found", "_law_k", "_law_i", "_law_j"] ["_law_one", "_law_two", "_law_many"] (defScope s_law_row_times) := ⟨rfl, rfl, rfl, by decide +kernel, rfl, by decide +kernel, by decide +kernel⟩
abbrev s_law_row_of : Stmt := top 93
theorem sc_law_row_of : FnScope ["_law_plane", "_law_rows", "_law_many", "_law_found", "_law_k", "_law_spot", "_law_term", "_law_lap", "_law_one", "_law_two"] ["_law_plane", "_law_rows", "_law_many"] (defScope s_law_row_of) := ⟨rfl, rfl, rfl, by decide +kernel, rfl, by decide +kernel, by decide +kernel⟩
abbrev s_law_solves : Stmt := top 94
theorem sc_law_solves : FnScope ["_law_f", "_law_rows", "_law_many", "_law_k", "_law_due", "_law_at"] ["_law_f", "_law_rows"] (defScope s_law_solves) := ⟨rfl, rfl, rfl, by decide +kernel, rfl, by decide +kernel, by decide +kernel⟩
abbrev slaw : Stmt := top 95
theorem sclaw : FnScope ["_law_script", "_law_pen_here", "_law_degree", "_law_f", "_law_order", "_law_told", "_law_pair", "_law_rows", "_law_k", "_law_easy", "_law_place_here", "_law_time", "_law_total", "_law_at", "_law_odd"] ["_law_script"] (defScope slaw) := ⟨rfl, rfl, rfl, by decide +kernel, rfl, by decide +kernel, by decide +kernel⟩
/-! ### the pen -/
abbrev kCe : Key := Sum.inr ("cells" : Str)
abbrev kAt : Key := Sum.inr ("at" : Str)
abbrev kDi : Key := Sum.inr ("digits" : Str)
abbrev kCo : Key := Sum.inr ("count" : Str)
abbrev kFo : Key := Sum.inr ("fold" : Str)
def penK (c : Addr) (a d n f : Int) : List (Key × V) := [(kCe, .ref c), (kAt, .int a), (kDi, .int d), (kCo, .int n), (kFo, .int f)]
theorem sneCeAt : ¬ (("cells" : Str) = "at") := by decide +kernel
theorem neCeAt : ¬ (kCe = kAt) := by decide +kernel
theorem sneCeDi : ¬ (("cells" : Str) = "digits") := by decide +kernel
theorem neCeDi : ¬ (kCe = kDi) := by decide +kernel
theorem sneCeCo : ¬ (("cells" : Str) = "count") := by decide +kernel
theorem neCeCo : ¬ (kCe = kCo) := by decide +kernel
theorem sneCeFo : ¬ (("cells" : Str) = "fold") := by decide +kernel
theorem neCeFo : ¬ (kCe = kFo) := by decide +kernel
theorem sneAtDi : ¬ (("at" : Str) = "digits") := by decide +kernel
theorem neAtDi : ¬ (kAt = kDi) := by decide +kernel
theorem sneAtCo : ¬ (("at" : Str) = "count") := by decide +kernel
theorem neAtCo : ¬ (kAt = kCo) := by decide +kernel
theorem sneAtFo : ¬ (("at" : Str) = "fold") := by decide +kernel
theorem neAtFo : ¬ (kAt = kFo) := by decide +kernel
theorem sneDiAt : ¬ (("digits" : Str) = "at") := by decide +kernel
theorem sneDiCo : ¬ (("digits" : Str) = "count") := by decide +kernel
theorem neDiCo : ¬ (kDi = kCo) := by decide +kernel
theorem sneDiFo : ¬ (("digits" : Str) = "fold") := by decide +kernel
theorem neDiFo : ¬ (kDi = kFo) := by decide +kernel
theorem sneCoAt : ¬ (("count" : Str) = "at") := by decide +kernel
theorem sneCoDi : ¬ (("count" : Str) = "digits") := by decide +kernel
theorem sneCoFo : ¬ (("count" : Str) = "fold") := by decide +kernel
theorem neCoFo : ¬ (kCo = kFo) := by decide +kernel
theorem sneFoAt : ¬ (("fold" : Str) = "at") := by decide +kernel
theorem sneFoDi : ¬ (("fold" : Str) = "digits") := by decide +kernel
theorem sneFoCo : ¬ (("fold" : Str) = "count") := by decide +kernel
theorem pen_cells {c : Addr} {a d n f : Int} : valV (penK c a d n f) kCe = some (.ref c) := by
  unfold penK
  rw [valV_pos rfl]
theorem pen_at {c : Addr} {a d n f : Int} : valV (penK c a d n f) kAt = some (.int a) := by
  unfold penK
  rw [valV_neg neCeAt, valV_pos rfl]
theorem pen_digits {c : Addr} {a d n f : Int} : valV (penK c a d n f) kDi = some (.int d) := by
  unfold penK
  rw [valV_neg neCeDi, valV_neg neAtDi, valV_pos rfl]
theorem pen_count {c : Addr} {a d n f : Int} : valV (penK c a d n f) kCo = some (.int n) := by
  unfold penK
  rw [valV_neg neCeCo, valV_neg neAtCo, valV_neg neDiCo, valV_pos rfl]
theorem pen_fold {c : Addr} {a d n f : Int} : valV (penK c a d n f) kFo = some (.int f) := by
  unfold penK
  rw [valV_neg neCeFo, valV_neg neAtFo, valV_neg neDiFo, valV_neg neCoFo, valV_pos rfl]
theorem put_at {c : Addr} {a d n f x : Int} : putK (penK c a d n f) kAt (.int x) = penK c x d n f := by
  simp [putK, penK, sneCeAt, sneDiAt, sneCoAt, sneFoAt]
theorem put_digits {c : Addr} {a d n f x : Int} : putK (penK c a d n f) kDi (.int x) = penK c a x n f := by
  simp [putK, penK, sneCeDi, sneAtDi, sneCoDi, sneFoDi]
theorem put_count {c : Addr} {a d n f x : Int} : putK (penK c a d n f) kCo (.int x) = penK c a d x f := by
  simp [putK, penK, sneCeCo, sneAtCo, sneDiCo, sneFoCo]
theorem put_fold {c : Addr} {a d n f x : Int} : putK (penK c a d n f) kFo (.int x) = penK c a d n x := by
  simp [putK, penK, sneCeFo, sneAtFo, sneDiFo, sneCoFo]
theorem merge_pen {c : Addr} {f : Int} : mergeK [] (penK c 0 0 0 f) = penK c 0 0 0 f := by
  simp [mergeK, putK, penK, sneCeAt, sneCeDi, sneCeCo, sneCeFo, sneAtDi, sneAtCo, sneAtFo, sneDiCo, sneDiFo, sneCoFo]
/-- a pen stands at p: at most m draws were made -/
def PenAt (H : Hp) (p c : Addr) (m : Nat) : Prop := ∃ (a d n f : Int) (ns : List Int), H p = some (.dK (penK c a d n f)) ∧ H c = some (.lst (ns.map V.int)) ∧
  0 ≤ a ∧ a ≤ ns.length ∧ 0 ≤ d ∧ 0 ≤ n ∧ n ≤ m ∧ 0 ≤ f ∧ f < 2147483587
theorem PenAt.le {H : Hp} {p c : Addr} {m m' : Nat} (h : PenAt H p c m) (l : m ≤ m') : PenAt H p c m' := by
  obtain ⟨a, d, n, f, ns, h1, h2, h3, h4, h5, h6, h7, h8⟩ := h
  exact ⟨a, d, n, f, ns, h1, h2, h3, h4, h5, h6, by omega, h8⟩
/-- all that stood stands, but what the pen's own dict holds -/
def But (p : Addr) (H H' : Hp) : Prop := ∀ b o, H b = some o → b ≠ p → H' b = some o
theorem But.refl {p : Addr} {H : Hp} : But p H H := fun _ _ h _ => h
theorem But.trans {p : Addr} {H H1 H2 : Hp} (a : But p H H1) (b : But p H1 H2) : But p H H2 := fun c o h n => b c o (a c o h n) n
theorem But.of {p : Addr} {H H' : Hp} (a : Same H H') : But p H H' := fun b o h _ => a b o h
/-- a list of its own may change -/
theorem PenAt.off {H H' : Hp} {p c : Addr} {m : Nat} (h : PenAt H p c m) (s1 : ∀ o, H p = some o → H' p = some o) (s2 : ∀ o, H c = some o → H' c = some o) : PenAt H' p c m := by
  obtain ⟨a, d, n, f, ns, h1, h2, h3⟩ := h
  exact ⟨a, d, n, f, ns, s1 _ h1, s2 _ h2, h3⟩
theorem Same.new {H : Hp} {p : Addr} {o : HO} (h : H p = none) : Same H (upd H p o) := fun b u e => by
  rw [upd_ne (ne_of_none e h)]
  exact e
theorem PenAt.same {H H' : Hp} {p c : Addr} {m : Nat} (h : PenAt H p c m) (s : Same H H') : PenAt H' p c m := by
  obtain ⟨a, d, n, f, ns, h1, h2, h3⟩ := h
  exact ⟨a, d, n, f, ns, s _ _ h1, s _ _ h2, h3⟩

/-! ### what they promise -/
def spPen (K : PySem.W.Frag) : Sp := fun vs H Q _ => ∃ (a : Addr) (ns : List Int), vs = [.ref a] ∧ SqL K H a (ns.map V.int) ∧ ns.length ≤ 63 ∧ ∀ (p c : Addr) (H' : Hp), Same H H' → PenAt H' p c 0 → Q (.ref p) H'
/-- the number of draws that may have been made -/
def most : Nat := 1000000000
def spDraw : Sp := fun vs H Q _ => ∃ (p c : Addr) (many : Int) (m : Nat), vs = [.ref p, .int many] ∧ PenAt H p c m ∧ m < most ∧ 0 < many ∧ many < 1000000000 ∧
  ∀ (r : Int) (H' : Hp), 0 ≤ r → r < many → But p H H' → PenAt H' p c (m + 1) → Q (.int r) H'

structure Txt (K : PySem.W.Frag) (mg : Str → Option Value) : Prop where
  int : mg "int" = none
  bool : mg "bool" = none
  list : mg "list" = none
  tuple : mg "tuple" = none
  len : mg "len" = none
  range : mg "range" = none
  isinstance : mg "isinstance" = none
  repr : mg "repr" = none
  abs : mg "abs" = none
  all : mg "all" = none
  max : mg "max" = none
  min : mg "min" = none
  reversed : mg "reversed" = none
  enumerate : mg "enumerate" = none
  sorted : mg "sorted" = none
  dict : mg "dict" = none
  zip : mg "zip" = none
  NotImplemented : mg "NotImplemented" = none
  gcd : mg "gcd" = some (.builtin "math.gcd")
  lcm : mg "lcm" = some (.builtin "math.lcm")
  is_ratio : Df K mg "is_ratio" sis_ratio ["value"]
  told : Df K mg "told" stold ["value", "what"]
  plus : Df K mg "plus" splus ["one", "other"]
  times : Df K mg "times" stimes ["one", "other"]
  is_integer : Df K mg "is_integer" sis_integer ["value"]
  _parts : Df K mg "_parts" s_parts ["value", "what"]
  _lowest : Df K mg "_lowest" s_lowest ["top", "bottom"]
  is_from : Df K mg "is_from" sis_from ["value", "low", "high"]
  is_row : Df K mg "is_row" sis_row ["value"]
  is_row_of : Df K mg "is_row_of" sis_row_of ["value", "many"]
  is_place : Df K mg "is_place" sis_place ["value"]
  pair_of : Df K mg "pair_of" spair_of ["value"]
  place_of : Df K mg "place_of" splace_of ["value"]
  is_strict_ratio : Df K mg "is_strict_ratio" sis_strict_ratio ["value"]
  held : Df K mg "held" sheld ["value"]
  bottom_of : Df K mg "bottom_of" sbottom_of ["pairs"]
  whole_row : Df K mg "whole_row" swhole_row ["pairs"]
  whole_rows : Df K mg "whole_rows" swhole_rows ["rows"]
  top_power : Df K mg "top_power" stop_power ["tops"]
  total : Df K mg "total" stotal ["pairs"]
  _joined : Df K mg "_joined" s_joined ["parts"]
  row_product : Df K mg "row_product" srow_product ["one", "other"]
  _beside : Df K mg "_beside" s_beside ["value"]
  _number : Df K mg "_number" s_number ["poly", "power"]
  _sum : Df K mg "_sum" s_sum ["one", "other"]
  _product : Df K mg "_product" s_product ["one", "other"]
  _are_rows : Df K mg "_are_rows" s_are_rows ["value"]
  _shortened : Df K mg "_shortened" s_shortened ["pairs"]
  _plane_beside : Df K mg "_plane_beside" s_plane_beside ["value"]
  _row : Df K mg "_row" s_row ["plane", "i"]
  _plane_sum : Df K mg "_plane_sum" s_plane_sum ["one", "other"]
  _row_sum : Df K mg "_row_sum" s_row_sum ["row", "other"]
  _plane_product : Df K mg "_plane_product" s_plane_product ["one", "other"]
  _facing : Df K mg "_facing" s_facing ["rows", "others", "i"]
  _product_row : Df K mg "_product_row" s_product_row ["facing"]
  _crossed_pairs : Df K mg "_crossed_pairs" s_crossed_pairs ["facing", "j"]
  _value_at : Df K mg "_value_at" s_value_at ["tops", "top", "bottom"]
  _scaled : Df K mg "_scaled" s_scaled ["number", "bottom", "many"]
  moved_whole : Df K mg "moved_whole" smoved_whole ["rows", "over", "up", "bottom", "many"]
  _times_line : Df K mg "_times_line" s_times_line ["numbers", "line"]
  _plane_of_numbers : Df K mg "_plane_of_numbers" s_plane_of_numbers ["numbers", "below"]
  slope_along : Df K mg "slope_along" sslope_along ["field", "plane"]
  series : Df K mg "series" sseries ["field", "order"]
  _law_pen : Df K mg "_law_pen" s_law_pen ["_law_script"]
  _law_draw : Df K mg "_law_draw" s_law_draw ["_law_pen_here", "_law_many"]
  _law_pick : Df K mg "_law_pick" s_law_pick ["_law_pen_here", "_law_some"]
  _law_gcd : Df K mg "_law_gcd" s_law_gcd ["_law_one", "_law_two"]
  _law_q : Df K mg "_law_q" s_law_q ["_law_top", "_law_bottom"]
  _law_plus : Df K mg "_law_plus" s_law_plus ["_law_one", "_law_two"]
  _law_times : Df K mg "_law_times" s_law_times ["_law_one", "_law_two"]
  _law_share : Df K mg "_law_share" s_law_share ["_law_one", "_law_two"]
  _law_passed : Df K mg "_law_passed" s_law_passed ["_law_pen_here", "_law_ratio_here"]
  _law_ratio : Df K mg "_law_ratio" s_law_ratio ["_law_pen_here", "_law_most"]
  _law_poly : Df K mg "_law_poly" s_law_poly ["_law_numbers"]
  _law_p_plus : Df K mg "_law_p_plus" s_law_p_plus ["_law_one", "_law_two"]
  _law_p_times : Df K mg "_law_p_times" s_law_p_times ["_law_one", "_law_two"]
  _law_p_at : Df K mg "_law_p_at" s_law_p_at ["_law_one", "_law_point"]
  _law_p_moved : Df K mg "_law_p_moved" s_law_p_moved ["_law_one", "_law_start", "_law_step"]
  _law_drawn : Df K mg "_law_drawn" s_law_drawn ["_law_pen_here", "_law_degree", "_law_most"]
  _law_v_plain : Df K mg "_law_v_plain" s_law_v_plain ["_law_plane"]
  _law_v_plus : Df K mg "_law_v_plus" s_law_v_plus ["_law_one", "_law_two"]
  _law_v_scaled : Df K mg "_law_v_scaled" s_law_v_scaled ["_law_one", "_law_by"]
  _law_v_times : Df K mg "_law_v_times" s_law_v_times ["_law_one", "_law_two"]
  _law_q_power : Df K mg "_law_q_power" s_law_q_power ["_law_ratio_here", "_law_many"]
  _law_v_at : Df K mg "_law_v_at" s_law_v_at ["_law_one", "_law_place_here"]
  _law_v_of : Df K mg "_law_v_of" s_law_v_of ["_law_plane"]
  _law_v_rows : Df K mg "_law_v_rows" s_law_v_rows ["_law_one"]
  _law_made_plane : Df K mg "_law_made_plane" s_law_made_plane ["_law_pen_here", "_law_one"]
  _law_v_drawn : Df K mg "_law_v_drawn" s_law_v_drawn ["_law_pen_here", "_law_degree", "_law_most"]
  _law_place : Df K mg "_law_place" s_law_place ["_law_pen_here", "_law_most"]
  _law_fault : Df K mg "_law_fault" s_law_fault ["_law_call"]
  _law_made_field : Df K mg "_law_made_field" s_law_made_field ["_law_pen_here", "_law_f"]
  _law_x : Df K mg "_law_x" s_law_x []
  _law_y : Df K mg "_law_y" s_law_y []
  _law_some_field : Df K mg "_law_some_field" s_law_some_field ["_law_pen_here", "_law_degree", "_law_most"]
  _law_easy_field : Df K mg "_law_easy_field" s_law_easy_field ["_law_pen_here"]
  _law_easy_flow : Df K mg "_law_easy_flow" s_law_easy_flow ["_law_easy", "_law_place_here", "_law_time"]
  _law_row_times : Df K mg "_law_row_times" s_law_row_times ["_law_one", "_law_two", "_law_many"]
  _law_row_of : Df K mg "_law_row_of" s_law_row_of ["_law_plane", "_law_rows", "_law_many"]
  _law_solves : Df K mg "_law_solves" s_law_solves ["_law_f", "_law_rows"]
  law : Df K mg "law" slaw ["_law_script"]
  BadNumber : ClI K mg "BadNumber" "BadNumber.__init__" (inClass tBadNumber 0) ["self", "what", "number"] ["what", "number"]
  BadRow : ClI K mg "BadRow" "BadRow.__init__" (inClass tBadRow 0) ["self", "row"] ["row"]
  xBadNumberBadNumber : PySem.W.exmOne K (.ref (fA mg "BadNumber")) (.ref (fA mg "BadNumber")) = some true
  xBadRowBadNumber : PySem.W.exmOne K (.ref (fA mg "BadRow")) (.ref (fA mg "BadNumber")) = some false
  xBadRowBadRow : PySem.W.exmOne K (.ref (fA mg "BadRow")) (.ref (fA mg "BadRow")) = some true
  lb : ∀ (s : PySem.Shared) (u : PySem.Value), BindsTo s (fDat K (fA mg "law")) ⟨[u], []⟩ [("_law_script", u)]
section
variable {P : Program} {w : World} {K : PySem.W.Frag} {mg : Str → Option Value} {base : Heap}
theorem scI_BadNumber : FnScope ["self", "what", "number"] ["self", "what", "number"] (defScope (inClass tBadNumber 0)) := ⟨rfl, rfl, rfl, by decide +kernel, rfl, by decide +kernel, by decide +kernel⟩
theorem init_BadNumber (T : Txt K mg) : FnOk P w K mg base CX0 1 (iA K (fA mg "BadNumber")) (fDat K (iA K (fA mg "BadNumber"))) ["self", "what", "number"] (spI2 (fA mg "BadNumber") "what" "number") := by
  refine T.BadNumber.F.ok scI_BadNumber (fun vs H Q E h => ?_) (fun cdv A outer s H vs Q E hr h => ?_)
  · obtain ⟨a, v, u, rfl, _⟩ := h
    rfl
  · obtain ⟨a, v, u, rfl, ha, k⟩ := h
    refine ⟨_, pss_cons (ps_ost (pv 0) (pv 1)) (pss_one (ps_ost (pv 0) (pv 2))), s_ost1 T.BadNumber.o (T.BadNumber.n _ (by simp)) ha rfl rfl fun dx hd ne => ?_⟩
    exact s_ost2 T.BadNumber.o (T.BadNumber.n _ (by simp)) upd_same (by rw [upd_ne ne, upd_same]) rfl rfl (k dx hd ne)

/-! ### kinds of values -/
def kinds : List String := ["int", "bool", "str", "NoneType", "dict", "list", "tuple"]
theorem kit_int {n : String} (h : n ∈ kinds) : PySem.W.kitOne K (.type n) (.type "int") = some (decide (n = "int") || decide (n = "bool")) := by
  simp only [kinds, List.mem_cons, List.not_mem_nil, or_false] at h
  rcases h with rfl | rfl | rfl | rfl | rfl | rfl | rfl <;> exact kit_ty (by decide +kernel)
theorem kit_bool {n : String} (h : n ∈ kinds) : PySem.W.kitOne K (.type n) (.type "bool") = some (decide (n = "bool")) := by
  simp only [kinds, List.mem_cons, List.not_mem_nil, or_false] at h
  rcases h with rfl | rfl | rfl | rfl | rfl | rfl | rfl <;> exact kit_ty (by decide +kernel)
theorem kit_tuple {n : String} (h : n ∈ kinds) : PySem.W.kitOne K (.type n) (.type "tuple") = some (decide (n = "tuple")) := by
  simp only [kinds, List.mem_cons, List.not_mem_nil, or_false] at h
  rcases h with rfl | rfl | rfl | rfl | rfl | rfl | rfl <;> exact kit_ty (by decide +kernel)
theorem kit_list {n : String} (h : n ∈ kinds) : PySem.W.kitOne K (.type n) (.type "list") = some (decide (n = "list")) := by
  simp only [kinds, List.mem_cons, List.not_mem_nil, or_false] at h
  rcases h with rfl | rfl | rfl | rfl | rfl | rfl | rfl <;> exact kit_ty (by decide +kernel)
theorem kit_seq {n : String} (h : n ∈ kinds) : PySem.W.kitAny K (.type n) [.type "tuple", .type "list"] = some (decide (n = "tuple") || decide (n = "list")) := by
  refine kitAny_cons (kit_tuple h) (fun e => ?_) (fun e => by rw [e]; rfl)
  rw [e]
  exact kitAny_cons (kit_list h) (fun e2 => by rw [e2]; rfl) (fun e2 => by rw [e2]; rfl)
/-- a value's kind, by its name -/
inductive Is (H : Hp) : V → String → Prop
  | int (i : Int) : Is H (.int i) "int"
  | bl (b : Bool) : Is H (.bl b) "bool"
  | str (x : Str) : Is H (.str x) "str"
  | non : Is H .non "NoneType"
  | lst {a : Addr} {xs : List V} (e : H a = some (.lst xs)) : Is H (.ref a) "list"
  | tup {a : Addr} {xs : List V} (e : H a = some (.tup xs)) : Is H (.ref a) "tuple"
  | dic {a : Addr} {kvs : List (Key × V)} (e : H a = some (.dK kvs)) : Is H (.ref a) "dict"
theorem Is.ty {K : PySem.W.Frag} {H : Hp} {v : V} {n : String} (h : Is H v n) : TyX K H v (.type n) ∧ n ∈ kinds := by
  cases h with
  | int i => exact ⟨.base (.int i), by decide⟩
  | bl b => exact ⟨.base (.bl b), by decide⟩
  | str x => exact ⟨.base (.str x), by decide⟩
  | non => exact ⟨.base .non, by decide⟩
  | lst e => exact ⟨.base (.lst e), by decide⟩
  | tup e => exact ⟨.base (.tup e), by decide⟩
  | dic e => exact ⟨.base (.dK e), by decide⟩
theorem Is.same {H H' : Hp} {v : V} {n : String} (h : Is H v n) (s : Same H H') : Is H' v n := by
  cases h with
  | int i => exact .int i
  | bl b => exact .bl b
  | str x => exact .str x
  | non => exact .non
  | lst e => exact .lst (s _ _ e)
  | tup e => exact .tup (s _ _ e)
  | dic e => exact .dic (s _ _ e)
theorem v_isi {σ : L2.St} {H : Hp} {te : TE} {v : V} {n c : String} {b : Bool} (h : Val te σ H v) (ty : TyX K H v (.type n)) (k : PySem.W.kitOne K (.type n) (.type c) = some b) :
    Val (tCB (rIsi K) (tCons te (tCons (tC (.ty c)) tNil))) σ H (.bl b) := v_cb (va_cons h (va_cons val_c va_nil)) fun Q q => ⟨v, _, _, _, b, rfl, .ty c, ty, k, q⟩
def spInt : Sp := fun vs H Q _ => ∃ (v : V) (n : String), vs = [v] ∧ Is H v n ∧ Q (.bl (decide (n = "int"))) H
theorem ok_is_integer (T : Txt K mg) : FnOk P w K mg base CX0 1 (fA mg "is_integer") (fDat K (fA mg "is_integer")) ["value"] spInt := by
  refine T.is_integer.F.ok scis_integer (fun vs H Q E h => ?_) (fun cdv A outer s H vs Q E hr h => ?_)
  · obtain ⟨v, n, rfl, _⟩ := h
    rfl
  · obtain ⟨v, n, rfl, is, k⟩ := h
    obtain ⟨ty, hn⟩ := is.ty (K := K)
    refine ⟨_, (pss_one (ps_ret (pe_and (pe_callB call_isi (by rfl) T.isinstance (by decide +kernel) (pa_cons (pv 0) (pa_cons (pe_bltn (v := .ty "int") (by rfl) T.int (by decide +kernel) rfl) pa_nil))) (pe_one (pe_not (pe_callB call_isi (by rfl) T.isinstance (by decide +kernel) (pa_cons (pv 0) (pa_cons (pe_bltn (v := .ty "bool") (by rfl) T.bool (by decide +kernel) rfl) pa_nil)))))))), ?_⟩
    refine r_ret ?_
    refine (v_isi (val_var rfl) ty (kit_int hn)) _ ?_
    refine ⟨_, rfl, ?_⟩
    by_cases h1 : n = "int"
    · subst h1
      refine iteT ?_
      refine (v_isi (val_var rfl) ty (kit_bool hn)) _ ?_
      exact ⟨_, rfl, k⟩
    · by_cases h2 : n = "bool"
      · subst h2
        refine iteT ?_
        refine (v_isi (val_var rfl) ty (kit_bool hn)) _ ?_
        exact ⟨_, rfl, k⟩
      · have e : (decide (n = "int") || decide (n = "bool")) = false := by simp [h1, h2]
        rw [e]
        refine iteF ?_
        rw [decide_eq_false h1] at k
        exact k

/-! ### is_ratio -/
/-- a list or a tuple stands at a -/
def Sq (H : Hp) (a : Addr) (xs : List V) : Prop := H a = some (.lst xs) ∨ H a = some (.tup xs)
theorem Sq.same {H H' : Hp} {a : Addr} {xs : List V} (h : Sq H a xs) (s : Same H H') : Sq H' a xs := h.elim (fun z => .inl (s _ _ z)) fun z => .inr (s _ _ z)
theorem Sq.is {H : Hp} {a : Addr} {xs : List V} (h : Sq H a xs) : ∃ n, Is H (.ref a) n ∧ (n = "list" ∨ n = "tuple") := by
  rcases h with h | h
  · exact ⟨"list", .lst h, .inl rfl⟩
  · exact ⟨"tuple", .tup h, .inr rfl⟩
theorem Sq.sq {K : PySem.W.Frag} {H : Hp} {a : Addr} {xs : List V} (h : Sq H a xs) : SqL K H a xs ∨ SqT K H a xs := h.elim (fun z => .inl (SqL.of z)) fun z => .inr (SqT.of z)
theorem v_ixS {K : PySem.W.Frag} {σ : L2.St} {H : Hp} {te tb : TE} {a : Addr} {xs : List V} {n : Nat} {v : V} (h : Val te σ H (.ref a)) (hi : Val tb σ H (.int (n : Int))) (hx : Sq H a xs) (he : xs[n]? = some v) : Val (tOp (rIx K) te tb) σ H v :=
  val_op h hi fun Q q => hx.elim (fun z => .inl ⟨a, xs, n, v, rfl, rfl, SqL.of z, atI_nat he, q⟩) fun z => .inr (.inl ⟨a, xs, n, v, rfl, rfl, SqT.of z, atI_nat he, q⟩)
/-- what is_ratio answers -/
inductive RatQ (H : Hp) : V → Bool → Prop
  | int (i : Int) : RatQ H (.int i) true
  | odd {v : V} {n : String} (h : Is H v n) (o : n = "bool" ∨ n = "str" ∨ n = "NoneType" ∨ n = "dict") : RatQ H v false
  | len {a : Addr} {xs : List V} (h : Sq H a xs) (l : xs.length ≠ 2) : RatQ H (.ref a) false
  | fst {a : Addr} {x y : V} {n : String} (h : Sq H a [x, y]) (hx : Is H x n) (o : n ≠ "int") : RatQ H (.ref a) false
  | snd {a : Addr} {i : Int} {y : V} {n : String} (h : Sq H a [.int i, y]) (hx : Is H y n) (o : n ≠ "int") : RatQ H (.ref a) false
  | pair {a : Addr} {i j : Int} (h : Sq H a [.int i, .int j]) : RatQ H (.ref a) (decide (0 < j))
theorem RatQ.same {H H' : Hp} {v : V} {b : Bool} (h : RatQ H v b) (s : Same H H') : RatQ H' v b := by
  cases h with
  | int i => exact .int i
  | odd h o => exact .odd (h.same s) o
  | len h l => exact .len (h.same s) l
  | fst h hx o => exact .fst (h.same s) (hx.same s) o
  | snd h hx o => exact .snd (h.same s) (hx.same s) o
  | pair h => exact .pair (h.same s)
def spRat : Sp := fun vs H Q _ => ∃ (v : V) (b : Bool), vs = [v] ∧ RatQ H v b ∧ ∀ H', Same H H' → Q (.bl b) H'
/-- if not t: .. -/
theorem q_ifNot {σ : L2.St} {H : Hp} {t : TT} {t1 tz : TS} {D : Ends} (h : t σ H fun c H1 => if (!c) = true then t1 { D with nx := tz D } σ H1 else tz D σ H1) : tSeq (tIfS (tNot t) t1 tNext) tz D σ H := h
/-- if not t or u: .. -/
theorem q_ifOrNot {σ : L2.St} {H : Hp} {t u : TT} {t1 tz : TS} {D : Ends} (h : t σ H fun c H1 => if (!c) = true then (if true = true then t1 { D with nx := tz D } σ H1 else tz D σ H1) else
    u σ H1 fun b H2 => if b = true then t1 { D with nx := tz D } σ H2 else tz D σ H2) : tSeq (tIfS (tOr (tNot t) u) t1 tNext) tz D σ H := h
theorem ok_is_ratio (T : Txt K mg) : FnOk P w K mg base CX0 3 (fA mg "is_ratio") (fDat K (fA mg "is_ratio")) ["value"] spRat := by
  have Gis_integer := ok_is_integer (P := P) (w := w) (base := base) T
  refine T.is_ratio.F.ok scis_ratio (fun vs H Q E h => ?_) (fun cdv A outer s H vs Q E hr h => ?_)
  · obtain ⟨v, b, rfl, _⟩ := h
    rfl
  · obtain ⟨v, b, rfl, hR, k⟩ := h
    refine ⟨_, (pss_cons (ps_if (pt_val (pe_c T.is_integer Gis_integer (hr.mono (by decide)) (pa_cons (pv 0) pa_nil))) (pss_one (ps_ret pe_bl)) pss_nil)
  (pss_cons (ps_if (PW.pt (pw_or (pt_not (pt_val (pe_callB call_isiT (by rfl) T.isinstance (by decide +kernel) (pa_cons (pv 0) (pa_cons (pe_tup (pa_cons (pe_bltn (v := .ty "tuple") (by rfl) T.tuple (by decide +kernel) rfl) (pa_cons (pe_bltn (v := .ty "list") (by rfl) T.list (by decide +kernel) rfl) pa_nil))) pa_nil))))) (pw_or1 (pt_cmpR op_ne (pe_callB call_len_seq (by rfl) T.len PySem.boot_len (pa_cons (pv 0) pa_nil)) pe_int (nomark _))))) (pss_one (ps_ret pe_bl)) pss_nil)
  (pss_one (ps_ret (pe_and (pe_c T.is_integer Gis_integer (hr.mono (by decide)) (pa_cons (pe_ix ix_seq (pv 0) pe_int (fun _ _ => rfl)) pa_nil)) (pe_and (pe_c T.is_integer Gis_integer (hr.mono (by decide)) (pa_cons (pe_ix ix_seq (pv 0) pe_int (fun _ _ => rfl)) pa_nil)) (pe_one (pe_cmpR op_gt (pe_ix ix_seq (pv 0) pe_int (fun _ _ => rfl)) pe_int (nomark _))))))))), ?_⟩
    have whole : ∀ {te : TE} {σ : L2.St} {H1 : Hp} {v : V} {n : String}, Val te σ H1 v → Is H1 v n → Val (tCall spInt [] E0 (tCons te tNil)) σ H1 (.bl (decide (n = "int"))) := fun h i Q q => c_call (va_cons h va_nil) ⟨_, _, rfl, i, q⟩
    have no : ∀ {n : String}, n ≠ "int" → decide (n = "int") = false := fun h => decide_eq_false h
    -- isinstance(value, (tuple, list)): a new tuple of both
    have both : ∀ {H1 : Hp} {v : V} {n : String} {Q : Bool → Hp → Prop}, Is H1 v n → (∀ H2, Same H1 H2 → Q (decide (n = "tuple") || decide (n = "list")) H2) →
        tB (tCB (rIsiT K) (tCons (tVar 0) (tCons (tTup (tCons (tC (.ty "tuple")) (tCons (tC (.ty "list")) tNil))) tNil))) [some v] H1 Q := fun {H1 v n Q} i q =>
      ⟨v, rfl, ⟨by show 2 ≤ sizeLine; decide, fun p hp => ⟨v, p, [.ty "tuple", .ty "list"], _, [.type "tuple", .type "list"], _, rfl, upd_same, .cons (.ty _) (.cons (.ty _) .nil), (i.same (Same.new' hp)).ty.1, kit_seq (i.ty (K := K)).2, _, rfl, q _ (Same.new' hp)⟩⟩⟩
    have notI : ∀ {a : Addr} {xs : List V}, Sq H a xs → ∃ n, Is H (.ref a) n ∧ n ≠ "int" ∧ (decide (n = "tuple") || decide (n = "list")) = true := fun {a xs} h => by
      obtain ⟨n, i, o⟩ := h.is
      exact ⟨n, i, by rcases o with rfl | rfl <;> decide, by rcases o with rfl | rfl <;> decide⟩
    have lenOf : ∀ {a : Addr} {xs : List V} {H2 : Hp}, Sq H2 a xs → Val (tCB (fun xs H Q => ∃ p ys, xs = [.ref p] ∧ (SqL K H p ys ∨ SqT K H p ys) ∧ Q (.int ys.length) H) (tCons (tVar 0) tNil)) [some (.ref a)] H2 (.int (xs.length : Int)) := fun h => v_len (val_var rfl) h.sq
    have two : ∀ {a : Addr} {x y : V} {H2 : Hp} {j : Nat} {v : V}, Sq H2 a [x, y] → [x, y][j]? = some v → Val (tOp (rIx K) (tVar 0) (tC (.int (j : Int)))) [some (.ref a)] H2 v := fun h e => v_ixS (val_var rfl) val_c h e
    cases hR with
    | int i => exact q_when (b := true) (ans_val (whole (val_var rfl) (.int i))) (fun _ => st_ret val_c (k H (Same.refl H))) (fun z => nomatch z)
    | @odd _ n h o =>
      have ni : n ≠ "int" := by rcases o with rfl | rfl | rfl | rfl <;> decide
      have ns : (decide (n = "tuple") || decide (n = "list")) = false := by rcases o with rfl | rfl | rfl | rfl <;> decide
      refine q_unless (Ans.to (ans_val (whole (val_var rfl) h)) (no ni)) ?_
      refine q_ifOrNot (both h fun H2 s2 => ?_)
      rw [ns]
      exact iteT (iteT (st_ret val_c (k H2 s2)))
    | @len a xs h l =>
      obtain ⟨n, i, ni, ns⟩ := notI h
      refine q_unless (Ans.to (ans_val (whole (val_var rfl) i)) (no ni)) ?_
      refine q_ifOrNot (both i fun H2 s2 => ?_)
      rw [ns]
      refine iteF ?_
      refine (ans_ne (lenOf (h.same s2)) val_c rfl (b := true) (by simp; omega)) _ ?_
      exact iteT (st_ret val_c (k H2 s2))
    | @fst a x y n h hx o =>
      obtain ⟨m, i, ni, ns⟩ := notI h
      refine q_unless (Ans.to (ans_val (whole (val_var rfl) i)) (no ni)) ?_
      refine q_ifOrNot (both i fun H2 s2 => ?_)
      rw [ns]
      refine iteF ?_
      refine (ans_ne (lenOf (h.same s2)) val_c rfl (b := false) (by simp)) _ ?_
      refine iteF ?_
      refine r_ret ?_
      refine (whole (two (j := 0) (h.same s2) rfl) (hx.same s2)) _ ⟨_, rfl, ?_⟩
      rw [no o]
      exact iteF (k H2 s2)
    | @snd a i y n h hx o =>
      obtain ⟨m, j, ni, ns⟩ := notI h
      refine q_unless (Ans.to (ans_val (whole (val_var rfl) j)) (no ni)) ?_
      refine q_ifOrNot (both j fun H2 s2 => ?_)
      rw [ns]
      refine iteF ?_
      refine (ans_ne (lenOf (h.same s2)) val_c rfl (b := false) (by simp)) _ ?_
      refine iteF ?_
      refine r_ret ?_
      refine (whole (two (j := 0) (h.same s2) rfl) (.int i)) _ ⟨_, rfl, ?_⟩
      refine iteT ?_
      refine (whole (two (j := 1) (h.same s2) rfl) (hx.same s2)) _ ⟨_, rfl, ?_⟩
      rw [no o]
      exact iteF (k H2 s2)
    | @pair a i j h =>
      obtain ⟨m, i2, ni, ns⟩ := notI h
      refine q_unless (Ans.to (ans_val (whole (val_var rfl) i2)) (no ni)) ?_
      refine q_ifOrNot (both i2 fun H2 s2 => ?_)
      rw [ns]
      refine iteF ?_
      refine (ans_ne (lenOf (h.same s2)) val_c rfl (b := false) (by simp)) _ ?_
      refine iteF ?_
      refine r_ret ?_
      refine (whole (two (j := 0) (h.same s2) rfl) (.int i)) _ ⟨_, rfl, ?_⟩
      refine iteT ?_
      refine (whole (two (j := 1) (h.same s2) rfl) (.int j)) _ ⟨_, rfl, ?_⟩
      refine iteT ?_
      refine (two (j := 1) (h.same s2) rfl) _ ?_
      exact ⟨_, _, rfl, rfl, k H2 s2⟩

/-! ### the parts of a ratio -/
inductive Rt (H : Hp) : V → Int → Int → Prop
  | int (i : Int) : Rt H (.int i) i 1
  | pair {a : Addr} {i j : Int} (h : Sq H a [.int i, .int j]) (p : 0 < j) : Rt H (.ref a) i j
theorem Rt.same {H H' : Hp} {v : V} {i j : Int} (h : Rt H v i j) (s : Same H H') : Rt H' v i j := by
  cases h with
  | int i => exact .int i
  | pair h p => exact .pair (h.same s) p
theorem Rt.pos {H : Hp} {v : V} {i j : Int} (h : Rt H v i j) : 0 < j := by
  cases h with
  | int i => decide
  | pair h p => exact p
theorem Rt.yes {H : Hp} {v : V} {i j : Int} (h : Rt H v i j) : RatQ H v true := by
  cases h with
  | int i => exact .int i
  | pair h p =>
    have q := RatQ.pair h
    rw [decide_eq_true p] at q
    exact q
/-- BadNumber(what, number) leaves -/
def Bad (mg : Str → Option Value) (H : Hp) (wh v : V) (E : XK) : Prop := ∀ (d : Addr) (H' : Hp), Same H H' → H d = none → H' d = some (.xd [("number", v), ("what", wh)]) → E (.ref (fA mg "BadNumber")) (some d) H'
theorem Bad.from {mg : Str → Option Value} {H H' : Hp} {wh v : V} {E : XK} (b : Bad mg H wh v E) (s : Same H H') : Bad mg H' wh v E := fun d H2 s2 n e => b d H2 (s.trans s2) (s.free n) e
theorem x_made2 {σ : L2.St} {H : Hp} {ta : TA} {C : Addr} {f g : Str} {v u : V} {Q : XK} (h : VA ta σ H [v, u]) (k : ∀ d H', Same H H' → H d = none → H' d = some (.xd [(g, u), (f, v)]) → Q (.ref C) (some d) H') : tMkO C (spI2 C f g) [] ta σ H Q :=
  h _ ⟨by show 2 ≤ 1000; decide, fun a ha => ⟨a, v, u, rfl, upd_same, fun dx hd ne => by
    rw [upd_ne ne] at hd
    refine ⟨rfl, dx, _, by rw [upd_ne (Ne.symm ne), upd_same], upd_same, hd, k dx _ (fun b o e => ?_) hd upd_same⟩
    have hb : b ≠ a := ne_of_none e ha
    have hb2 : b ≠ dx := ne_of_none e hd
    rw [upd_ne hb2, del_ne hb, upd_ne hb2, upd_ne hb, upd_ne hb2, upd_ne hb]
    exact e⟩⟩
def spParts (mg : Str → Option Value) : Sp := fun vs H Q E => ∃ (v wh : V), vs = [v, wh] ∧ ((∃ i j, Rt H v i j ∧ ∀ (p : Addr) (H' : Hp), Same H H' → H' p = some (.tup [.int i, .int j]) → Q (.ref p) H') ∨ (RatQ H v false ∧ Bad mg H wh v E))
theorem ok_parts (T : Txt K mg) : FnOk P w K mg base (L2.CX P w) 5 (fA mg "_parts") (fDat K (fA mg "_parts")) ["value", "what"] (spParts mg) := by
  have Gis_ratio := ok_is_ratio (P := P) (w := w) (base := base) T
  have Gi_BadNumber := init_BadNumber (P := P) (w := w) (base := base) T
  refine T._parts.F.okX sc_parts (fun vs H Q E h => ?_) (fun cdv A outer s H vs Q E hr h => ?_)
  · obtain ⟨v, wh, rfl, _⟩ := h
    rfl
  · obtain ⟨v, wh, rfl, h⟩ := h
    refine ⟨_, (pss_cons (ps_if (pt_not (pt_val (pe_c T.is_ratio Gis_ratio (hr.mono (by decide)) (pa_cons (pv 0) pa_nil)))) (pss_one (ps_raise rfl (takes_of rfl rfl rfl rfl) (pmk_oex T.BadNumber.o T.BadNumber.i T.BadNumber.t Gi_BadNumber (hr.mono (by decide)) T.BadNumber.b .nil pass0 (by rfl) T.BadNumber.g (pa_cons (pv 1) (pa_cons (pv 0) pa_nil))))) pss_nil)
  (pss_cons (ps_if (pt_val (pe_callB call_isi (by rfl) T.isinstance (by decide +kernel) (pa_cons (pv 0) (pa_cons (pe_bltn (v := .ty "int") (by rfl) T.int (by decide +kernel) rfl) pa_nil)))) (pss_one (ps_ret (pe_tup (pa_cons (pv 0) (pa_cons pe_int pa_nil))))) pss_nil)
  (pss_one (ps_ret (pe_tup (pa_cons (pe_ix ix_seq (pv 0) pe_int (fun _ _ => rfl)) (pa_cons (pe_ix ix_seq (pv 0) pe_int (fun _ _ => rfl)) pa_nil))))))), ?_⟩
    have rat : ∀ {b : Bool} {X : Bool → Hp → Prop}, RatQ H v b → (∀ H', Same H H' → X b H') → (tB (tCall spRat [] E0 (tCons (tVar 0) tNil))) [some v, some wh] H X := fun r k =>
      c_call (va_cons (val_var rfl) va_nil) ⟨_, _, rfl, r, fun H' s => ⟨_, rfl, k H' s⟩⟩
    rcases h with ⟨i, j, r, k⟩ | ⟨r, k⟩
    · refine q_ifNot (rat r.yes fun H1 s1 => ?_)
      refine iteF ?_
      have r1 := r.same s1
      cases r1 with
      | int i =>
        obtain ⟨ty, hn⟩ := (Is.int (H := H1) i).ty (K := K)
        refine q_when (b := true) (ans_val (v_isi (val_var rfl) ty (kit_int hn))) (fun _ => ?_) (fun z => nomatch z)
        exact r_ret (te := tTup _) ((va_cons (val_var rfl) (va_cons val_c va_nil)) _ ⟨by show 2 ≤ sizeLine; decide, fun p hp => k p _ (s1.trans (Same.new' hp)) upd_same⟩)
      | @pair a i j h p =>
        obtain ⟨n, is, o⟩ := h.is
        have e : (decide (n = "int") || decide (n = "bool")) = false := by rcases o with rfl | rfl <;> decide
        obtain ⟨ty, hn⟩ := is.ty (K := K)
        have z := v_isi (K := K) (σ := [some (.ref a), some wh]) (te := tVar 0) (val_var rfl) ty (kit_int hn)
        rw [e] at z
        refine q_unless (ans_val z) ?_
        exact r_ret (te := tTup _) ((va_cons (v_ixS (n := 0) (val_var rfl) val_c h rfl) (va_cons (v_ixS (n := 1) (val_var rfl) val_c h rfl) va_nil)) _ ⟨by show 2 ≤ sizeLine; decide, fun p hp => k p _ (s1.trans (Same.new' hp)) upd_same⟩)
    · refine q_ifNot (rat r fun H1 s1 => ?_)
      exact iteT (x_made2 (va_cons (val_var rfl) (va_cons (val_var rfl) va_nil)) fun d H' s n e => k d H' (s1.trans s) (s1.free n) e)

theorem op_fdivS {X : Cx} : OpR X (binaryOp .FloorDiv) (rI (fun _ j => j ≠ 0 ∧ j.natAbs.log2 < 9000) fun i j => .int (i.fdiv j)) := opI fun _ _ _ _ _ _ _ hc q => floordiv_int hc.1 q (.inl (PyProof.noPylong_of_log2 hc.2))
/-! ### lowest terms -/
def gI (i j : Int) : Int := ((Nat.gcd i.natAbs j.natAbs : Nat) : Int)
theorem gI_pos {i j : Int} (h : 0 < j) : 0 < gI i j := by
  have : 0 < Nat.gcd i.natAbs j.natAbs := Nat.gcd_pos_of_pos_right _ (by omega)
  unfold gI
  omega
theorem gI_le {i j : Int} (h : 0 < j) : gI i j ≤ j := by
  have : Nat.gcd i.natAbs j.natAbs ≤ j.natAbs := Nat.le_of_dvd (by omega) (Nat.gcd_dvd_right _ _)
  unfold gI
  omega
def wd : Nat := 4000
def spLow : Sp := fun vs H Q _ => ∃ i j : Int, vs = [.int i, .int j] ∧ 0 < j ∧ j.natAbs < 2 ^ wd ∧ ∀ (p : Addr) (H' : Hp), Same H H' → H' p = some (.tup [.int (i / gI i j), .int (j / gI i j)]) → Q (.ref p) H'
theorem ok_lowest (T : Txt K mg) : FnOk P w K mg base CX0 1 (fA mg "_lowest") (fDat K (fA mg "_lowest")) ["top", "bottom"] spLow := by
  refine T._lowest.F.ok sc_lowest (fun vs H Q E h => ?_) (fun cdv A outer s H vs Q E hr h => ?_)
  · obtain ⟨i, j, rfl, _⟩ := h
    rfl
  · obtain ⟨i, j, rfl, hj, hb, k⟩ := h
    refine ⟨_, (pss_cons (ps_set (i := 2) sc_lowest.nd rfl (Or.inl rfl) (pe_callBfun cr_gcd (by rfl) T.gcd (pa_cons (pv 0) (pa_cons (pv 1) pa_nil))))
  (pss_one (ps_ret (pe_tup (pa_cons (pe_op op_fdivW (pv 0) (pv 2)) (pa_cons (pe_op op_fdivW (pv 1) (pv 2)) pa_nil)))))), ?_⟩
    have hd : CDivW i (gI i j) ∧ CDivW j (gI i j) := by
      have h := wide_div (i := i) (gI_pos (i := i) hj) (b := wd) (wide_le (Int.le_of_lt (gI_pos hj)) (gI_le hj) hb) (by decide) (by decide)
      exact ⟨h, h⟩
    refine q_set (v := .int (gI i j)) (v_cb (va_cons (val_var rfl) (va_cons (val_var rfl) va_nil)) fun Q q => ⟨i, j, rfl, q⟩) ?_
    exact r_ret (te := tTup _) ((va_cons (v_div (val_var rfl) (val_var rfl) hd.1) (va_cons (v_div (val_var rfl) (val_var rfl) hd.2) va_nil)) _ ⟨by show 2 ≤ sizeLine; decide, fun p hp => k p _ (Same.new' hp) upd_same⟩)
/-- a ratio of any terms below 2 ^ 1000, and its parts -/
def Fit (i j : Int) : Prop := i.natAbs < 2 ^ 1000 ∧ j.natAbs < 2 ^ 1000
theorem fit_mul {i j : Int} (h : i.natAbs < 2 ^ 1000) (g : j.natAbs < 2 ^ 1000) : CMulW i j := wide_mul h g (by decide) (by decide) (by decide)
theorem fit_lt {i j : Int} (h : i.natAbs < 2 ^ 1000) (g : j.natAbs < 2 ^ 1000) : (i * j).natAbs < 2 ^ wd := Nat.lt_of_lt_of_le (wide_lt h g) (Nat.pow_le_pow_right (by decide) (by decide))
theorem fit_add {i j : Int} (h : i.natAbs < 2 ^ (1000 + 1000)) (g : j.natAbs < 2 ^ (1000 + 1000)) : (i + j).natAbs < 2 ^ wd := by
  have e : 2 ^ (1000 + 1000) + 2 ^ (1000 + 1000) = 2 ^ (1000 + 1000 + 1) := by rw [Nat.pow_succ (n := 2) (m := 1000 + 1000)]; exact (Nat.mul_two _).symm
  have l : 2 ^ (1000 + 1000 + 1) ≤ 2 ^ wd := Nat.pow_le_pow_right (by decide) (by decide)
  exact Nat.lt_of_lt_of_le (Nat.lt_of_le_of_lt (Int.natAbs_add_le i j) (Nat.add_lt_add h g)) (Nat.le_trans (Nat.le_of_eq e) l)
theorem q_parts {mg : Str → Option Value} {K : PySem.W.Frag} {σ : L2.St} {H : Hp} {E : XK} {ta : TA} {v wh : V} {a b : Int} {i j n : Nat} {tz : TS} {D : Ends} (hn : n = 2) (h : VA ta σ H [v, wh]) (r : Rt H v a b)
    (q : ∀ H', Same H H' → tz D ((σ.set i (some (.int a))).set j (some (.int b))) H') : tSeq (tAsg (tCall (spParts mg) [] E ta) (gTup K n (gCons (gName i) (gCons (gName j) gNil)))) tz D σ H := by
  subst hn
  exact (show tAsg _ _ _ _ _ from c_call h ⟨v, wh, rfl, .inl ⟨a, b, r, fun p H' s e => g_two (SqT.of e) (q H' s)⟩⟩)
theorem q_partsX {mg : Str → Option Value} {σ : L2.St} {H : Hp} {E : XK} {ta : TA} {v wh : V} {g : TG} {tz : TS} {D : Ends} (h : VA ta σ H [v, wh]) (r : RatQ H v false) (b : Bad mg H wh v E) :
    tSeq (tAsg (tCall (spParts mg) [] E ta) g) tz D σ H := (show tAsg _ _ _ _ _ from c_call h ⟨v, wh, rfl, .inr ⟨r, b⟩⟩)

def sp_plus (mg : Str → Option Value) : Sp := fun vs H Q E => ∃ (v u : V), vs = [v, u] ∧ ((∃ i j k l, Rt H v i j ∧ Rt H u k l ∧ Fit i j ∧ Fit k l ∧ ∀ (p : Addr) (H' : Hp), Same H H' → H' p = some (.tup [.int ((i * l + k * j) / gI (i * l + k * j) (j * l)), .int ((j * l) / gI (i * l + k * j) (j * l))]) → Q (.ref p) H') ∨
  (RatQ H v false ∧ Bad mg H (.str "ratio") v E) ∨ (∃ i j, Rt H v i j ∧ RatQ H u false ∧ Bad mg H (.str "ratio") u E))
theorem ok_plus (T : Txt K mg) : FnOk P w K mg base (L2.CX P w) 6 (fA mg "plus") (fDat K (fA mg "plus")) ["one", "other"] (sp_plus mg) := by
  have G_parts := ok_parts (P := P) (w := w) (base := base) T
  have G_lowest := ok_lowest (P := P) (w := w) (base := base) T
  have Gi_BadNumber := init_BadNumber (P := P) (w := w) (base := base) T
  refine T.plus.F.okX scplus (fun vs H Q E h => ?_) (fun cdv A outer s H vs Q E hr h => ?_)
  · obtain ⟨v, u, rfl, _⟩ := h
    rfl
  · obtain ⟨v, u, rfl, h⟩ := h
    refine ⟨_, (pss_cons (ps_asg (pe_call G_parts (hr.mono (by decide)) (by rfl) T._parts.g T._parts.F.kp T._parts.b .nil (passes_call (takes_of rfl rfl rfl rfl) (fun _ _ _ _ h => h)) (pa_cons (pv 0) (pa_cons pe_str pa_nil))) (pg_tup rfl (pgs_cons (pg_name (i := 2) scplus.nd rfl (Or.inl rfl)) (pgs_cons (pg_name (i := 3) scplus.nd rfl (Or.inl rfl)) pgs_nil))))
  (pss_cons (ps_asg (pe_call G_parts (hr.mono (by decide)) (by rfl) T._parts.g T._parts.F.kp T._parts.b .nil (passes_call (takes_of rfl rfl rfl rfl) (fun _ _ _ _ h => h)) (pa_cons (pv 1) (pa_cons pe_str pa_nil))) (pg_tup rfl (pgs_cons (pg_name (i := 4) scplus.nd rfl (Or.inl rfl)) (pgs_cons (pg_name (i := 5) scplus.nd rfl (Or.inl rfl)) pgs_nil))))
  (pss_one (ps_ret (pe_c T._lowest G_lowest (hr.mono (by decide)) (pa_cons (pe_op op_add (pe_op op_mulW (pv 2) (pv 5)) (pe_op op_mulW (pv 4) (pv 3))) (pa_cons (pe_op op_mulW (pv 3) (pv 5)) pa_nil))))))), ?_⟩
    rcases h with ⟨i, j, k, l, r, t, ⟨fi, fj⟩, ⟨fk, fl⟩, q⟩ | ⟨r, b⟩ | ⟨i, j, r, t, b⟩
    · refine q_parts rfl (va_cons (val_var rfl) (va_cons val_c va_nil)) r fun H1 s1 => ?_
      refine q_parts rfl (va_cons (val_var rfl) (va_cons val_c va_nil)) (t.same s1) fun H2 s2 => ?_
      exact r_ret (te := tCall _ _ _ _) (c_call (va_cons (v_add (v_mul (val_var rfl) (val_var rfl) (fit_mul fi fl)) (v_mul (val_var rfl) (val_var rfl) (fit_mul fk fj))) (va_cons (v_mul (val_var rfl) (val_var rfl) (fit_mul fj fl)) va_nil)) ⟨_, _, rfl, Int.mul_pos r.pos t.pos, fit_lt fj fl, fun p H' s e => q p H' ((s1.trans s2).trans s) e⟩)
    · exact q_partsX (va_cons (val_var rfl) (va_cons val_c va_nil)) r b
    · refine q_parts rfl (va_cons (val_var rfl) (va_cons val_c va_nil)) r fun H1 s1 => ?_
      exact q_partsX (va_cons (val_var rfl) (va_cons val_c va_nil)) (t.same s1) (b.from s1)

def sp_times (mg : Str → Option Value) : Sp := fun vs H Q E => ∃ (v u : V), vs = [v, u] ∧ ((∃ i j k l, Rt H v i j ∧ Rt H u k l ∧ Fit i j ∧ Fit k l ∧ ∀ (p : Addr) (H' : Hp), Same H H' → H' p = some (.tup [.int ((i * k) / gI (i * k) (j * l)), .int ((j * l) / gI (i * k) (j * l))]) → Q (.ref p) H') ∨
  (RatQ H v false ∧ Bad mg H (.str "ratio") v E) ∨ (∃ i j, Rt H v i j ∧ RatQ H u false ∧ Bad mg H (.str "ratio") u E))
theorem ok_times (T : Txt K mg) : FnOk P w K mg base (L2.CX P w) 6 (fA mg "times") (fDat K (fA mg "times")) ["one", "other"] (sp_times mg) := by
  have G_parts := ok_parts (P := P) (w := w) (base := base) T
  have G_lowest := ok_lowest (P := P) (w := w) (base := base) T
  have Gi_BadNumber := init_BadNumber (P := P) (w := w) (base := base) T
  refine T.times.F.okX sctimes (fun vs H Q E h => ?_) (fun cdv A outer s H vs Q E hr h => ?_)
  · obtain ⟨v, u, rfl, _⟩ := h
    rfl
  · obtain ⟨v, u, rfl, h⟩ := h
    refine ⟨_, (pss_cons (ps_asg (pe_call G_parts (hr.mono (by decide)) (by rfl) T._parts.g T._parts.F.kp T._parts.b .nil (passes_call (takes_of rfl rfl rfl rfl) (fun _ _ _ _ h => h)) (pa_cons (pv 0) (pa_cons pe_str pa_nil))) (pg_tup rfl (pgs_cons (pg_name (i := 2) sctimes.nd rfl (Or.inl rfl)) (pgs_cons (pg_name (i := 3) sctimes.nd rfl (Or.inl rfl)) pgs_nil))))
  (pss_cons (ps_asg (pe_call G_parts (hr.mono (by decide)) (by rfl) T._parts.g T._parts.F.kp T._parts.b .nil (passes_call (takes_of rfl rfl rfl rfl) (fun _ _ _ _ h => h)) (pa_cons (pv 1) (pa_cons pe_str pa_nil))) (pg_tup rfl (pgs_cons (pg_name (i := 4) sctimes.nd rfl (Or.inl rfl)) (pgs_cons (pg_name (i := 5) sctimes.nd rfl (Or.inl rfl)) pgs_nil))))
  (pss_one (ps_ret (pe_c T._lowest G_lowest (hr.mono (by decide)) (pa_cons (pe_op op_mulW (pv 2) (pv 4)) (pa_cons (pe_op op_mulW (pv 3) (pv 5)) pa_nil))))))), ?_⟩
    rcases h with ⟨i, j, k, l, r, t, ⟨fi, fj⟩, ⟨fk, fl⟩, q⟩ | ⟨r, b⟩ | ⟨i, j, r, t, b⟩
    · refine q_parts rfl (va_cons (val_var rfl) (va_cons val_c va_nil)) r fun H1 s1 => ?_
      refine q_parts rfl (va_cons (val_var rfl) (va_cons val_c va_nil)) (t.same s1) fun H2 s2 => ?_
      exact r_ret (te := tCall _ _ _ _) (c_call (va_cons (v_mul (val_var rfl) (val_var rfl) (fit_mul fi fk)) (va_cons (v_mul (val_var rfl) (val_var rfl) (fit_mul fj fl)) va_nil)) ⟨_, _, rfl, Int.mul_pos r.pos t.pos, fit_lt fj fl, fun p H' s e => q p H' ((s1.trans s2).trans s) e⟩)
    · exact q_partsX (va_cons (val_var rfl) (va_cons val_c va_nil)) r b
    · refine q_parts rfl (va_cons (val_var rfl) (va_cons val_c va_nil)) r fun H1 s1 => ?_
      exact q_partsX (va_cons (val_var rfl) (va_cons val_c va_nil)) (t.same s1) (b.from s1)

def sp_told (mg : Str → Option Value) : Sp := fun vs H Q E => ∃ (v wh : V), vs = [v, wh] ∧ ((∃ i j, Rt H v i j ∧ Fit i j ∧ ∀ (p : Addr) (H' : Hp), Same H H' → H' p = some (.tup [.int ((i) / gI (i) (j)), .int ((j) / gI (i) (j))]) → Q (.ref p) H') ∨ (RatQ H v false ∧ Bad mg H wh v E))
theorem ok_told (T : Txt K mg) : FnOk P w K mg base (L2.CX P w) 6 (fA mg "told") (fDat K (fA mg "told")) ["value", "what"] (sp_told mg) := by
  have G_parts := ok_parts (P := P) (w := w) (base := base) T
  have G_lowest := ok_lowest (P := P) (w := w) (base := base) T
  refine T.told.F.okX sctold (fun vs H Q E h => ?_) (fun cdv A outer s H vs Q E hr h => ?_)
  · obtain ⟨v, u, rfl, _⟩ := h
    rfl
  · obtain ⟨v, u, rfl, h⟩ := h
    refine ⟨_, (pss_cons (ps_asg (pe_call G_parts (hr.mono (by decide)) (by rfl) T._parts.g T._parts.F.kp T._parts.b .nil (passes_call (takes_of rfl rfl rfl rfl) (fun _ _ _ _ h => h)) (pa_cons (pv 0) (pa_cons (pv 1) pa_nil))) (pg_tup rfl (pgs_cons (pg_name (i := 2) sctold.nd rfl (Or.inl rfl)) (pgs_cons (pg_name (i := 3) sctold.nd rfl (Or.inl rfl)) pgs_nil))))
  (pss_one (ps_ret (pe_c T._lowest G_lowest (hr.mono (by decide)) (pa_cons (pv 2) (pa_cons (pv 3) pa_nil)))))), ?_⟩
    rcases h with ⟨i, j, r, ⟨fi, fj⟩, q⟩ | ⟨r, b⟩
    · refine q_parts rfl (va_cons (val_var rfl) (va_cons (val_var rfl) va_nil)) r fun H1 s1 => ?_
      exact r_ret (te := tCall _ _ _ _) (c_call (va_cons (val_var rfl) (va_cons (val_var rfl) va_nil)) ⟨_, _, rfl, r.pos, Nat.lt_of_lt_of_le fj (Nat.pow_le_pow_right (by decide) (by decide)), fun p H' s e => q p H' (s1.trans s) e⟩)
    · exact q_partsX (va_cons (val_var rfl) (va_cons (val_var rfl) va_nil)) r b
theorem op_l {r : R2} {ta tb : TE} {σ : L2.St} {H : Hp} {Q : VK} {x : V} (h : Val ta σ H x) (k : tb σ H fun y H1 => r x y H1 Q) : tOp r ta tb σ H Q := h _ k
theorem ok_pen {f : Addr} {fd : FuncData} (F : Fun K "_law_pen" "_law_pen" s_law_pen f fd) (T : Txt K mg) : FnOk P w K mg base CX0 1 f fd ["_law_script"] (spPen K) := by
  refine F.ok sc_law_pen (fun vs H Q E h => ?_) (fun cdv A outer s H vs Q E hr h => ?_)
  · obtain ⟨a, ns, rfl, _⟩ := h
    rfl
  · obtain ⟨a, ns, rfl, hS, hl, k⟩ := h
    refine ⟨_, pss_cons (ps_set (i := 1) sc_law_pen.nd rfl (Or.inl rfl) pe_int)
      (pss_cons (ps_for PassesOwn.never rfl (pi_list (pv 0)) (pg_name (i := 2) sc_law_pen.nd rfl (Or.inl rfl))
        (pss_one (ps_set (i := 1) sc_law_pen.nd rfl (Or.inl rfl) (pe_op op_mod (pe_callTy call_int1 (by rfl) T.int (by decide +kernel) (pa_cons (pe_op op_add (pe_op op_mul (pv 1) pe_int) (pv 2)) pa_nil)) pe_int))))
      (pss_one (ps_ret (pe_disp (pps_cons pe_str (pe_callTy call_list_of (by rfl) T.list (by decide +kernel) (pa_cons (pv 0) pa_nil)) (pps_cons pe_str pe_int (pps_cons pe_str pe_int (pps_cons pe_str pe_int (pps_cons pe_str (pv 1) pps_nil))))) (by rfl) (by rfl) (fun z => by cases z) (by decide))))), ?_⟩
    refine ⟨_, rfl, a, rfl, ⟨_, hS⟩, for_list (K := K) (a := a) (xs := ns.map V.int) (fun i σ H' => ∃ (v : Int) (c : Option V), σ = [some (.ref a), some (.int v), c] ∧ H' = H ∧ 0 ≤ v ∧ v < 1000000007)
      ⟨0, none, rfl, rfl, by decide, by decide⟩ (fun i σ H' _ ⟨_, _, _, e, _⟩ => e ▸ hS) ?_ ?_⟩
    · rintro i y σ H' hi ⟨v, c, rfl, rfl, h0, h1⟩
      obtain ⟨z, rfl⟩ : ∃ z, y = V.int z := by
        rw [List.getElem?_map] at hi
        cases e : ns[i]? with
        | none => rw [e] at hi; cases hi
        | some z => rw [e] at hi; exact ⟨z, (Option.some.inj hi).symm⟩
      refine ⟨_, rfl, _, _, rfl, rfl, .inl ⟨by omega, by omega⟩, _, rfl, _, _, rfl, rfl, .inl ⟨_, rfl, ?_⟩⟩
      refine ⟨_, _, rfl, rfl, (by show (0 : Int) < 1000000007; decide), ?_⟩
      exact ⟨_, _, rfl, rfl, Int.emod_nonneg _ (by decide), Int.emod_lt_of_pos _ (by decide)⟩
    · rintro σ H' ⟨v, c, rfl, rfl, h0, h1⟩
      intro p hp
      refine ⟨_, rfl, a, _, rfl, .inl (Same.seq (Same.new hp) hS), fun l hl' => ?_⟩
      refine ⟨_, rfl, ?_⟩
      have npl : p ≠ l := ne_of_none upd_same hl'
      refine ⟨by rw [upd_ne npl, upd_same], penK l 0 0 0 v, rfl, (by show 5 ≤ 15; decide), ?_⟩
      rw [merge_pen]
      have hl0 : H' l = none := (Same.new hp).free hl'
      refine k p l _ (fun b o e => ?_) ⟨0, 0, 0, v, ns, upd_same, ?_, by decide, by omega, by decide, by decide, by decide, h0, by omega⟩
      · rw [upd_ne (ne_of_none e hp), upd_ne (ne_of_none e hl0), upd_ne (ne_of_none e hp)]
        exact e
      · rw [upd_ne npl.symm, upd_same]
theorem ok_draw {f : Addr} {fd : FuncData} (F : Fun K "_law_draw" "_law_draw" s_law_draw f fd) (T : Txt K mg) : FnOk P w K mg base CX0 1 f fd ["_law_pen_here", "_law_many"] spDraw := by
  refine F.ok sc_law_draw (fun vs H Q E h => ?_) (fun cdv A outer s H vs Q E hr h => ?_)
  · obtain ⟨p, c, many, m, rfl, _⟩ := h
    rfl
  · obtain ⟨p, c, many, m, rfl, hP, hm, h0, h1, k⟩ := h
    have hu := hu_of hr
    refine ⟨_, pss_cons (ps_dput hu (pv 0) pe_str (pe_op op_add (pe_dget hu (pv 0) pe_str (fun _ _ => rfl)) pe_int) rfl)
      (C8.pss_cut (ps_if (PW.pt (pw_and (pt_cmpR op_eq (pe_dget hu (pv 0) pe_str (fun _ _ => rfl)) pe_int (nomark _))
          (pw_and1 (pt_cmpR op_lt (pe_dget hu (pv 0) pe_str (fun _ _ => rfl)) (pe_callB call_len_seq (by rfl) T.len PySem.boot_len (pa_cons (pe_dget hu (pv 0) pe_str (fun _ _ => rfl)) pa_nil)) (nomark _)))))
        (pss_cons (ps_set (i := 2) sc_law_draw.nd rfl (Or.inl rfl) (pe_ix ix_list (pe_dget hu (pv 0) pe_str (fun _ _ => rfl)) (pe_dget hu (pv 0) pe_str (fun _ _ => rfl)) (fun _ _ => rfl)))
        (pss_cons (ps_dput hu (pv 0) pe_str (pe_op op_add (pe_dget hu (pv 0) pe_str (fun _ _ => rfl)) pe_int) rfl)
        (pss_one (ps_if (pt_cmpR op_ge (pv 2) (pe_op op_pow pe_int pe_int) (nomark _))
          (pss_one (ps_dput hu (pv 0) pe_str (pe_op op_sub (pv 2) (pe_op op_pow pe_int pe_int)) rfl))
          (pss_one (ps_dput hu (pv 0) pe_str (pe_op op_mod (pe_callTy call_int1 (by rfl) T.int (by decide +kernel) (pa_cons (pe_op op_add (pe_op op_mul (pe_dget hu (pv 0) pe_str (fun _ _ => rfl)) pe_int) (pv 2)) pa_nil)) pe_int) rfl))))))
        pss_nil)
      (pss_cons (ps_if (pt_cmpR op_gt (pe_dget hu (pv 0) pe_str (fun _ _ => rfl)) pe_int (nomark _))
        (pss_cons (ps_set (i := 3) sc_law_draw.nd rfl (Or.inl rfl) (pe_op op_modN (pe_callTy call_int1 (by rfl) T.int (by decide +kernel) (pa_cons (pe_dget hu (pv 0) pe_str (fun _ _ => rfl)) pa_nil)) (pv 1)))
        (pss_cons (ps_dput hu (pv 0) pe_str (pe_op op_fdivN (pe_dget hu (pv 0) pe_str (fun _ _ => rfl)) (pv 1)) rfl)
        (pss_one (ps_ret (pv 3)))))
        pss_nil)
      (pss_cons (ps_set (i := 4) sc_law_draw.nd rfl (Or.inl rfl) (pe_op op_add (pe_op op_add (pe_dget hu (pv 0) pe_str (fun _ _ => rfl)) (pe_op op_mul (pe_dget hu (pv 0) pe_str (fun _ _ => rfl)) pe_int)) pe_int))
      (pss_one (ps_ret (pe_op op_modN (pe_op op_fdiv (pe_callTy call_int1 (by rfl) T.int (by decide +kernel) (pa_cons (pe_op op_mod (pe_op op_pow (pv 4) pe_int) pe_int) pa_nil)) pe_int) (pv 1))))))), ?_⟩
    obtain ⟨a, d, n, fo, ns, hp, hc, b1, b2, b3, b4, b5, b6, b7⟩ := hP
    have npc : c ≠ p := ne_of hc hp (by intro z; cases z)
    have get : ∀ {z1 z2 z3 : Option V} {H1 : Hp} {c : Addr} {a d n f : Int} {k : Key} {v : V}, H1 p = some (.dK (penK c a d n f)) → valV (penK c a d n f) k = some v →
      Val (tDGet (tVar 0) (tC (kV k))) [some (.ref p), some (.int many), z1, z2, z3] H1 v := fun h1 h2 => v_get (val_var rfl) h1 h2
    have pn : ∀ {H1 : Hp} {o : HO}, H1 c = some (.lst (ns.map V.int)) → upd H1 p o c = some (.lst (ns.map V.int)) := fun e => by rw [upd_ne npc]; exact e
    have bu : ∀ {H1 : Hp} {o : HO}, But p H H1 → But p H (upd H1 p o) := fun e b o h ne => by rw [upd_ne ne]; exact e b o h ne
    -- count
    refine s_put (k := kCo) (val_var rfl) (v_I0 (get (k := kCo) hp pen_count) val_c) hp (by show 5 ≤ 100; decide) ?_
    rw [put_count]
    have hp1 : upd H p (HO.dK (penK c a d (n + 1) fo)) p = some (.dK (penK c a d (n + 1) fo)) := upd_same
    have hc1 : upd H p (HO.dK (penK c a d (n + 1) fo)) c = some (.lst (ns.map V.int)) := pn hc
    have bt : But p H (upd H p (HO.dK (penK c a d (n + 1) fo))) := bu But.refl
    generalize upd H p (HO.dK (penK c a d (n + 1) fo)) = H1 at hp1 hc1 bt
    refine ⟨fun σ' H' => ∃ (a' d' f' : Int) (z : Option V), σ' = [some (.ref p), some (.int many), z, none, none] ∧ But p H H' ∧ H' p = some (.dK (penK c a' d' (n + 1) f')) ∧ H' c = some (.lst (ns.map V.int)) ∧
      0 ≤ a' ∧ a' ≤ ns.length ∧ 0 ≤ d' ∧ 0 ≤ f' ∧ f' < 2147483587, ?_, ?_⟩
    · -- a cell is taken
      refine st_if (b := decide (d = 0) && decide (a < ns.length)) (ans_and2 ((ans_eq (get (k := kDi) hp1 pen_digits) val_c rfl rfl).to (by simp)) ((a_I (get (k := kAt) hp1 pen_at) (v_len (get (k := kCe) hp1 pen_cells) (.inl (SqL.of hc1)))).to (by simp))) (fun e => ?_) (fun e => ?_)
      · have e1 : d = 0 ∧ a < ns.length := by simpa using e
        obtain ⟨i, rfl⟩ : ∃ i : Nat, a = i := ⟨a.toNat, by omega⟩
        have hi : i < ns.length := by omega
        refine st_set (v := .int ns[i]) (v_ixL (get (k := kCe) hp1 pen_cells) (get (k := kAt) hp1 pen_at) (SqL.of hc1) (by simp [hi])) ?_
        refine s_put (k := kAt) (val_var rfl) (v_I0 (get (k := kAt) hp1 pen_at) val_c) hp1 (by show 5 ≤ 100; decide) ?_
        rw [put_at]
        refine st_if (b := decide (ns[i] ≥ 10 ^ 18)) ((a_I (val_var rfl) (v_pow val_c val_c ⟨by decide, by decide, by decide⟩)).to ?_) (fun e2 => ?_) (fun e2 => ?_)
        · simp
        · refine s_put (k := kDi) (val_var rfl) (v_I0 (val_var rfl) (v_pow val_c val_c ⟨by decide, by decide, by decide⟩)) upd_same (by show 5 ≤ 100; decide) ?_
          rw [put_digits]
          exact ⟨_, _, _, _, rfl, bu (bu bt), upd_same, pn (pn hc1), by omega, by omega, by simp at e2; simp; omega, b6, b7⟩
        · refine s_put (k := kFo) (val_var rfl) (v_I (v_int1 (v_I0 (v_I (get (k := kFo) upd_same pen_fold) val_c (.inl ⟨by omega, by omega⟩)) (val_var rfl))) val_c (by decide)) upd_same (by show 5 ≤ 100; decide) ?_
          rw [put_fold]
          exact ⟨_, _, _, _, rfl, bu (bu bt), upd_same, pn (pn hc1), by omega, by omega, b3, Int.emod_nonneg _ (by decide), Int.emod_lt_of_pos _ (by decide)⟩
      · exact ⟨a, d, fo, none, rfl, bt, hp1, hc1, b1, b2, b3, b6, b7⟩
    · rintro σ' H' ⟨a', d', f', z, rfl, bt', hp', hc', g1, g2, g3, g4, g5⟩
      refine st_if (b := decide (0 < d')) ((a_I (get (k := kDi) hp' pen_digits) val_c).to (by simp)) (fun e => ?_) (fun e => ?_)
      · have e1 : 0 < d' := by simpa using e
        refine st_set (v_I (v_int1 (get (k := kDi) hp' pen_digits)) (val_var rfl) (by omega)) ?_
        refine s_put (k := kDi) (val_var rfl) (v_I (get (k := kDi) hp' pen_digits) (val_var rfl) ⟨by omega, by omega⟩) hp' (by show 5 ≤ 100; decide) ?_
        rw [put_digits]
        refine st_ret (val_var rfl) ?_
        refine k _ _ (Int.fmod_nonneg_of_pos _ h0) (Int.fmod_lt_of_pos _ h0) (bu bt') ⟨_, _, _, _, _, upd_same, pn hc', g1, g2, Int.fdiv_nonneg (by omega) (by omega), by omega, by omega, g4, g5⟩
      · refine st_set (v_add (v_add (get (k := kFo) hp' pen_fold) (v_mul (get (k := kCo) hp' pen_count) val_c (.inl ⟨by omega, by unfold most at hm; omega⟩))) val_c) ?_
        refine st_ret (v_fmod (v_div (v_int1 (v_mod (v_pow (val_var rfl) val_c ⟨by decide, by decide, by unfold most at hm; omega⟩) val_c (by decide))) val_c ⟨by decide, by decide⟩) (val_var rfl) (by omega)) ?_
        exact k _ _ (Int.fmod_nonneg_of_pos _ h0) (Int.fmod_lt_of_pos _ h0) bt' ⟨_, _, _, _, _, hp', hc', g1, g2, g3, by omega, by omega, g4, g5⟩
theorem But.seq {K : PySem.W.Frag} {H H' : Hp} {p q : Addr} {kvs : List (Key × V)} {xs : List V} (b : But p H H') (hp : H p = some (.dK kvs)) (h : SqL K H q xs) : SqL K H' q xs := by
  rcases h with (h | ⟨o, h⟩) | h
  · exact .inl (.inl (b _ _ h (ne_of h hp (by intro z; cases z))))
  · exact .inl (.inr ⟨o, b _ _ h (ne_of h hp (by intro z; cases z))⟩)
  · exact .inr h
theorem PenAt.dk {H : Hp} {p c : Addr} {m : Nat} (h : PenAt H p c m) : ∃ kvs, H p = some (.dK kvs) := by
  obtain ⟨a, d, n, f, ns, h1, _⟩ := h
  exact ⟨_, h1⟩
/-- one item of a list is drawn -/
def spPick (K : PySem.W.Frag) : Sp := fun vs H Q _ => ∃ (p c q : Addr) (xs : List V) (m : Nat), vs = [.ref p, .ref q] ∧ PenAt H p c m ∧ m < most ∧ SqL K H q xs ∧ 0 < xs.length ∧ xs.length < 1000000000 ∧
  ∀ (v : V) (H' : Hp), v ∈ xs → But p H H' → PenAt H' p c (m + 1) → Q v H'
theorem ok_pick (T : Txt K mg) : FnOk P w K mg base CX0 3 (fA mg "_law_pick") (fDat K (fA mg "_law_pick")) ["_law_pen_here", "_law_some"] (spPick K) := by
  have G_law_draw := ok_draw (P := P) (w := w) (base := base) T._law_draw.F T
  refine T._law_pick.F.ok sc_law_pick (fun vs H Q E h => ?_) (fun cdv A outer s H vs Q E hr h => ?_)
  · obtain ⟨p, c, q, xs, m, rfl, _⟩ := h
    rfl
  · obtain ⟨p, c, q, xs, m, rfl, hP, hm, hS, h0, h1, k⟩ := h
    refine ⟨_, (pss_one (ps_ret (pe_ix ix_list (pv 1) (pe_c T._law_draw G_law_draw (hr.mono (by decide)) (pa_cons (pv 0) (pa_cons (pe_callB call_len_seq (by rfl) T.len PySem.boot_len (pa_cons (pv 1) pa_nil)) pa_nil))) (fun _ _ => rfl)))), ?_⟩
    refine ⟨_, rfl, c_call (va_cons (val_var rfl) (va_cons (v_len (val_var rfl) (.inl hS)) va_nil)) ⟨p, c, _, m, rfl, hP, hm, by omega, by omega, fun r H' r0 r1 b P' => ?_⟩⟩
    obtain ⟨kvs, hd⟩ := hP.dk
    obtain ⟨i, rfl⟩ : ∃ i : Nat, r = i := ⟨r.toNat, by omega⟩
    have hi : i < xs.length := by omega
    exact ⟨q, xs, i, xs[i], rfl, rfl, b.seq hd hS, atI_nat (List.getElem?_eq_getElem hi), k _ _ (List.getElem_mem hi) b P'⟩
/-! ### which class -/

/-! ### the law's own ratios -/
theorem half {a b : Nat} (h : b < a) (h0 : 0 < b) : b * (a % b) * 2 ≤ a * b := by
  have h1 := Nat.mod_lt a h0
  have h2 := Nat.mod_add_div a b
  have h3 : 1 ≤ a / b := Nat.div_pos (Nat.le_of_lt h) h0
  have h4 : b ≤ b * (a / b) := Nat.le_mul_of_pos_right _ h3
  have h5 : a % b * 2 ≤ a := by omega
  rw [Nat.mul_assoc, Nat.mul_comm a b]
  exact Nat.mul_le_mul_left _ h5
theorem v_abs {te : TE} {σ : L2.St} {H : Hp} {x : Int} (h : Val te σ H (.int x)) : Val (tCB (fun xs H Q => ∃ i, xs = [.int i] ∧ Q (.int (if i < 0 then -i else i)) H) (tCons te tNil)) σ H (.int (x.natAbs : Int)) := fun Q q => h _ ⟨x, rfl, by
  have e : (if x < 0 then -x else x) = (x.natAbs : Int) := by split <;> omega
  rw [e]
  exact q⟩
def spLGcd : Sp := fun vs H Q _ => ∃ x y : Int, vs = [.int x, .int y] ∧ x.natAbs < 2 ^ wd ∧ y.natAbs < 2 ^ wd ∧ Q (.int (gI x y)) H
theorem ok_law_gcd (T : Txt K mg) : FnOk P w K mg base CX0 1 (fA mg "_law_gcd") (fDat K (fA mg "_law_gcd")) ["_law_one", "_law_two"] spLGcd := by
  refine T._law_gcd.F.ok sc_law_gcd (fun vs H Q E h => ?_) (fun cdv A outer s H vs Q E hr h => ?_)
  · obtain ⟨x, y, rfl, _⟩ := h
    rfl
  · obtain ⟨x, y, rfl, hx, hy, k⟩ := h
    refine ⟨_, (pss_cons (ps_par (i := 0) (j := 1) (by rfl) sc_law_gcd.nd rfl rfl (by decide) rfl rfl (pa_cons (pe_callB call_abs (by rfl) T.abs (by decide +kernel) (pa_cons (pv 0) pa_nil)) (pa_cons (pe_callB call_abs (by rfl) T.abs (by decide +kernel) (pa_cons (pv 1) pa_nil)) pa_nil)) (by rfl))
  (pss_cons (ps_for PassesOwn.never rfl (pi_range1 (by rfl) T.range (pa_cons pe_int pa_nil)) (pg_name (i := 2) sc_law_gcd.nd rfl (Or.inl rfl))
  (pss_cons (ps_if (pt_cmpR op_eq (pv 1) pe_int (nomark _)) (pss_one ps_break) pss_nil)
  (pss_one (ps_par (i := 0) (j := 1) (by rfl) sc_law_gcd.nd rfl rfl (by decide) rfl rfl (pa_cons (pv 1) (pa_cons (pe_op op_modN (pe_callTy call_int1 (by rfl) T.int (by decide +kernel) (pa_cons (pv 0) pa_nil)) (pv 1)) pa_nil)) (by rfl)))))
  (pss_one (ps_ret (pv 0))))), ?_⟩
    have hM : x.natAbs * y.natAbs < 2 ^ (wd + wd) := by
      rw [Nat.pow_add]
      exact Nat.mul_lt_mul'' hx hy
    refine (show tPar 0 1 _ _ _ _ from ?_)
    refine (va_cons (v_abs (val_var rfl)) (va_cons (v_abs (val_var rfl)) va_nil)) _ ⟨_, _, rfl, ?_⟩
    refine q_forR1 (n := 50000) (va_cons val_c va_nil) (by decide) (fun i σ H' => ∃ (a b : Nat) (z : Option V), σ = [some (.int a), some (.int b), z] ∧ H' = H ∧ Nat.gcd a b = Nat.gcd x.natAbs y.natAbs ∧ (i = 0 ∨ b < a) ∧ a * b * 2 ^ (i - 1) ≤ x.natAbs * y.natAbs)
      ⟨x.natAbs, y.natAbs, none, rfl, rfl, rfl, .inl rfl, by simp⟩ ?_ ?_
    · rintro i σ H' hi ⟨a, b, z, rfl, rfl, hg, hb, hm⟩
      refine (show tSeq (tIfS _ _ _) _ _ _ _ from ?_)
      by_cases b0 : b = 0
      · subst b0
        refine q_when (b := true) (ans_eq (x := .int ((0 : Nat) : Int)) (y := .int 0) (val_var rfl) val_c rfl rfl) (fun _ => ?_) (fun z => nomatch z)
        unfold tBreak
        refine st_ret (val_var rfl) ?_
        have e : gI x y = (a : Int) := by
          unfold gI
          rw [← hg, Nat.gcd_zero_right]
        rw [← e]
        exact k
      · refine q_unless (ans_eq (x := .int (b : Int)) (y := .int 0) (val_var rfl) val_c rfl (decide_eq_false (by simp [b0]))) ?_
        have e : ((a : Int).fmod (b : Int)) = ((a % b : Nat) : Int) := by
          rw [Int.fmod_eq_emod_of_nonneg _ (by omega)]
          exact (Int.natCast_emod a b).symm
        refine (show tPar 0 1 _ _ _ _ from ?_)
        refine (va_cons (val_var rfl) (va_cons (v_fmod (i := (a : Int)) (j := (b : Int)) (v_int1 (val_var rfl)) (val_var rfl) (by omega)) va_nil)) _ ⟨_, _, rfl, ?_⟩
        rw [e]
        refine ⟨b, a % b, _, rfl, rfl, ?_, .inr (Nat.mod_lt _ (by omega)), ?_⟩
        · rw [← hg, Nat.gcd_comm b, ← Nat.gcd_rec, Nat.gcd_comm]
        · rcases hb with rfl | hb
          · refine Nat.le_trans ?_ hm
            simp only [Nat.zero_add, Nat.sub_self, Nat.zero_sub, Nat.pow_zero, Nat.mul_one]
            rw [Nat.mul_comm a b]
            exact Nat.mul_le_mul_left _ (Nat.mod_le _ _)
          · cases i with
            | zero => 
              refine Nat.le_trans ?_ hm
              simp only [Nat.zero_add, Nat.sub_self, Nat.zero_sub, Nat.pow_zero, Nat.mul_one]
              rw [Nat.mul_comm a b]
              exact Nat.mul_le_mul_left _ (Nat.mod_le _ _)
            | succ i =>
              refine Nat.le_trans ?_ hm
              have h := Nat.mul_le_mul_right (2 ^ i) (half hb (by omega))
              simp only [Nat.add_sub_cancel]
              rw [Nat.pow_succ, Nat.mul_comm (2 ^ i) 2, ← Nat.mul_assoc]
              exact h
    · rintro σ H' ⟨a, b, z, rfl, rfl, hg, hb, hm⟩
      have b0 : b = 0 := by
        rcases Nat.eq_zero_or_pos b with h | h
        · exact h
        · exfalso
          have ha : b < a := hb.resolve_left (by decide)
          have h1 : 1 ≤ a * b := Nat.mul_pos (by omega) h
          have h2 : 2 ^ (50000 - 1) ≤ a * b * 2 ^ (50000 - 1) := Nat.le_mul_of_pos_left _ h1
          have h3 : 2 ^ (wd + wd) ≤ 2 ^ (50000 - 1) := Nat.pow_le_pow_right (by decide) (by decide)
          exact Nat.lt_irrefl _ (Nat.lt_of_le_of_lt (Nat.le_trans h3 (Nat.le_trans h2 hm)) hM)
      subst b0
      refine st_ret (val_var rfl) ?_
      have e : gI x y = (a : Int) := by
        unfold gI
        rw [← hg, Nat.gcd_zero_right]
      rw [← e]
      exact k
def spLQ : Sp := fun vs H Q _ => ∃ x y : Int, vs = [.int x, .int y] ∧ x.natAbs < 2 ^ wd ∧ y.natAbs < 2 ^ wd ∧ ((0 < y ∧ ∀ (p : Addr) (H' : Hp), Same H H' → H' p = some (.tup [.int (x / gI x y), .int (y / gI x y)]) → Q (.ref p) H') ∨
  (y < 0 ∧ ∀ (p : Addr) (H' : Hp), Same H H' → H' p = some (.tup [.int ((-x) / gI x y), .int ((-y) / gI x y)]) → Q (.ref p) H'))
theorem ok_law_q (T : Txt K mg) : FnOk P w K mg base CX0 2 (fA mg "_law_q") (fDat K (fA mg "_law_q")) ["_law_top", "_law_bottom"] spLQ := by
  have G_law_gcd := ok_law_gcd (P := P) (w := w) (base := base) T
  refine T._law_q.F.ok sc_law_q (fun vs H Q E h => ?_) (fun cdv A outer s H vs Q E hr h => ?_)
  · obtain ⟨x, y, rfl, _⟩ := h
    rfl
  · obtain ⟨x, y, rfl, hx, hy, k⟩ := h
    refine ⟨_, (pss_cons (ps_set (i := 2) sc_law_q.nd rfl (Or.inl rfl) (pe_c T._law_gcd G_law_gcd (hr.mono (by decide)) (pa_cons (pv 0) (pa_cons (pv 1) pa_nil))))
  (pss_cons (ps_set (i := 2) sc_law_q.nd rfl (Or.inl rfl) (pe_ifExp (pt_cmpR op_lt (pv 1) pe_int (nomark _)) (pe_un un_neg (pv 2)) (pv 2)))
  (pss_one (ps_ret (pe_tup (pa_cons (pe_op op_fdivS (pv 0) (pv 2)) (pa_cons (pe_op op_fdivS (pv 1) (pv 2)) pa_nil))))))), ?_⟩
    refine q_asg (c_call (va_cons (val_var rfl) (va_cons (val_var rfl) va_nil)) ⟨x, y, rfl, hx, hy, ?_⟩)
    have big : ∀ {d : Int}, d = gI x y ∨ d = -gI x y → 0 < gI x y → y ≠ 0 → d ≠ 0 ∧ d.natAbs.log2 < 9000 := fun {d} h g y0 => by
      have l : gI x y ≤ y.natAbs := by
        have : Nat.gcd x.natAbs y.natAbs ≤ y.natAbs := Nat.le_of_dvd (by omega) (Nat.gcd_dvd_right _ _)
        unfold gI
        omega
      have n : d.natAbs ≤ y.natAbs := by omega
      exact ⟨by omega, Nat.lt_of_lt_of_le (PySem.Flt.log2_lt_of (k := wd) (by decide) (Nat.lt_of_le_of_lt n hy)) (by decide)⟩
    rcases k with ⟨y0, k⟩ | ⟨y0, k⟩
    · have g := gI_pos (i := x) y0
      refine q_asg ((a_I (i := y) (j := 0) (val_var rfl) val_c) _ ?_)
      rw [decide_eq_false (by omega : ¬ y < 0)]
      refine iteF ?_
      refine (val_var rfl) _ ?_
      refine r_ret (te := tTup _) ((va_cons (v_fdiv (i := x) (j := gI x y) (val_var rfl) (val_var rfl) (big (.inl rfl) g (by omega))) (va_cons (v_fdiv (i := y) (j := gI x y) (val_var rfl) (val_var rfl) (big (.inl rfl) g (by omega))) va_nil)) _ ⟨by show 2 ≤ sizeLine; decide, fun p hp => k p _ (Same.new' hp) ?_⟩)
      rw [Int.fdiv_eq_ediv_of_nonneg _ (by omega), Int.fdiv_eq_ediv_of_nonneg _ (by omega)]
      exact upd_same
    · have g : 0 < gI x y := by
        have : 0 < Nat.gcd x.natAbs y.natAbs := Nat.gcd_pos_of_pos_right _ (by omega)
        unfold gI
        omega
      have ng : ∀ x d : Int, 0 < d → x.fdiv (-d) = (-x) / d := fun x d h => by
        have e := Int.neg_fdiv_neg (-x) d
        rw [Int.neg_neg] at e
        rw [e, Int.fdiv_eq_ediv_of_nonneg _ (by omega)]
      refine q_asg ((a_I (i := y) (j := 0) (val_var rfl) val_c) _ ?_)
      rw [decide_eq_true (by omega : y < 0)]
      refine iteT ?_
      refine (v_neg (n := gI x y) (val_var rfl)) _ ?_
      refine r_ret (te := tTup _) ((va_cons (v_fdiv (i := x) (j := -gI x y) (val_var rfl) (val_var rfl) (big (.inr rfl) g (by omega))) (va_cons (v_fdiv (i := y) (j := -gI x y) (val_var rfl) (val_var rfl) (big (.inr rfl) g (by omega))) va_nil)) _ ⟨by show 2 ≤ sizeLine; decide, fun p hp => k p _ (Same.new' hp) ?_⟩)
      rw [ng _ _ g, ng _ _ g]
      exact upd_same

def sp_law_plus : Sp := fun vs H Q _ => ∃ (p q : Addr) (i j k l : Int), vs = [.ref p, .ref q] ∧ H p = some (.tup [.int i, .int j]) ∧ H q = some (.tup [.int k, .int l]) ∧ Fit i j ∧ Fit k l ∧ 0 < j ∧ 0 < l ∧ ∀ (p : Addr) (H' : Hp), Same H H' → H' p = some (.tup [.int ((i * l + k * j) / gI (i * l + k * j) (j * l)), .int ((j * l) / gI (i * l + k * j) (j * l))]) → Q (.ref p) H'
theorem ok_law_plus (T : Txt K mg) : FnOk P w K mg base CX0 3 (fA mg "_law_plus") (fDat K (fA mg "_law_plus")) ["_law_one", "_law_two"] sp_law_plus := by
  have G_law_q := ok_law_q (P := P) (w := w) (base := base) T
  refine T._law_plus.F.ok sc_law_plus (fun vs H Q E h => ?_) (fun cdv A outer s H vs Q E hr h => ?_)
  · obtain ⟨p, q, i, j, k, l, rfl, _⟩ := h
    rfl
  · obtain ⟨p, q, i, j, k, l, rfl, hp, hq, ⟨fi, fj⟩, ⟨fk, fl⟩, j0, l0, z⟩ := h
    refine ⟨_, (pss_one (ps_ret (pe_c T._law_q G_law_q (hr.mono (by decide)) (pa_cons (pe_op op_add (pe_op op_mulW (pe_ix ix_tup (pv 0) pe_int (fun _ _ => rfl)) (pe_ix ix_tup (pv 1) pe_int (fun _ _ => rfl))) (pe_op op_mulW (pe_ix ix_tup (pv 1) pe_int (fun _ _ => rfl)) (pe_ix ix_tup (pv 0) pe_int (fun _ _ => rfl)))) (pa_cons (pe_op op_mulW (pe_ix ix_tup (pv 0) pe_int (fun _ _ => rfl)) (pe_ix ix_tup (pv 1) pe_int (fun _ _ => rfl))) pa_nil))))), ?_⟩
    exact r_ret (te := tCall _ _ _ _) (c_call (va_cons (v_add (v_mul (v_ixT (n := 0) (val_var rfl) val_c (SqT.of hp) rfl) (v_ixT (n := 1) (val_var rfl) val_c (SqT.of hq) rfl) (fit_mul fi fl)) (v_mul (v_ixT (n := 0) (val_var rfl) val_c (SqT.of hq) rfl) (v_ixT (n := 1) (val_var rfl) val_c (SqT.of hp) rfl) (fit_mul fk fj))) (va_cons (v_mul (v_ixT (n := 1) (val_var rfl) val_c (SqT.of hp) rfl) (v_ixT (n := 1) (val_var rfl) val_c (SqT.of hq) rfl) (fit_mul fj fl)) va_nil)) ⟨_, _, rfl, fit_add (wide_lt fi fl) (wide_lt fk fj), fit_lt fj fl, .inl ⟨Int.mul_pos j0 l0, z⟩⟩)

def sp_law_times : Sp := fun vs H Q _ => ∃ (p q : Addr) (i j k l : Int), vs = [.ref p, .ref q] ∧ H p = some (.tup [.int i, .int j]) ∧ H q = some (.tup [.int k, .int l]) ∧ Fit i j ∧ Fit k l ∧ 0 < j ∧ 0 < l ∧ ∀ (p : Addr) (H' : Hp), Same H H' → H' p = some (.tup [.int ((i * k) / gI (i * k) (j * l)), .int ((j * l) / gI (i * k) (j * l))]) → Q (.ref p) H'
theorem ok_law_times (T : Txt K mg) : FnOk P w K mg base CX0 3 (fA mg "_law_times") (fDat K (fA mg "_law_times")) ["_law_one", "_law_two"] sp_law_times := by
  have G_law_q := ok_law_q (P := P) (w := w) (base := base) T
  refine T._law_times.F.ok sc_law_times (fun vs H Q E h => ?_) (fun cdv A outer s H vs Q E hr h => ?_)
  · obtain ⟨p, q, i, j, k, l, rfl, _⟩ := h
    rfl
  · obtain ⟨p, q, i, j, k, l, rfl, hp, hq, ⟨fi, fj⟩, ⟨fk, fl⟩, j0, l0, z⟩ := h
    refine ⟨_, (pss_one (ps_ret (pe_c T._law_q G_law_q (hr.mono (by decide)) (pa_cons (pe_op op_mulW (pe_ix ix_tup (pv 0) pe_int (fun _ _ => rfl)) (pe_ix ix_tup (pv 1) pe_int (fun _ _ => rfl))) (pa_cons (pe_op op_mulW (pe_ix ix_tup (pv 0) pe_int (fun _ _ => rfl)) (pe_ix ix_tup (pv 1) pe_int (fun _ _ => rfl))) pa_nil))))), ?_⟩
    exact r_ret (te := tCall _ _ _ _) (c_call (va_cons (v_mul (v_ixT (n := 0) (val_var rfl) val_c (SqT.of hp) rfl) (v_ixT (n := 0) (val_var rfl) val_c (SqT.of hq) rfl) (fit_mul fi fk)) (va_cons (v_mul (v_ixT (n := 1) (val_var rfl) val_c (SqT.of hp) rfl) (v_ixT (n := 1) (val_var rfl) val_c (SqT.of hq) rfl) (fit_mul fj fl)) va_nil)) ⟨_, _, rfl, fit_lt fi fk, fit_lt fj fl, .inl ⟨Int.mul_pos j0 l0, z⟩⟩)

/-! ### lowest terms, the sums behind them -/
theorem gI_dvd (x y : Int) : gI x y ∣ x ∧ gI x y ∣ y := ⟨Int.ofNat_dvd_left.mpr (Nat.gcd_dvd_left _ _), Int.ofNat_dvd_left.mpr (Nat.gcd_dvd_right _ _)⟩
theorem low_abs (x : Int) {y : Int} : (x / gI x y).natAbs ≤ x.natAbs := by
  rw [Int.natAbs_ediv_of_dvd (gI_dvd x y).1]
  exact Nat.div_le_self _ _
theorem low_pos (x : Int) {y : Int} (hy : 0 < y) : 0 < y / gI x y ∧ y / gI x y ≤ y := by
  have g := gI_pos (i := x) hy
  refine ⟨Int.ediv_pos_of_pos_of_dvd hy (Int.le_of_lt g) (gI_dvd x y).2, Int.ediv_le_self _ (Int.le_of_lt hy)⟩
theorem call_1 {sp : Sp} {L : List V} {E : XK} {te : TE} {tr : TA} {σ : L2.St} {H : Hp} {Q : VK} (h : te σ H fun v H1 => tr σ H1 fun vs H2 => sp ((v :: vs) ++ L) H2 Q E) : tCall sp L E (tCons te tr) σ H Q := h
theorem va_1 {te : TE} {σ : L2.St} {H : Hp} {Q : List V → Hp → Prop} (h : te σ H fun v H1 => Q [v] H1) : tCons te tNil σ H Q := h
/-- a ratio in lowest terms of up to eighteen figures -/
def Low (H : Hp) (t : Addr) (a b : Int) : Prop := H t = some (.tup [.int a, .int b]) ∧ 0 < b ∧ gI a b = 1 ∧ a.natAbs ≤ 10 ^ 18 ∧ b ≤ 10 ^ 18
theorem q_ifAndK {σ : L2.St} {H : Hp} {t u : TT} {t1 tz : TS} {D : Ends} {I : Hp → Prop} (rest : ∀ H1, I H1 → tz D σ H1) (h : (∀ H1, I H1 → tz D σ H1) → t σ H fun c H1 => if c = true then u σ H1 (fun b H2 => if b = true then t1 { D with nx := tz D } σ H2 else tz D σ H2) else
    (if false = true then t1 { D with nx := tz D } σ H1 else tz D σ H1)) : tSeq (tIfS (tAnd t u) t1 tNext) tz D σ H := h rest
theorem l_two {σ : L2.St} {H : Hp} {t1 t2 : TE} {Q : VK} (h : t1 σ H fun v H1 => t2 σ H1 fun w H2 => 2 ≤ sizeLine ∧ ∀ q, H2 q = none → Q (.ref q) (upd H2 q (.lst [v, w]))) : tLst (tCons t1 (tCons t2 tNil)) σ H Q := h
/-- as a caller may pass a ratio a / b -/
def spPassed : Sp := fun vs H Q _ => ∃ (p c t : Addr) (m : Nat) (a b : Int), vs = [.ref p, .ref t] ∧ PenAt H p c m ∧ m + 3 < most ∧ Low H t a b ∧ ∀ (v : V) (H' : Hp) (s : Int), 0 < s → s ≤ 3 → Rt H' v (a * s) (b * s) → (∀ x, v = .ref x → H x = none) → But p H H' → PenAt H' p c (m + 3) → Q v H'
theorem ok_passed (T : Txt K mg) : FnOk P w K mg base CX0 4 (fA mg "_law_passed") (fDat K (fA mg "_law_passed")) ["_law_pen_here", "_law_ratio_here"] spPassed := by
  have G_law_draw := ok_draw (P := P) (w := w) (base := base) T._law_draw.F T
  have G_law_pick := ok_pick (P := P) (w := w) (base := base) T
  refine T._law_passed.F.ok sc_law_passed (fun vs H Q E h => ?_) (fun cdv A outer s H vs Q E hr h => ?_)
  · obtain ⟨p, c, t, m, a, b, rfl, _⟩ := h
    rfl
  · obtain ⟨p, c, t, m, a, b, rfl, hP, hm, ⟨ht, b0, ab, al, bl⟩, k⟩ := h
    refine ⟨_, (pss_cons (ps_if (PW.pt (pw_and (pt_cmpR op_eq (pe_ix ix_tup (pv 1) pe_int (fun _ _ => rfl)) pe_int (nomark _)) (pw_and1 (pt_cmpR op_eq (pe_c T._law_draw G_law_draw (hr.mono (by decide)) (pa_cons (pv 0) (pa_cons pe_int pa_nil))) pe_int (nomark _))))) (pss_one (ps_ret (pe_ix ix_tup (pv 1) pe_int (fun _ _ => rfl)))) pss_nil)
  (pss_cons (ps_set (i := 2) sc_law_passed.nd rfl (Or.inl rfl) (pe_c T._law_pick G_law_pick (hr.mono (by decide)) (pa_cons (pv 0) (pa_cons (pe_lst (pa_cons pe_int (pa_cons pe_int (pa_cons pe_int (pa_cons pe_int pa_nil))))) pa_nil))))
  (pss_one (ps_ret (pe_c T._law_pick G_law_pick (hr.mono (by decide)) (pa_cons (pv 0) (pa_cons (pe_lst (pa_cons (pe_tup (pa_cons (pe_op op_mulW (pe_ix ix_tup (pv 1) pe_int (fun _ _ => rfl)) (pv 2)) (pa_cons (pe_op op_mulW (pe_ix ix_tup (pv 1) pe_int (fun _ _ => rfl)) (pv 2)) pa_nil))) (pa_cons (pe_lst (pa_cons (pe_op op_mulW (pe_ix ix_tup (pv 1) pe_int (fun _ _ => rfl)) (pv 2)) (pa_cons (pe_op op_mulW (pe_ix ix_tup (pv 1) pe_int (fun _ _ => rfl)) (pv 2)) pa_nil))) pa_nil))) pa_nil))))))), ?_⟩
    obtain ⟨kvs, hd⟩ := hP.dk
    have np : t ≠ p := ne_of ht hd (by intro z; cases z)
    have c1 : (2 : Nat) ^ 64 < 2 ^ 1000 := Nat.pow_lt_pow_right (by decide) (by decide)
    have fa : a.natAbs < 2 ^ 1000 := by
      have : (10 : Nat) ^ 18 < 2 ^ 64 := by decide
      omega
    have fb : b.natAbs < 2 ^ 1000 := by
      have : (10 : Nat) ^ 18 < 2 ^ 64 := by decide
      omega
    refine q_ifAndK (I := fun H1 => But p H H1 ∧ PenAt H1 p c (m + 1)) (fun H1 ⟨b1, P1⟩ => ?_) (fun rest => ?_)
    · have ht1 := b1 _ _ ht np
      refine q_asg (call_1 ((val_var rfl) _ (va_1 (l_lst (va_cons val_c (va_cons val_c (va_cons val_c (va_cons val_c va_nil)))) (by decide) fun q hq => ?_))))
      refine ⟨p, c, q, _, m + 1, rfl, P1.same (Same.new hq), by omega, SqL.of upd_same, by decide, by decide, fun v H2 hv b2 P2 => ?_⟩
      obtain ⟨s, rfl, s0, s1⟩ : ∃ s : Int, v = .int s ∧ 0 < s ∧ s ≤ 3 := by
        simp at hv
        rcases hv with e | e | e
        · exact ⟨1, e, by decide, by decide⟩
        · exact ⟨2, e, by decide, by decide⟩
        · exact ⟨3, e, by decide, by decide⟩
      have ht2 := b2 _ _ ((Same.new hq) _ _ ht1) np
      have fs : s.natAbs < 2 ^ 1000 := by omega
      refine r_ret (te := tCall _ _ _ _) (call_1 ((val_var rfl) _ (va_1 ?_)))
      have two : ∀ {σ : L2.St}, σ[1]? = some (some (.ref t)) → σ[2]? = some (some (.int s)) → ∀ {H3 : Hp}, H3 t = some (.tup [.int a, .int b]) → VA (tCons (tOp (rI CMulW fun i j => V.int (i * j)) (tOp (rIxT K) (tVar 1) (tC (V.int 0))) (tVar 2)) (tCons (tOp (rI CMulW fun i j => V.int (i * j)) (tOp (rIxT K) (tVar 1) (tC (V.int 1))) (tVar 2)) tNil)) σ H3 [.int (a * s), .int (b * s)] := fun e1 e2 H3 h =>
        va_cons (v_mul (v_ixT (n := 0) (val_var e1) val_c (SqT.of h) rfl) (val_var e2) (fit_mul fa fs)) (va_cons (v_mul (v_ixT (n := 1) (val_var e1) val_c (SqT.of h) rfl) (val_var e2) (fit_mul fb fs)) va_nil)
      refine l_two (l_tup (two rfl rfl ht2) (by show 2 ≤ 100000; decide) fun x hx => l_lst (two rfl rfl ((Same.new' hx) _ _ ht2)) (by show 2 ≤ 100000; decide) fun y hy => ⟨by show 2 ≤ sizeLine; decide, fun q2 hq2 => ?_⟩)
      have S := ((Same.new' (o := .tup [.int (a * s), .int (b * s)]) hx).trans (Same.new' (o := .lst [.int (a * s), .int (b * s)]) hy)).trans (Same.new' (o := .lst [.ref x, .ref y]) hq2)
      obtain ⟨kv2, hd2⟩ := P2.dk
      have px : x ≠ p := fun z => by rw [z, hd2] at hx; cases hx
      have py : y ≠ p := fun z => by
        have := (Same.new' (o := .tup [.int (a * s), .int (b * s)]) hx) _ _ hd2
        rw [z, this] at hy
        cases hy
      have ex := (Same.new' (o := .lst [.ref x, .ref y]) hq2) _ _ ((Same.new' (o := .lst [.int (a * s), .int (b * s)]) hy) _ _ (upd_same (H := H2) (a := x) (o := .tup [.int (a * s), .int (b * s)])))
      have ey := (Same.new' (o := .lst [.ref x, .ref y]) hq2) _ _ (upd_same (a := y) (o := .lst [.int (a * s), .int (b * s)]))
      refine ⟨p, c, q2, _, m + 2, rfl, P2.same S, by omega, SqL.of upd_same, by show 0 < 2; decide, by show 2 < 1000000000; decide, fun v H3 hv b3 P3 => ?_⟩
      have B := (((b1.trans (But.of (Same.new hq))).trans b2).trans (But.of S)).trans b3
      have bs : 0 < b * s := Int.mul_pos b0 s0
      have fx : ∀ z, z ≠ p → H2 z = none → H z = none := fun z nz hz => by
        cases h : H z with
        | none => rfl
        | some o =>
          rw [((b1.trans (But.of (Same.new hq))).trans b2) _ _ h nz] at hz
          cases hz
      have hy0 : H2 y = none := by
        cases h : H2 y with
        | none => rfl
        | some o =>
          rw [(Same.new' (o := .tup [.int (a * s), .int (b * s)]) hx) _ _ h] at hy
          cases hy
      rcases List.mem_cons.mp hv with e | hv
      · rw [e]
        exact k _ _ s s0 s1 (.pair (.inr (b3 _ _ ex px)) bs) (fun z ez => by cases ez; exact fx x px hx) B P3
      · rcases List.mem_cons.mp hv with e | hv
        · rw [e]
          exact k _ _ s s0 s1 (.pair (.inl (b3 _ _ ey py)) bs) (fun z ez => by cases ez; exact fx y py hy0) B P3
        · cases hv
    · by_cases e1 : b = 1
      · refine (ans_eq (x := .int b) (y := .int 1) (v_ixT (n := 1) (val_var rfl) val_c (SqT.of ht) rfl) val_c rfl (decide_eq_true (by rw [e1]))) _ ?_
        refine iteT ?_
        refine c_call (va_cons (val_var rfl) (va_cons val_c va_nil)) ⟨p, c, 2, m, rfl, hP, by omega, by decide, by decide, fun r H1 r0 r1 b1 P1 => ?_⟩
        refine ⟨rfl, _, rfl, ?_⟩
        refine ite2 (fun _ => ?_) (fun _ => rest _ ⟨b1, P1⟩)
        refine st_ret (v_ixT (n := 0) (val_var rfl) val_c (SqT.of (b1 _ _ ht np)) rfl) (k _ _ 1 (by decide) (by decide) ?_ (fun _ z => nomatch z) b1 (P1.le (by omega)))
        rw [e1, Int.mul_one, Int.mul_one]
        exact .int a
      · refine (ans_eq (x := .int b) (y := .int 1) (v_ixT (n := 1) (val_var rfl) val_c (SqT.of ht) rfl) val_c rfl (decide_eq_false (by simp [e1]))) _ ?_
        refine iteF (iteF (rest _ ⟨But.refl, hP.le (by omega)⟩))

/-! ### values that are no ratios -/
def Fine (K : PySem.W.Frag) (H : Hp) (v : V) (d : PyData) : Prop := Dd K H v d ∧ d.showable = true ∧ d.depth ≤ 3 ∧ d.shown.length ≤ 1000 ∧ PyData.strOk d.shown = true
inductive Odd (H : Hp) : V → Prop
  | non : Odd H .non
  | bl : Odd H (.bl true)
  | str : Odd H (.str "1")
  | tup {q : Addr} {xs : List V} (e : H q = some (.tup xs)) (h : xs = [.int 1, .int 0] ∨ xs = [.int 1, .int (-2)] ∨ xs = [.int 1, .bl true] ∨ xs = [.int 1, .int 2, .int 3] ∨ xs = [.str "1", .int 2] ∨ xs = [.non, .int 1] ∨ xs = [.bl true, .int 2] ∨ xs = []) : Odd H (.ref q)
  | lst {q : Addr} {xs : List V} (e : H q = some (.lst xs)) (h : xs = [.int 1] ∨ xs = [.int 2, .bl false]) : Odd H (.ref q)
  | dic {q : Addr} (e : H q = some (.dK [(aK, .int 1)])) : Odd H (.ref q)
  | nest {q r : Addr} (e : H q = some (.tup [.ref r, .int 3])) (e2 : H r = some (.tup [.int 1, .int 2])) : Odd H (.ref q)
theorem em_tupF {σ : L2.St} {H : Hp} {tb : TA} {ws : List V} {P : V → Hp → Prop} (h : VA tb σ H ws) (hl : ws.length ≤ 100000) (q : ∀ a H', H a = none → H' a = some (.tup ws) → P (.ref a) H') : EM (tTup tb) σ H P := fun Q k => l_tup h hl fun a ha => k _ _ (Same.new' ha) (q a _ ha upd_same)
theorem tup_two {σ : L2.St} {H : Hp} {t1 t2 : TE} {Q : VK} (h : t1 σ H fun v H1 => t2 σ H1 fun w H2 => 2 ≤ sizeLine ∧ ∀ q, H2 q = none → Q (.ref q) (upd H2 q (.tup [v, w]))) : tTup (tCons t1 (tCons t2 tNil)) σ H Q := h
/-! ### the error of a call -/
theorem ExcC.xf {K : PySem.W.Frag} {C : Addr} (e : ExcC K C) : XfC K C := ⟨e.1, e.2, e.3, e.4⟩
end
end LW

/-! The law's end where several defs of the text make lambdas, and nothing is being shown. -/
namespace GL
open PySem PySem.Spec PyProof.Rows L2
section
variable {P : Program} {w : World} {K : PySem.W.Frag} {mg mb : Str → Option Value} {k : Nat} {fa a : Addr} {ts : List (Addr × Addr)} {fd : FuncData} {x : Str} {sp : Sp} {s₁ : Shared} {vs : List Value} {ns : List Int}
/-- from one abstract heap that knows the table, and the script at most -/
theorem law_fromT (KX : K.In s₁.heap) (hns : s₁.heap.Ns mainGlobals mg) (hb : s₁.heap.Ns builtinsNs mb) (hbb : ∀ x : Str, x ≠ "__name__" → mb x = bootBuiltins x) (hlim : s₁.heap.NoLimit) (hg : s₁.gens = #[])
    (hTs : ∀ p ∈ ts, s₁.heap.get? p.2 = some { cls := .none, data := .fields #[] } ∧ K.lookup p.2 = none ∧ PySem.W.codeHdIn K p.1 p.2 = true)
    (hbm : ∃ (bm : Addr) (ob : Obj), mg "__builtins__" = some (.ref bm) ∧ bm ≠ builtinsNs ∧ s₁.heap.get? bm = some ob ∧ ob.cls = .type "module" ∧ ob.dict = some builtinsNs ∧ ob.data = .plain)
    (ha : s₁.heap.get? a = some { cls := .type "list", data := .seq vs.toArray }) (hr : Room k callerA)
    (F : ∀ base : Heap, K.In base → base.Ns mainGlobals mg → (∀ p ∈ ts, LamX.TabB base mg p.1 p.2) → OkG P w K mg base CX0 k fa fd [x] sp) (hbind : ∀ (s : Shared) (u : Value), BindsTo s fd ⟨[u], []⟩ [(x, u)])
    {H : Hp} (hH : ∀ p ∈ ts, H p.2 = some (.tbl #[])) (hO : ∀ b, b ∉ ts.map Prod.snd → H b = none ∨ ∃ o xs, H b = some (.frz o (.lst xs))) (hsp : sp [.ref a] H (fun v _ => v = .bl true) fun _ _ _ => False) (hok : HOk P w H s₁.heap) (hA : ∀ b, b ∉ ts.map Prod.snd → H b ≠ none → b = a)
    (hK : H a ≠ none → K.lookup a = none) : Law P w fa a s₁ := by
  have free : ∀ {b : Addr} {o : Obj}, s₁.heap.get? b = some o → (∀ xs m, o.data ≠ .seq xs m) → o.data ≠ .fields #[] → H b = none := fun {b o} e d1 d2 => by
    by_cases q : b ∈ ts.map Prod.snd
    · obtain ⟨p, hp, rfl⟩ := List.mem_map.mp q
      rw [(hTs p hp).1] at e
      cases e
      exact (d2 rfl).elim
    · refine Decidable.byContradiction fun z => ?_
      have q2 := hA b q z
      rw [q2, ha] at e
      cases e
      exact d1 _ _ rfl
  have kFree : ∀ {b : Addr} {o : Obj}, K.lookup b = some o → H b = none := fun {b o} e => Decidable.byContradiction fun z => by
    by_cases q : b ∈ ts.map Prod.snd
    · obtain ⟨p, hp, rfl⟩ := List.mem_map.mp q
      rw [(hTs p hp).2.1] at e
      cases e
    · have q2 := hA b q z
      subst q2
      rw [hK z] at e
      cases e
  have dict : ∀ {b : Addr} {o : Obj} {es : Array DictEntry} {ep : Nat}, s₁.heap.get? b = some o → o.data = .dict es ep → H b = none := fun {b o es ep} e d =>
    free e (fun xs m z => by rw [d] at z; cases z) (fun z => by rw [d] at z; cases z)
  have names : ∀ {b : Addr} {m : Str → Option Value}, s₁.heap.Ns b m → (hidT s₁.heap H).Ns b m := fun {b m} z => by
    obtain ⟨o, es, ep, e, d, r⟩ := z
    exact ⟨o, es, ep, hidT_get e (dict e d), d, r⟩
  have kIn' : K.In (hidT s₁.heap H) := fun b o e => hidT_get (KX b o e) (kFree e)
  have TB : ∀ p ∈ ts, LamX.TabB (hidT s₁.heap H) mg p.1 p.2 := fun p hp => by
    obtain ⟨hTab, nTab, hCd⟩ := hTs p hp
    have gP : mainGlobals ≠ p.2 := fun z => by
      obtain ⟨o, es, ep, e, d, _⟩ := hns
      rw [z, hTab] at e
      cases e
      cases d
    refine ⟨PySem.W.codeHd_of_K kIn' hCd, ?_, gP⟩
    obtain ⟨bm, ob, q1, q2, q3, q4, q5, q6⟩ := hbm
    have nG : bm ≠ mainGlobals := fun z => by
      obtain ⟨o, es, ep, e, d, _⟩ := hns
      rw [z, e] at q3
      cases q3
      rw [d] at q6
      cases q6
    have nP : bm ≠ p.2 := fun z => by
      rw [z, hTab] at q3
      cases q3
      cases q6
    exact ⟨bm, ob, q1, q2, nG, nP, hidT_get q3 (free q3 (fun xs m z => by rw [q6] at z; cases z) (fun z => by rw [q6] at z; cases z)), q4, q5, q6⟩
  obtain ⟨mc, l1, l2⟩ := hlim
  have e0 : Env0 P w K mg (hidT s₁.heap H) callerA [] s₁ H := ⟨rfl, ⟨kIn', names hns, ⟨mb, names hb, hbb⟩, ⟨mc, names l1, l2⟩⟩, fun b o e => of_hidT e, Nat.le_of_eq (hidT_size _ _), trivial, (fun b z => nomatch z), hok, .of_eq hg⟩
  have run := (F _ kIn' (names hns) TB).run callerA [] s₁ H ⟨[.ref a], []⟩ [.ref a] [.ref a] _ _ hr rfl e0 (hbind s₁ (.ref a)) (.cons rfl .nil) hsp
  refine codeAny_mono run fun r s' z => ?_
  cases r with
  | error e => exact z.elim
  | ok fl => cases fl with
    | next => exact z.elim
    | brk => exact z.elim
    | cont => exact z.elim
    | ret u =>
      obtain ⟨v, H', os, bare, un, hok', rv, ev⟩ := z
      have ev' : v = .bl true := ev
      subst ev'
      cases (show u = Value.bool true from rv)
      have stay : ∀ b o, b ∉ ts.map Prod.snd → s₁.heap.get? b = some o → s'.heap.get? b = some o := fun b o n e => by
        rcases hO b n with q | ⟨ob, xs, q⟩
        · exact un.keep b o e q (fun z => nomatch z) (fun z => nomatch z)
        · obtain ⟨e1, _⟩ := hok b _ q
          obtain ⟨e2, _⟩ := hok' b _ (un.frzs b ob _ q)
          rw [e] at e1
          cases e1
          exact e2
      refine ⟨rfl, ⟨fun b o e => ?_, fun b o e => ?_⟩, os, bare⟩
      · by_cases n : b ∈ ts.map Prod.snd
        · obtain ⟨p, hp, rfl⟩ := List.mem_map.mp n
          obtain ⟨hTab, nTab, hCd⟩ := hTs p hp
          obtain ⟨more, hm⟩ := un.tbls p.2 #[] (hH p hp)
          have now := hok' p.2 _ hm
          rw [hTab] at e
          cases e
          exact .inr (.inl ⟨((PySem.W.codeHd_of_K KX hCd).tab hTab).isCodeTable, rfl, #[], more, rfl, now⟩)
        · exact .inl (stay b o n e)
      · by_cases n : b ∈ ts.map Prod.snd
        · obtain ⟨p, hp, rfl⟩ := List.mem_map.mp n
          obtain ⟨more, hm⟩ := un.tbls p.2 #[] (hH p hp)
          exact ⟨_, hok' p.2 _ hm⟩
        · exact ⟨o, stay b o n e⟩
theorem law_callGT (KX : K.In s₁.heap) (hns : s₁.heap.Ns mainGlobals mg) (hb : s₁.heap.Ns builtinsNs mb) (hbb : ∀ x : Str, x ≠ "__name__" → mb x = bootBuiltins x) (hlim : s₁.heap.NoLimit) (hg : s₁.gens = #[])
    (hTs : ∀ p ∈ ts, s₁.heap.get? p.2 = some { cls := .none, data := .fields #[] } ∧ K.lookup p.2 = none ∧ PySem.W.codeHdIn K p.1 p.2 = true)
    (hbm : ∃ (bm : Addr) (ob : Obj), mg "__builtins__" = some (.ref bm) ∧ bm ≠ builtinsNs ∧ s₁.heap.get? bm = some ob ∧ ob.cls = .type "module" ∧ ob.dict = some builtinsNs ∧ ob.data = .plain)
    (ha : s₁.heap.get? a = some { cls := .type "list", data := .seq vs.toArray }) (hi : IntsAre vs ns) (hl : ns.length ≤ sizeLine) (hr : Room k callerA)
    (F : ∀ base : Heap, K.In base → base.Ns mainGlobals mg → (∀ p ∈ ts, LamX.TabB base mg p.1 p.2) → OkG P w K mg base CX0 k fa fd [x] sp) (hbind : ∀ (s : Shared) (u : Value), BindsTo s fd ⟨[u], []⟩ [(x, u)])
    (hsp : ∀ H : Hp, (∀ p ∈ ts, H p.2 = some (.tbl #[])) → SqL K H a (ns.map V.int) → sp [.ref a] H (fun v _ => v = .bl true) fun _ _ _ => False) : Law P w fa a s₁ := by
  have rv := vals_ints hi
  have na : a ∉ ts.map Prod.snd := fun z => by
    obtain ⟨p, hp, e⟩ := List.mem_map.mp z
    rw [← e, (hTs p hp).1] at ha
    cases ha
  let H0 : Hp := fun b => if b ∈ ts.map Prod.snd then some (.tbl #[]) else none
  have t0' : ∀ b, b ∈ ts.map Prod.snd → H0 b = some (.tbl #[]) := fun b z => if_pos z
  have t0 : ∀ p ∈ ts, H0 p.2 = some (.tbl #[]) := fun p hp => t0' _ (List.mem_map.mpr ⟨p, hp, rfl⟩)
  have o0 : ∀ b, b ∉ ts.map Prod.snd → H0 b = none := fun b z => if_neg z
  cases hk : K.lookup a with
  | some o =>
    have e := KX a o hk
    rw [ha] at e
    cases e
    have hS : SqL K H0 a (ns.map V.int) := .inr ⟨_, vs.toArray, _, hk, rfl, rfl, rfl, by rw [List.size_toArray, hi.length]; exact hl, by simpa using rv⟩
    refine law_fromT KX hns hb hbb hlim hg hTs hbm ha hr F hbind t0 (fun b n => .inl (o0 b n)) (hsp H0 t0 hS) (fun b u z => ?_) (fun b n z => (z (o0 b n)).elim) (fun z => (z (o0 a na)).elim)
    by_cases q : b ∈ ts.map Prod.snd
    · rw [t0' b q] at z
      cases z
      obtain ⟨p, hp, rfl⟩ := List.mem_map.mp q
      exact (hTs p hp).1
    · rw [o0 b q] at z
      cases z
  | none =>
    let H1 : Hp := upd H0 a (.frz { cls := .type "list", data := .seq vs.toArray } (.lst (ns.map V.int)))
    have a1 : H1 a = some (.frz { cls := .type "list", data := .seq vs.toArray } (.lst (ns.map V.int))) := upd_same
    have t1' : ∀ b, b ∈ ts.map Prod.snd → H1 b = some (.tbl #[]) := fun b z => (upd_ne (fun e => na (by rw [← e]; exact z))).trans (t0' b z)
    have t1 : ∀ p ∈ ts, H1 p.2 = some (.tbl #[]) := fun p hp => t1' _ (List.mem_map.mpr ⟨p, hp, rfl⟩)
    have o1 : ∀ b, b ∉ ts.map Prod.snd → b ≠ a → H1 b = none := fun b z y => (upd_ne y).trans (o0 b z)
    refine law_fromT KX hns hb hbb hlim hg hTs hbm ha hr F hbind t1 (fun b n => ?_) (hsp H1 t1 (.inl (.inr ⟨_, a1⟩))) (fun b u z => ?_) (fun b n z => Decidable.byContradiction fun q => z (o1 b n q)) (fun _ => hk)
    · by_cases q : b = a
      · rw [q]
        exact .inr ⟨_, _, a1⟩
      · exact .inl (o1 b n q)
    · by_cases q : b = a
      · subst q
        rw [a1] at z
        cases z
        exact ⟨ha, by rw [List.length_map]; exact hl, vs, _, rv, ha⟩
      · by_cases q2 : b ∈ ts.map Prod.snd
        · rw [t1' b q2] at z
          cases z
          obtain ⟨p, hp, rfl⟩ := List.mem_map.mp q2
          exact (hTs p hp).1
        · rw [o1 b q2 q] at z
          cases z
end
/-- what is known of the law's def -/
def LawT (P : Program) (w : World) (K : PySem.W.Frag) (k n : Nat) (x : Str) (mg : Str → Option Value) (fa : Addr) (h : Heap) : Prop :=
  ∃ (fd : FuncData) (ts : List (Addr × Addr)) (sp : Sp), (∀ p ∈ ts, h.get? p.2 = some { cls := .none, data := .fields #[] } ∧ K.lookup p.2 = none ∧ PySem.W.codeHdIn K p.1 p.2 = true) ∧ (∀ (s : Shared) (u : Value), BindsTo s fd ⟨[u], []⟩ [(x, u)]) ∧
    (∀ (H : Hp) (a : Addr) (ns : List Int), ns.length ≤ n → (∀ p ∈ ts, H p.2 = some (.tbl #[])) → SqL K H a (ns.map V.int) → sp [.ref a] H (fun v _ => v = .bl true) fun _ _ _ => False) ∧
    ∀ base : Heap, K.In base → base.Ns mainGlobals mg → (∀ p ∈ ts, LamX.TabB base mg p.1 p.2) → OkG P w K mg base CX0 k fa fd [x] sp
end GL

/-! The small head (head_any) with facts of the top by one Hook. -/
namespace GL
open PySem PySem.Spec PyProof.Rows L2
/-- an own exception's class object -/
def xcB (K : PySem.W.Frag) (C : Addr) : Bool := match K.lookup C with
  | some ⟨.type c, _, .cls cd, sl⟩ => decide (c = "type") && ((match cd.mro with
    | .ref a :: bm => decide (a = C) && PySem.HandSPX.refsVE bm
    | _ => false) && (cd.hasDict && (!cd.hasDel && (match sl.toList with
    | [_, _, _, _, some (.builtin x), _] => decide (x = "ValueError.__new__")
    | _ => false))))
  | _ => false
theorem xcB_ok {K : PySem.W.Frag} {C : Addr} (h : xcB K C = true) : ∃ nm q N bs bm sn sub ab col dd k0 k1 k2 k3 k5, K.lookup C = some (excClassObj nm q C N bs bm true sn sub ab col dd k0 k1 k2 k3 k5 "ValueError.__new__") ∧ PySem.HandSPX.refsVE bm = true := by
  unfold xcB at h
  cases q : K.lookup C with
  | none => rw [q] at h; cases h
  | some o =>
    obtain ⟨oc, od, dt, sl⟩ := o
    rw [q] at h
    cases oc with
    | type c =>
      cases dt with
      | cls cd =>
        obtain ⟨h1, h⟩ := He.ba h
        obtain ⟨h2, h⟩ := He.ba h
        obtain ⟨h3, h⟩ := He.ba h
        obtain ⟨h4, h5⟩ := He.ba h
        have e1 : c = "type" := of_decide_eq_true h1
        subst e1
        obtain ⟨n1, n2, n3, n4, n5, n6, n7, n8, n9, n10, n11⟩ := cd
        obtain ⟨a, bm, e3, e4, e5⟩ : ∃ a bm, n3 = .ref a :: bm ∧ a = C ∧ PySem.HandSPX.refsVE bm = true := by
          cases n3 with
          | nil => cases h2
          | cons v bm =>
            cases v with
            | ref a =>
              obtain ⟨z1, z2⟩ := He.ba h2
              exact ⟨a, bm, rfl, of_decide_eq_true z1, z2⟩
            | _ => cases h2
        subst e3 e4
        have e6 : n6 = true := h3
        have e7 : n11 = false := by
          cases n11 with
          | false => rfl
          | true => cases h4
        subst e6 e7
        obtain ⟨k0, k1, k2, k3, k5, e8⟩ : ∃ k0 k1 k2 k3 k5, sl.toList = [k0, k1, k2, k3, some (.builtin "ValueError.__new__"), k5] := by
          split at h5
          · rename_i k0 k1 k2 k3 x k5 e
            have ex : x = "ValueError.__new__" := of_decide_eq_true h5
            rw [ex] at e
            exact ⟨_, _, _, _, _, e⟩
          · cases h5
        have e9 : sl = #[k0, k1, k2, k3, some (.builtin "ValueError.__new__"), k5] := Array.toList_inj.mp e8
        subst e9
        exact ⟨_, _, _, _, _, _, _, _, _, _, _, _, _, _, _, rfl, e5⟩
      | _ => cases h
    | _ => cases dt <;> cases h
section
variable {fa : List He.Fa} {fn : List He.DefD} {K : PySem.W.Frag}
theorem defP (c : He.SaysD fa fn K) (i : Nat) {p : Str × Option Str} {x q : Str} {ar : Arguments} {b : List Stmt} {sc : Scope} (h : fn[i]? = some ⟨p, x, q, ar, b, sc, [], []⟩) :
    ∃ oc od osl kV doc pm an cdv ct, K.lookup (He.fAd K p) = some ⟨oc, od, .func (PySem.W.fnOf x q ar b sc .none kV doc pm an cdv ct), osl⟩ ∧ PySem.W.codeIn K cdv q = true ∧ PySem.W.keepIn K (.ref (He.fAd K p)) = true := by
  obtain ⟨fd, ⟨oc, od, dV, kV, doc, pm, an, cdv, ct, osl, rfl, lk, cd, dfl, _⟩, kp⟩ := c.def_ i h
  have e : dV = .none := by
    rcases dfl with ⟨_, e⟩ | ⟨z, _⟩
    · exact e
    · exact absurd rfl z
  subst e
  exact ⟨oc, od, osl, kV, doc, pm, an, cdv, ct, lk, cd, kp⟩
theorem defG (c : He.SaysD fa fn K) (i : Nat) {x : Str} {st : Stmt} (h : fn[i]? = some ⟨(x, none), x, x, defArgs st, defBody st, defScope st, [], []⟩) :
    ∃ oc od osl kV doc pm an cdv ct, K.lookup (He.ga K x) = some ⟨oc, od, .func (PySem.W.fnOf x x (defArgs st) (defBody st) (defScope st) .none kV doc pm an cdv ct), osl⟩ ∧ PySem.W.codeIn K cdv x = true ∧ PySem.W.keepIn K (.ref (He.ga K x)) = true := defP c i h
theorem defM (c : He.SaysD fa fn K) (i : Nat) {C m q : Str} {st : Stmt} (h : fn[i]? = some ⟨(C, some m), m, q, defArgs st, defBody st, defScope st, [], []⟩) :
    ∃ oc od osl kV doc pm an cdv ct, K.lookup (He.ma K (He.ga K C) m) = some ⟨oc, od, .func (PySem.W.fnOf m q (defArgs st) (defBody st) (defScope st) .none kV doc pm an cdv ct), osl⟩ ∧ PySem.W.codeIn K cdv q = true ∧ PySem.W.keepIn K (.ref (He.ma K (He.ga K C) m)) = true := defP c i h
end
theorem chk {l : List Bool} (h : l.all id = true) (i : Nat) {P : Prop} [d : Decidable P] (e : l[i]? = some (decide P)) : P :=
  of_decide_eq_true (show id (decide P) = true from List.all_eq_true.mp h _ (List.mem_of_getElem? e))
/-- one def of the top -/
def gDef (x : Str) (st : Stmt) : He.DefD := ⟨(x, none), x, x, defArgs st, defBody st, defScope st, [], []⟩
def mDef (C m q : Str) (st : Stmt) : He.DefD := ⟨(C, some m), m, q, defArgs st, defBody st, defScope st, [], []⟩
theorem walk_GTE {l : PySem.W.OpenLaw} {n k : Nat} {q : Program} {loose : List Str} {XP : (Str → Option Value) → Heap → Prop} {YP : World → Heap → Prop} {d : DefRec} {x : Str}
    (hn : l.most = some n) (hn2 : n ≤ sizeLine) (hdf : d.params.defaults = []) (hr : Room k callerA)
    (F : ∀ (w : World) (mg : Str → Option Value) (fa : Addr) (h : Heap), YP w h → h.Ns mainGlobals mg → mg d.name = some (.ref fa) → ∃ K : PySem.W.Frag, K.In h ∧ LawT l.prog w K k n x mg fa h) :
    PySem.W.WalkO q loose XP YP l.row.toRowW d [] (fun f vs => PySem.call f vs) := by
  refine Att.attach_call hn hdf fun w s₀ s₁ mg mb fa o pm cd doc a vs ns G Y ho hd hcd hmg hobj hints hlen hg => ?_
  obtain ⟨K, KX, fd, ts, sp, hT, hbi, hsp, hF⟩ := F w mg fa _ Y G.T.g hmg
  exact law_callGT KX G.T.g G.T.b G.T.builtins G.T.nolimit hg hT G.T.bmain hobj hints (Nat.le_trans hlen hn2) hr hF hbi fun H hH hS => hsp H a ns hlen hH hS
/-! ### what the facts look at: the module's names, their codes, the classes' tables, the methods, their codes -/
def dRefs (g : Addr → Option Obj) (a : Addr) : List Addr := match g a with
  | some ⟨_, _, .dict es _, _⟩ => es.toList.flatMap fun e => He.refV e.val
  | _ => []
def fRefs (g : Addr → Option Obj) (a : Addr) : List Addr := match g a with
  | some ⟨_, _, .func fd, _⟩ => He.refV fd.code
  | some ⟨_, _, .cls cd, _⟩ => cd.ns :: cd.mro.flatMap He.refV
  | _ => []
def asC (g : Addr → Option Obj) : List Addr := mainGlobals :: ((dRefs g mainGlobals ++ (dRefs g mainGlobals).flatMap (fRefs g)) ++ (((dRefs g mainGlobals).flatMap (fRefs g)).flatMap (dRefs g) ++ (((dRefs g mainGlobals).flatMap (fRefs g)).flatMap (dRefs g)).flatMap (fRefs g)))
def fcL {α : Type} : List (Addr × Obj) → (List (Addr × Obj) → α) → α
  | [], k => k []
  | x :: r, k => fcL r fun K => k (x :: K)
theorem fcL_eq {α : Type} : ∀ (l : List (Addr × Obj)) (k : List (Addr × Obj) → α), fcL l k = k l
  | [], _ => rfl
  | x :: r, k => fcL_eq r fun K => k (x :: K)
def obsP (fn : List He.DefD) (g : Addr → Option Obj) : He.AlD := fcL (He.frT g (asC g)) fun K => He.obsD [] fn K
def obsQ (tf : List He.Defn) (ex : PySem.W.Frag → Bool) (g : Addr → Option Obj) : Bool := fcL (He.frT g (asC g)) fun K => ex K && He.tabsB g tf K
theorem saysC {fn : List He.DefD} {tf : List He.Defn} {ex : PySem.W.Frag → Bool} {w : World} {h : Heap} (e1 : obsP fn h.get? = He.valD fn) (e2 : obsQ tf ex h.get? = true) : He.SaysX [] fn [] tf ex w h (He.frT h.get? (asC h.get?)) := by
  unfold obsP at e1
  unfold obsQ at e2
  rw [fcL_eq] at e1 e2
  obtain ⟨h1, h2⟩ := He.ba e2
  have at_ : ∀ p ∈ tf, PySem.W.codeHdIn (He.frT h.get? (asC h.get?)) (He.cT (He.frT h.get? (asC h.get?)) p).1 (He.cT (He.frT h.get? (asC h.get?)) p).2 = true ∧ ∃ o, h.get? (He.cT (He.frT h.get? (asC h.get?)) p).2 = some o ∧ He.emptyTab o = true := fun p hp => by
    have z := List.all_eq_true.mp h2 p hp
    obtain ⟨z1, z2⟩ := He.ba z
    revert z2
    cases q : h.get? (He.cT (He.frT h.get? (asC h.get?)) p).2 with
    | none => exact fun z2 => nomatch z2
    | some o => exact fun z2 => ⟨z1, o, rfl, z2⟩
  have e3 : He.obsT [] fn [] (He.frT h.get? (asC h.get?)) = He.valT fn [] w := Prod.ext e1 rfl
  exact { t := e3, more := h1, hd := fun p hp => (at_ p hp).1, out := fun p hp => (at_ p hp).2.elim fun _ z => He.frT_none z.1 z.2, empty := fun p hp => (at_ p hp).2.elim fun _ z => by rw [z.1, He.emptyTab_eq z.2] }
def hookC (fn : List He.DefD) (tf : List He.Defn) (ex : PySem.W.Frag → Bool) : PySem.W.Hook where
  α := He.AlD × Bool
  obs := fun s => (obsP fn s.heap.get?, obsQ tf ex s.heap.get?)
  val := fun _ => (He.valD fn, true)
  says := fun w h => ∃ K : PySem.W.Frag, K.In h ∧ He.SaysX [] fn [] tf ex w h K
  of := fun _ _ e => ⟨_, He.frT_in, saysC (congrArg Prod.fst e) (congrArg Prod.snd e)⟩
  keeps := fun _ _ _ ⟨K, hK, c⟩ k => ⟨K, PySem.W.Frag.In.keeps hK k, ⟨c.t, c.more, c.hd, c.out, fun p hp => k _ _ (c.empty p hp)⟩⟩
theorem hookC_eq {fn : List He.DefD} {tf : List He.Defn} {ex : PySem.W.Frag → Bool} (s : PySem.W.SharedT) : (obsP fn (HandSHeadRun.getT s), obsQ tf ex (HandSHeadRun.getT s)) = (hookC fn tf ex).obs s.abs := by
  have e : HandSHeadRun.getT s = s.abs.heap.get? := funext (HandSHeadRun.getT_eq s)
  rw [e]
  rfl
/-- equations about one run, joined -/
theorem join4 {α β γ δ ε : Type} {o : Option α} {f : α → β} {g : α → γ} {p : α → δ} {q : α → ε} {b : β} {c : γ} {d : δ} {e : ε} (h1 : o.map (fun x => (f x, g x, ())) = some (b, c, ())) (h2 : o.map p = some d) (h3 : o.map q = some e) :
    o.map (fun x => (f x, g x, (p x, q x))) = some (b, c, (d, e)) := by
  cases o with
  | none => cases h2
  | some x =>
    have e1 : (f x, g x, ()) = (b, c, ()) := Option.some.inj h1
    have e2 : p x = d := Option.some.inj h2
    have e3 : q x = e := Option.some.inj h3
    have e4 : f x = b := congrArg Prod.fst e1
    have e5 : g x = c := congrArg (fun z => z.2.1) e1
    show some (f x, g x, (p x, q x)) = _
    rw [e2, e3, e4, e5]
/-- from the Hook's facts -/
theorem dfX {fa : List He.Fa} {fn : List He.DefD} {K : PySem.W.Frag} {mg : Str → Option Value} {x : Str} {st : Stmt} {ps : List Str} {h : Heap} (X : K.In h) (G : h.Ns mainGlobals mg) (c : He.SaysD fa fn K) (a : PySem.W.nsIn K mainGlobals x = some (some (.ref (He.ga K x))))
    (i : Nat) (e : fn[i]? = some (gDef x st))
    (bi : ∀ (kV doc pm : Value) (an : Option Addr) (cdv ct : Value) (us : List Value), us.length = ps.length → bindArgs (PySem.W.fnOf x x (defArgs st) (defBody st) (defScope st) .none kV doc pm an cdv ct) ⟨us, []⟩ = pure (ps.zip us)) : Df K mg x st ps := by
  obtain ⟨_, _, _, _, _, _, _, _, _, l, cd, kp⟩ := defG c i e
  exact Df.mk' X G a l cd kp bi
theorem lawX {fa : List He.Fa} {fn : List He.DefD} {K : PySem.W.Frag} {mg : Str → Option Value} {h : Heap} {x : Str} {st : Stmt} (X : K.In h) (G : h.Ns mainGlobals mg) (c : He.SaysD fa fn K) (a : PySem.W.nsIn K mainGlobals x = some (some (.ref (He.ga K x))))
    (i : Nat) (e : fn[i]? = some (gDef x st)) : ∃ cC, cC = He.codeOf K (x, none) ∧ (fDat K (fA mg x)).code = .ref cC := by
  obtain ⟨_, _, _, _, _, _, _, _, _, l, cd, kp⟩ := defG c i e
  obtain ⟨cC, rfl⟩ := He.codeIn_ref cd
  exact ⟨cC, (He.codeOf_eq (p := (x, none)) l rfl).symm, by rw [fA_of (PySem.W.mg_of X G a), fDat_of l]⟩
theorem lbX {fa : List He.Fa} {fn : List He.DefD} {K : PySem.W.Frag} {mg : Str → Option Value} {h : Heap} {x p : Str} {st : Stmt} (X : K.In h) (G : h.Ns mainGlobals mg) (c : He.SaysD fa fn K) (a : PySem.W.nsIn K mainGlobals x = some (some (.ref (He.ga K x))))
    (i : Nat) (e : fn[i]? = some (gDef x st)) (bi : ∀ (kV doc pm : Value) (an : Option Addr) (cdv ct u : Value), bindArgs (PySem.W.fnOf x x (defArgs st) (defBody st) (defScope st) .none kV doc pm an cdv ct) ⟨[u], []⟩ = pure [(p, u)]) :
    ∀ (s : PySem.Shared) (u : PySem.Value), BindsTo s (fDat K (fA mg x)) ⟨[u], []⟩ [(p, u)] := by
  obtain ⟨_, _, _, _, _, _, _, _, _, l, cd, kp⟩ := defG c i e
  intro s u
  rw [fA_of (PySem.W.mg_of X G a), fDat_of l]
  exact .of_eq (bi ..)
end GL

namespace LW
open PySem PySem.Spec PyProof.Rows L2 GL
def chk0 (K : PySem.W.Frag) : List Bool := [
  decide (GL.xcB K (He.ga K "BadNumber") = true),
  decide (GL.xcB K (He.ga K "BadRow") = true),
  decide (PySem.W.nsIn K mainGlobals "int" = some none),
  decide (PySem.W.nsIn K mainGlobals "bool" = some none),
  decide (PySem.W.nsIn K mainGlobals "list" = some none),
  decide (PySem.W.nsIn K mainGlobals "tuple" = some none),
  decide (PySem.W.nsIn K mainGlobals "len" = some none),
  decide (PySem.W.nsIn K mainGlobals "range" = some none),
  decide (PySem.W.nsIn K mainGlobals "isinstance" = some none),
  decide (PySem.W.nsIn K mainGlobals "repr" = some none),
  decide (PySem.W.nsIn K mainGlobals "abs" = some none),
  decide (PySem.W.nsIn K mainGlobals "all" = some none),
  decide (PySem.W.nsIn K mainGlobals "max" = some none),
  decide (PySem.W.nsIn K mainGlobals "min" = some none),
  decide (PySem.W.nsIn K mainGlobals "reversed" = some none),
  decide (PySem.W.nsIn K mainGlobals "enumerate" = some none),
  decide (PySem.W.nsIn K mainGlobals "sorted" = some none),
  decide (PySem.W.nsIn K mainGlobals "dict" = some none),
  decide (PySem.W.nsIn K mainGlobals "zip" = some none),
  decide (PySem.W.nsIn K mainGlobals "NotImplemented" = some none),
  decide (PySem.W.nsIn K mainGlobals "gcd" = some (some (.builtin "math.gcd"))),
  decide (PySem.W.nsIn K mainGlobals "lcm" = some (some (.builtin "math.lcm"))),
  decide (PySem.W.nsIn K mainGlobals "is_ratio" = some (some (.ref (He.ga K "is_ratio")))),
  decide (PySem.W.nsIn K mainGlobals "told" = some (some (.ref (He.ga K "told")))),
  decide (PySem.W.nsIn K mainGlobals "plus" = some (some (.ref (He.ga K "plus"))))]
def chk1 (K : PySem.W.Frag) : List Bool := [
  decide (PySem.W.nsIn K mainGlobals "times" = some (some (.ref (He.ga K "times")))),
  decide (PySem.W.nsIn K mainGlobals "is_integer" = some (some (.ref (He.ga K "is_integer")))),
  decide (PySem.W.nsIn K mainGlobals "_parts" = some (some (.ref (He.ga K "_parts")))),
  decide (PySem.W.nsIn K mainGlobals "_lowest" = some (some (.ref (He.ga K "_lowest")))),
  decide (PySem.W.nsIn K mainGlobals "is_from" = some (some (.ref (He.ga K "is_from")))),
  decide (PySem.W.nsIn K mainGlobals "is_row" = some (some (.ref (He.ga K "is_row")))),
  decide (PySem.W.nsIn K mainGlobals "is_row_of" = some (some (.ref (He.ga K "is_row_of")))),
  decide (PySem.W.nsIn K mainGlobals "is_place" = some (some (.ref (He.ga K "is_place")))),
  decide (PySem.W.nsIn K mainGlobals "pair_of" = some (some (.ref (He.ga K "pair_of")))),
  decide (PySem.W.nsIn K mainGlobals "place_of" = some (some (.ref (He.ga K "place_of")))),
  decide (PySem.W.nsIn K mainGlobals "is_strict_ratio" = some (some (.ref (He.ga K "is_strict_ratio")))),
  decide (PySem.W.nsIn K mainGlobals "held" = some (some (.ref (He.ga K "held")))),
  decide (PySem.W.nsIn K mainGlobals "bottom_of" = some (some (.ref (He.ga K "bottom_of")))),
  decide (PySem.W.nsIn K mainGlobals "whole_row" = some (some (.ref (He.ga K "whole_row")))),
  decide (PySem.W.nsIn K mainGlobals "whole_rows" = some (some (.ref (He.ga K "whole_rows")))),
  decide (PySem.W.nsIn K mainGlobals "top_power" = some (some (.ref (He.ga K "top_power")))),
  decide (PySem.W.nsIn K mainGlobals "total" = some (some (.ref (He.ga K "total")))),
  decide (PySem.W.nsIn K mainGlobals "_joined" = some (some (.ref (He.ga K "_joined")))),
  decide (PySem.W.nsIn K mainGlobals "row_product" = some (some (.ref (He.ga K "row_product")))),
  decide (PySem.W.nsIn K mainGlobals "_beside" = some (some (.ref (He.ga K "_beside")))),
  decide (PySem.W.nsIn K mainGlobals "_number" = some (some (.ref (He.ga K "_number")))),
  decide (PySem.W.nsIn K mainGlobals "_sum" = some (some (.ref (He.ga K "_sum")))),
  decide (PySem.W.nsIn K mainGlobals "_product" = some (some (.ref (He.ga K "_product")))),
  decide (PySem.W.nsIn K mainGlobals "_are_rows" = some (some (.ref (He.ga K "_are_rows")))),
  decide (PySem.W.nsIn K mainGlobals "_shortened" = some (some (.ref (He.ga K "_shortened"))))]
def chk2 (K : PySem.W.Frag) : List Bool := [
  decide (PySem.W.nsIn K mainGlobals "_plane_beside" = some (some (.ref (He.ga K "_plane_beside")))),
  decide (PySem.W.nsIn K mainGlobals "_row" = some (some (.ref (He.ga K "_row")))),
  decide (PySem.W.nsIn K mainGlobals "_plane_sum" = some (some (.ref (He.ga K "_plane_sum")))),
  decide (PySem.W.nsIn K mainGlobals "_row_sum" = some (some (.ref (He.ga K "_row_sum")))),
  decide (PySem.W.nsIn K mainGlobals "_plane_product" = some (some (.ref (He.ga K "_plane_product")))),
  decide (PySem.W.nsIn K mainGlobals "_facing" = some (some (.ref (He.ga K "_facing")))),
  decide (PySem.W.nsIn K mainGlobals "_product_row" = some (some (.ref (He.ga K "_product_row")))),
  decide (PySem.W.nsIn K mainGlobals "_crossed_pairs" = some (some (.ref (He.ga K "_crossed_pairs")))),
  decide (PySem.W.nsIn K mainGlobals "_value_at" = some (some (.ref (He.ga K "_value_at")))),
  decide (PySem.W.nsIn K mainGlobals "_scaled" = some (some (.ref (He.ga K "_scaled")))),
  decide (PySem.W.nsIn K mainGlobals "moved_whole" = some (some (.ref (He.ga K "moved_whole")))),
  decide (PySem.W.nsIn K mainGlobals "_times_line" = some (some (.ref (He.ga K "_times_line")))),
  decide (PySem.W.nsIn K mainGlobals "_plane_of_numbers" = some (some (.ref (He.ga K "_plane_of_numbers")))),
  decide (PySem.W.nsIn K mainGlobals "slope_along" = some (some (.ref (He.ga K "slope_along")))),
  decide (PySem.W.nsIn K mainGlobals "series" = some (some (.ref (He.ga K "series")))),
  decide (PySem.W.nsIn K mainGlobals "_law_pen" = some (some (.ref (He.ga K "_law_pen")))),
  decide (PySem.W.nsIn K mainGlobals "_law_draw" = some (some (.ref (He.ga K "_law_draw")))),
  decide (PySem.W.nsIn K mainGlobals "_law_pick" = some (some (.ref (He.ga K "_law_pick")))),
  decide (PySem.W.nsIn K mainGlobals "_law_gcd" = some (some (.ref (He.ga K "_law_gcd")))),
  decide (PySem.W.nsIn K mainGlobals "_law_q" = some (some (.ref (He.ga K "_law_q")))),
  decide (PySem.W.nsIn K mainGlobals "_law_plus" = some (some (.ref (He.ga K "_law_plus")))),
  decide (PySem.W.nsIn K mainGlobals "_law_times" = some (some (.ref (He.ga K "_law_times")))),
  decide (PySem.W.nsIn K mainGlobals "_law_share" = some (some (.ref (He.ga K "_law_share")))),
  decide (PySem.W.nsIn K mainGlobals "_law_passed" = some (some (.ref (He.ga K "_law_passed")))),
  decide (PySem.W.nsIn K mainGlobals "_law_ratio" = some (some (.ref (He.ga K "_law_ratio"))))]
def chk3 (K : PySem.W.Frag) : List Bool := [
  decide (PySem.W.nsIn K mainGlobals "_law_poly" = some (some (.ref (He.ga K "_law_poly")))),
  decide (PySem.W.nsIn K mainGlobals "_law_p_plus" = some (some (.ref (He.ga K "_law_p_plus")))),
  decide (PySem.W.nsIn K mainGlobals "_law_p_times" = some (some (.ref (He.ga K "_law_p_times")))),
  decide (PySem.W.nsIn K mainGlobals "_law_p_at" = some (some (.ref (He.ga K "_law_p_at")))),
  decide (PySem.W.nsIn K mainGlobals "_law_p_moved" = some (some (.ref (He.ga K "_law_p_moved")))),
  decide (PySem.W.nsIn K mainGlobals "_law_drawn" = some (some (.ref (He.ga K "_law_drawn")))),
  decide (PySem.W.nsIn K mainGlobals "_law_v_plain" = some (some (.ref (He.ga K "_law_v_plain")))),
  decide (PySem.W.nsIn K mainGlobals "_law_v_plus" = some (some (.ref (He.ga K "_law_v_plus")))),
  decide (PySem.W.nsIn K mainGlobals "_law_v_scaled" = some (some (.ref (He.ga K "_law_v_scaled")))),
  decide (PySem.W.nsIn K mainGlobals "_law_v_times" = some (some (.ref (He.ga K "_law_v_times")))),
  decide (PySem.W.nsIn K mainGlobals "_law_q_power" = some (some (.ref (He.ga K "_law_q_power")))),
  decide (PySem.W.nsIn K mainGlobals "_law_v_at" = some (some (.ref (He.ga K "_law_v_at")))),
  decide (PySem.W.nsIn K mainGlobals "_law_v_of" = some (some (.ref (He.ga K "_law_v_of")))),
  decide (PySem.W.nsIn K mainGlobals "_law_v_rows" = some (some (.ref (He.ga K "_law_v_rows")))),
  decide (PySem.W.nsIn K mainGlobals "_law_made_plane" = some (some (.ref (He.ga K "_law_made_plane")))),
  decide (PySem.W.nsIn K mainGlobals "_law_v_drawn" = some (some (.ref (He.ga K "_law_v_drawn")))),
  decide (PySem.W.nsIn K mainGlobals "_law_place" = some (some (.ref (He.ga K "_law_place")))),
  decide (PySem.W.nsIn K mainGlobals "_law_fault" = some (some (.ref (He.ga K "_law_fault")))),
  decide (PySem.W.nsIn K mainGlobals "_law_made_field" = some (some (.ref (He.ga K "_law_made_field")))),
  decide (PySem.W.nsIn K mainGlobals "_law_x" = some (some (.ref (He.ga K "_law_x")))),
  decide (PySem.W.nsIn K mainGlobals "_law_y" = some (some (.ref (He.ga K "_law_y")))),
  decide (PySem.W.nsIn K mainGlobals "_law_some_field" = some (some (.ref (He.ga K "_law_some_field")))),
  decide (PySem.W.nsIn K mainGlobals "_law_easy_field" = some (some (.ref (He.ga K "_law_easy_field")))),
  decide (PySem.W.nsIn K mainGlobals "_law_easy_flow" = some (some (.ref (He.ga K "_law_easy_flow")))),
  decide (PySem.W.nsIn K mainGlobals "_law_row_times" = some (some (.ref (He.ga K "_law_row_times"))))]
def chk4 (K : PySem.W.Frag) : List Bool := [
  decide (PySem.W.nsIn K mainGlobals "_law_row_of" = some (some (.ref (He.ga K "_law_row_of")))),
  decide (PySem.W.nsIn K mainGlobals "_law_solves" = some (some (.ref (He.ga K "_law_solves")))),
  decide (PySem.W.nsIn K mainGlobals "law" = some (some (.ref (He.ga K "law")))),
  decide (PySem.W.specialIn K (.builtin "object.__class__") "__get__" = some (some (.builtin "getset_descriptor.__get__"))),
  decide (PySem.W.takesIn K (.builtin "object.__class__") = some true),
  decide (PySem.W.nsIn K mainGlobals "BadNumber" = some (some (.ref (He.ga K "BadNumber")))),
  decide (PySem.W.findIn K (.ref (He.ga K "BadNumber")) "__getattribute__" = some (some (.builtin "BaseException.__getattribute__"))),
  decide (PySem.W.findIn K (.ref (He.ga K "BadNumber")) "__getattr__" = some none),
  decide (PySem.W.subIn K (.ref (He.ga K "BadNumber")) (.type "BaseException") = some true),
  decide (PySem.W.hasDictIn K (He.ga K "BadNumber") = true),
  decide (PySem.W.findIn K (.ref (He.ga K "BadNumber")) "__class__" = some (some (.builtin "object.__class__"))),
  decide (PySem.W.mroIn K (He.ga K "BadNumber") (.type "object") = some true),
  decide (PySem.W.keepIn K (.ref (He.ga K "BadNumber")) = true),
  decide (PySem.W.findIn K (.ref (He.ga K "BadNumber")) "__setattr__" = some (some (.builtin "object.__setattr__"))),
  decide (PySem.W.typeIn K (.ref (He.ga K "BadNumber")) = some (.type "type")),
  decide (PySem.W.findIn K (.ref (He.ga K "BadNumber")) "__init__" = some (some (.ref (He.ma K (He.ga K "BadNumber") "__init__")))),
  decide (PySem.W.typeIn K (.ref (He.ma K (He.ga K "BadNumber") "__init__")) = some (.type "function")),
  decide (PySem.W.findIn K (.ref (He.ga K "BadNumber")) "what" = some none),
  decide (PySem.W.findIn K (.ref (He.ga K "BadNumber")) "number" = some none),
  decide (PySem.W.nsIn K mainGlobals "BadRow" = some (some (.ref (He.ga K "BadRow")))),
  decide (PySem.W.findIn K (.ref (He.ga K "BadRow")) "__getattribute__" = some (some (.builtin "BaseException.__getattribute__"))),
  decide (PySem.W.findIn K (.ref (He.ga K "BadRow")) "__getattr__" = some none),
  decide (PySem.W.subIn K (.ref (He.ga K "BadRow")) (.type "BaseException") = some true),
  decide (PySem.W.hasDictIn K (He.ga K "BadRow") = true),
  decide (PySem.W.findIn K (.ref (He.ga K "BadRow")) "__class__" = some (some (.builtin "object.__class__")))]
def chk5 (K : PySem.W.Frag) : List Bool := [
  decide (PySem.W.mroIn K (He.ga K "BadRow") (.type "object") = some true),
  decide (PySem.W.keepIn K (.ref (He.ga K "BadRow")) = true),
  decide (PySem.W.findIn K (.ref (He.ga K "BadRow")) "__setattr__" = some (some (.builtin "object.__setattr__"))),
  decide (PySem.W.typeIn K (.ref (He.ga K "BadRow")) = some (.type "type")),
  decide (PySem.W.findIn K (.ref (He.ga K "BadRow")) "__init__" = some (some (.ref (He.ma K (He.ga K "BadRow") "__init__")))),
  decide (PySem.W.typeIn K (.ref (He.ma K (He.ga K "BadRow") "__init__")) = some (.type "function")),
  decide (PySem.W.findIn K (.ref (He.ga K "BadRow")) "row" = some none),
  decide (PySem.W.exmOne K (.ref (He.ga K "BadNumber")) (.ref (He.ga K "BadNumber")) = some true),
  decide (PySem.W.exmOne K (.ref (He.ga K "BadRow")) (.ref (He.ga K "BadNumber")) = some false),
  decide (PySem.W.exmOne K (.ref (He.ga K "BadRow")) (.ref (He.ga K "BadRow")) = some true),
  decide (PySem.W.nsIn K mainGlobals "Plane" = some (some (.ref (He.ga K "Plane")))),
  decide (PySem.W.plainGet K (He.ga K "Plane") Str.empty = true),
  decide (PySem.W.hasDictIn K (He.ga K "Plane") = true),
  decide (PySem.W.plainOver K (He.ga K "Plane") = true),
  decide (PySem.W.findIn K (.ref (He.ga K "Plane")) "__setattr__" = some (some (.builtin "object.__setattr__"))),
  decide (PySem.W.makesIn K (He.ga K "Plane") = true),
  decide (PySem.W.keepIn K (.ref (He.ga K "Plane")) = true),
  decide (PySem.W.findIn K (.ref (He.ga K "Plane")) "rows" = some none),
  decide (PySem.W.findIn K (.ref (He.ga K "Plane")) "__init__" = some (some (.ref (He.ma K (He.ga K "Plane") "__init__")))),
  decide (PySem.W.isFn K (.ref (He.ma K (He.ga K "Plane") "__init__")) = true),
  decide (PySem.W.findIn K (.ref (He.ga K "Plane")) "__eq__" = some (some (.ref (He.ma K (He.ga K "Plane") "__eq__")))),
  decide (PySem.W.isFn K (.ref (He.ma K (He.ga K "Plane") "__eq__")) = true),
  decide (PySem.W.findIn K (.ref (He.ga K "Plane")) "__add__" = some (some (.ref (He.ma K (He.ga K "Plane") "__add__")))),
  decide (PySem.W.isFn K (.ref (He.ma K (He.ga K "Plane") "__add__")) = true),
  decide (PySem.W.findIn K (.ref (He.ga K "Plane")) "__radd__" = some (some (.ref (He.ma K (He.ga K "Plane") "__radd__"))))]
def chk6 (K : PySem.W.Frag) : List Bool := [
  decide (PySem.W.isFn K (.ref (He.ma K (He.ga K "Plane") "__radd__")) = true),
  decide (PySem.W.findIn K (.ref (He.ga K "Plane")) "__sub__" = some (some (.ref (He.ma K (He.ga K "Plane") "__sub__")))),
  decide (PySem.W.isFn K (.ref (He.ma K (He.ga K "Plane") "__sub__")) = true),
  decide (PySem.W.findIn K (.ref (He.ga K "Plane")) "__rsub__" = some (some (.ref (He.ma K (He.ga K "Plane") "__rsub__")))),
  decide (PySem.W.isFn K (.ref (He.ma K (He.ga K "Plane") "__rsub__")) = true),
  decide (PySem.W.findIn K (.ref (He.ga K "Plane")) "__mul__" = some (some (.ref (He.ma K (He.ga K "Plane") "__mul__")))),
  decide (PySem.W.isFn K (.ref (He.ma K (He.ga K "Plane") "__mul__")) = true),
  decide (PySem.W.findIn K (.ref (He.ga K "Plane")) "__rmul__" = some (some (.ref (He.ma K (He.ga K "Plane") "__rmul__")))),
  decide (PySem.W.isFn K (.ref (He.ma K (He.ga K "Plane") "__rmul__")) = true),
  decide (PySem.W.findIn K (.ref (He.ga K "Plane")) "__neg__" = some (some (.ref (He.ma K (He.ga K "Plane") "__neg__")))),
  decide (PySem.W.isFn K (.ref (He.ma K (He.ga K "Plane") "__neg__")) = true),
  decide (PySem.W.findIn K (.ref (He.ga K "Plane")) "degree" = some (some (.ref (He.ma K (He.ga K "Plane") "degree")))),
  decide (PySem.W.isFn K (.ref (He.ma K (He.ga K "Plane") "degree")) = true),
  decide (PySem.W.findIn K (.ref (He.ga K "Plane")) "at" = some (some (.ref (He.ma K (He.ga K "Plane") "at")))),
  decide (PySem.W.isFn K (.ref (He.ma K (He.ga K "Plane") "at")) = true),
  decide (PySem.W.findIn K (.ref (He.ga K "Plane")) "slope_x" = some (some (.ref (He.ma K (He.ga K "Plane") "slope_x")))),
  decide (PySem.W.isFn K (.ref (He.ma K (He.ga K "Plane") "slope_x")) = true),
  decide (PySem.W.findIn K (.ref (He.ga K "Plane")) "slope_y" = some (some (.ref (He.ma K (He.ga K "Plane") "slope_y")))),
  decide (PySem.W.isFn K (.ref (He.ma K (He.ga K "Plane") "slope_y")) = true),
  decide (PySem.W.findIn K (.ref (He.ga K "Plane")) "__class__" = some (some (.builtin "object.__class__"))),
  decide (PySem.W.mroIn K (He.ga K "Plane") (.type "object") = some true),
  decide (PySem.W.kitOne K (.type "int") (.ref (He.ga K "Plane")) = some false),
  decide (PySem.W.subIn K (.type "int") (.ref (He.ga K "Plane")) = some false),
  decide (PySem.W.kitOne K (.type "tuple") (.ref (He.ga K "Plane")) = some false),
  decide (PySem.W.subIn K (.type "tuple") (.ref (He.ga K "Plane")) = some false)]
def chk7 (K : PySem.W.Frag) : List Bool := [
  decide (PySem.W.selfFirst K (He.ga K "Plane") = true),
  decide (PySem.W.kitOne K (.ref (He.ga K "Plane")) (.type "list") = some false),
  decide (PySem.W.subIn K (.ref (He.ga K "Plane")) (.type "int") = some false),
  decide (PySem.W.findIn K (.type "int") "__add__" = some ((PySem.W.findIn K (.type "int") "__add__").getD none)),
  decide (PySem.W.findIn K (.type "int") "__radd__" = some ((PySem.W.findIn K (.type "int") "__radd__").getD none)),
  decide (((((PySem.W.findIn K (.type "int") "__add__").getD none).isSome && !isSeqSlot ((PySem.W.findIn K (.type "int") "__add__").getD none)) || (((PySem.W.findIn K (.type "int") "__radd__").getD none).isSome && !isSeqSlot ((PySem.W.findIn K (.type "int") "__radd__").getD none))) = true),
  decide (PySem.W.findIn K (.type "int") "__sub__" = some ((PySem.W.findIn K (.type "int") "__sub__").getD none)),
  decide (PySem.W.findIn K (.type "int") "__rsub__" = some ((PySem.W.findIn K (.type "int") "__rsub__").getD none)),
  decide (((((PySem.W.findIn K (.type "int") "__sub__").getD none).isSome && !isSeqSlot ((PySem.W.findIn K (.type "int") "__sub__").getD none)) || (((PySem.W.findIn K (.type "int") "__rsub__").getD none).isSome && !isSeqSlot ((PySem.W.findIn K (.type "int") "__rsub__").getD none))) = true),
  decide (PySem.W.findIn K (.type "int") "__mul__" = some ((PySem.W.findIn K (.type "int") "__mul__").getD none)),
  decide (PySem.W.findIn K (.type "int") "__rmul__" = some ((PySem.W.findIn K (.type "int") "__rmul__").getD none)),
  decide (((((PySem.W.findIn K (.type "int") "__mul__").getD none).isSome && !isSeqSlot ((PySem.W.findIn K (.type "int") "__mul__").getD none)) || (((PySem.W.findIn K (.type "int") "__rmul__").getD none).isSome && !isSeqSlot ((PySem.W.findIn K (.type "int") "__rmul__").getD none))) = true),
  decide (PySem.W.subIn K (.ref (He.ga K "Plane")) (.type "tuple") = some false),
  decide (PySem.W.findIn K (.type "tuple") "__add__" = some ((PySem.W.findIn K (.type "tuple") "__add__").getD none)),
  decide (PySem.W.findIn K (.type "tuple") "__radd__" = some ((PySem.W.findIn K (.type "tuple") "__radd__").getD none)),
  decide (((((PySem.W.findIn K (.type "tuple") "__add__").getD none).isSome && !isSeqSlot ((PySem.W.findIn K (.type "tuple") "__add__").getD none)) || (((PySem.W.findIn K (.type "tuple") "__radd__").getD none).isSome && !isSeqSlot ((PySem.W.findIn K (.type "tuple") "__radd__").getD none))) = false),
  decide (PySem.W.findIn K (.type "tuple") "__sub__" = some ((PySem.W.findIn K (.type "tuple") "__sub__").getD none)),
  decide (PySem.W.findIn K (.type "tuple") "__rsub__" = some ((PySem.W.findIn K (.type "tuple") "__rsub__").getD none)),
  decide (((((PySem.W.findIn K (.type "tuple") "__sub__").getD none).isSome && !isSeqSlot ((PySem.W.findIn K (.type "tuple") "__sub__").getD none)) || (((PySem.W.findIn K (.type "tuple") "__rsub__").getD none).isSome && !isSeqSlot ((PySem.W.findIn K (.type "tuple") "__rsub__").getD none))) = false),
  decide (PySem.W.findIn K (.type "tuple") "__mul__" = some ((PySem.W.findIn K (.type "tuple") "__mul__").getD none)),
  decide (PySem.W.findIn K (.type "tuple") "__rmul__" = some ((PySem.W.findIn K (.type "tuple") "__rmul__").getD none)),
  decide (((((PySem.W.findIn K (.type "tuple") "__mul__").getD none).isSome && !isSeqSlot ((PySem.W.findIn K (.type "tuple") "__mul__").getD none)) || (((PySem.W.findIn K (.type "tuple") "__rmul__").getD none).isSome && !isSeqSlot ((PySem.W.findIn K (.type "tuple") "__rmul__").getD none))) = false),
  decide (PySem.W.nsIn K mainGlobals "Field" = some (some (.ref (He.ga K "Field")))),
  decide (PySem.W.plainGet K (He.ga K "Field") Str.empty = true),
  decide (PySem.W.hasDictIn K (He.ga K "Field") = true)]
def chk8 (K : PySem.W.Frag) : List Bool := [
  decide (PySem.W.plainOver K (He.ga K "Field") = true),
  decide (PySem.W.findIn K (.ref (He.ga K "Field")) "__setattr__" = some (some (.builtin "object.__setattr__"))),
  decide (PySem.W.makesIn K (He.ga K "Field") = true),
  decide (PySem.W.keepIn K (.ref (He.ga K "Field")) = true),
  decide (PySem.W.findIn K (.ref (He.ga K "Field")) "p" = some none),
  decide (PySem.W.findIn K (.ref (He.ga K "Field")) "q" = some none),
  decide (PySem.W.findIn K (.ref (He.ga K "Field")) "__init__" = some (some (.ref (He.ma K (He.ga K "Field") "__init__")))),
  decide (PySem.W.isFn K (.ref (He.ma K (He.ga K "Field") "__init__")) = true),
  decide (PySem.W.findIn K (.ref (He.ga K "Field")) "__eq__" = some (some (.ref (He.ma K (He.ga K "Field") "__eq__")))),
  decide (PySem.W.isFn K (.ref (He.ma K (He.ga K "Field") "__eq__")) = true),
  decide (PySem.W.findIn K (.ref (He.ga K "Field")) "__class__" = some (some (.builtin "object.__class__"))),
  decide (PySem.W.mroIn K (He.ga K "Field") (.type "object") = some true),
  decide (PySem.W.kitOne K (.type "int") (.ref (He.ga K "Field")) = some false),
  decide (PySem.W.subIn K (.type "int") (.ref (He.ga K "Field")) = some false),
  decide (PySem.W.kitOne K (.type "tuple") (.ref (He.ga K "Field")) = some false),
  decide (PySem.W.subIn K (.type "tuple") (.ref (He.ga K "Field")) = some false),
  decide (PySem.W.kitOne K (.ref (He.ga K "Field")) (.ref (He.ga K "Field")) = some true)]
def ex (K : PySem.W.Frag) : Bool := ((chk0 K).all id && ((chk1 K).all id && ((chk2 K).all id && ((chk3 K).all id && ((chk4 K).all id && ((chk5 K).all id && ((chk6 K).all id && ((chk7 K).all id && (chk8 K).all id))))))))
def fn0 : List He.DefD := [
  GL.gDef "is_ratio" sis_ratio,
  GL.gDef "told" stold,
  GL.gDef "plus" splus,
  GL.gDef "times" stimes,
  GL.gDef "is_integer" sis_integer,
  GL.gDef "_parts" s_parts,
  GL.gDef "_lowest" s_lowest,
  GL.gDef "is_from" sis_from,
  GL.gDef "is_row" sis_row,
  GL.gDef "is_row_of" sis_row_of,
  GL.gDef "is_place" sis_place,
  GL.gDef "pair_of" spair_of,
  GL.gDef "place_of" splace_of,
  GL.gDef "is_strict_ratio" sis_strict_ratio,
  GL.gDef "held" sheld,
  GL.gDef "bottom_of" sbottom_of,
  GL.gDef "whole_row" swhole_row,
  GL.gDef "whole_rows" swhole_rows,
  GL.gDef "top_power" stop_power,
  GL.gDef "total" stotal,
  GL.gDef "_joined" s_joined,
  GL.gDef "row_product" srow_product,
  GL.gDef "_beside" s_beside,
  GL.gDef "_number" s_number,
  GL.gDef "_sum" s_sum]
def fn1 : List He.DefD := [
  GL.gDef "_product" s_product,
  GL.gDef "_are_rows" s_are_rows,
  GL.gDef "_shortened" s_shortened,
  GL.gDef "_plane_beside" s_plane_beside,
  GL.gDef "_row" s_row,
  GL.gDef "_plane_sum" s_plane_sum,
  GL.gDef "_row_sum" s_row_sum,
  GL.gDef "_plane_product" s_plane_product,
  GL.gDef "_facing" s_facing,
  GL.gDef "_product_row" s_product_row,
  GL.gDef "_crossed_pairs" s_crossed_pairs,
  GL.gDef "_value_at" s_value_at,
  GL.gDef "_scaled" s_scaled,
  GL.gDef "moved_whole" smoved_whole,
  GL.gDef "_times_line" s_times_line,
  GL.gDef "_plane_of_numbers" s_plane_of_numbers,
  GL.gDef "slope_along" sslope_along,
  GL.gDef "series" sseries,
  GL.gDef "_law_pen" s_law_pen,
  GL.gDef "_law_draw" s_law_draw,
  GL.gDef "_law_pick" s_law_pick,
  GL.gDef "_law_gcd" s_law_gcd,
  GL.gDef "_law_q" s_law_q,
  GL.gDef "_law_plus" s_law_plus,
  GL.gDef "_law_times" s_law_times]
def fn2 : List He.DefD := [
  GL.gDef "_law_share" s_law_share,
  GL.gDef "_law_passed" s_law_passed,
  GL.gDef "_law_ratio" s_law_ratio,
  GL.gDef "_law_poly" s_law_poly,
  GL.gDef "_law_p_plus" s_law_p_plus,
  GL.gDef "_law_p_times" s_law_p_times,
  GL.gDef "_law_p_at" s_law_p_at,
  GL.gDef "_law_p_moved" s_law_p_moved,
  GL.gDef "_law_drawn" s_law_drawn,
  GL.gDef "_law_v_plain" s_law_v_plain,
  GL.gDef "_law_v_plus" s_law_v_plus,
  GL.gDef "_law_v_scaled" s_law_v_scaled,
  GL.gDef "_law_v_times" s_law_v_times,
  GL.gDef "_law_q_power" s_law_q_power,
  GL.gDef "_law_v_at" s_law_v_at,
  GL.gDef "_law_v_of" s_law_v_of,
  GL.gDef "_law_v_rows" s_law_v_rows,
  GL.gDef "_law_made_plane" s_law_made_plane,
  GL.gDef "_law_v_drawn" s_law_v_drawn,
  GL.gDef "_law_place" s_law_place,
  GL.gDef "_law_fault" s_law_fault,
  GL.gDef "_law_made_field" s_law_made_field,
  GL.gDef "_law_x" s_law_x,
  GL.gDef "_law_y" s_law_y,
  GL.gDef "_law_some_field" s_law_some_field]
def fn3 : List He.DefD := [
  GL.gDef "_law_easy_field" s_law_easy_field,
  GL.gDef "_law_easy_flow" s_law_easy_flow,
  GL.gDef "_law_row_times" s_law_row_times,
  GL.gDef "_law_row_of" s_law_row_of,
  GL.gDef "_law_solves" s_law_solves,
  GL.gDef "law" slaw,
  GL.mDef "BadNumber" "__init__" "BadNumber.__init__" (inClass (top 3) 0),
  GL.mDef "BadRow" "__init__" "BadRow.__init__" (inClass (top 4) 0),
  GL.mDef "Plane" "__init__" "Plane.__init__" (inClass tPlane 0),
  GL.mDef "Plane" "__eq__" "Plane.__eq__" (inClass tPlane 1),
  GL.mDef "Plane" "__add__" "Plane.__add__" (inClass tPlane 2),
  GL.mDef "Plane" "__radd__" "Plane.__radd__" (inClass tPlane 3),
  GL.mDef "Plane" "__sub__" "Plane.__sub__" (inClass tPlane 4),
  GL.mDef "Plane" "__rsub__" "Plane.__rsub__" (inClass tPlane 5),
  GL.mDef "Plane" "__mul__" "Plane.__mul__" (inClass tPlane 6),
  GL.mDef "Plane" "__rmul__" "Plane.__rmul__" (inClass tPlane 7),
  GL.mDef "Plane" "__neg__" "Plane.__neg__" (inClass tPlane 8),
  GL.mDef "Plane" "degree" "Plane.degree" (inClass tPlane 9),
  GL.mDef "Plane" "at" "Plane.at" (inClass tPlane 10),
  GL.mDef "Plane" "slope_x" "Plane.slope_x" (inClass tPlane 11),
  GL.mDef "Plane" "slope_y" "Plane.slope_y" (inClass tPlane 12),
  GL.mDef "Field" "__init__" "Field.__init__" (inClass tField 0),
  GL.mDef "Field" "__eq__" "Field.__eq__" (inClass tField 1)]
def fn : List He.DefD := fn0 ++ fn1 ++ fn2 ++ fn3
def tf : List He.Defn := [("law", none)]
abbrev R : PySem.W.OpenRow := PySem.W.OpenLaw.row PySem.Challenge.rw_flowpapers_k16_whole_series
abbrev hk : PySem.W.Hook := GL.hookC fn tf ex
def ob (s : PySem.W.SharedT) : He.AlD × Bool := (GL.obsP fn (HandSHeadRun.getT s), GL.obsQ tf ex (HandSHeadRun.getT s))
theorem ob_eq (s : PySem.W.SharedT) : ob s = hk.obs s.abs := GL.hookC_eq s
def nm0 : List Str := ["__name__", "FlowError", "BadNumber", "BadRow", "is_ratio", "told", "plus", "times", "is_integer", "_parts", "_lowest", "is_from", "is_row", "is_row_of", "is_place", "pair_of", "place_of", "is_strict_ratio", "held", "bottom_of", "whole_row", "whole_rows", "top_power", "total", "_joined", "row_product", "Poly", "_beside", "_number", "_sum"]
def nm1 : List Str := ["_product", "Plane", "_are_rows", "_shortened", "_plane_beside", "_row", "_plane_sum", "_row_sum", "_plane_product", "_facing", "_product_row", "_crossed_pairs", "_value_at", "_scaled", "moved_whole", "_times_line", "_plane_of_numbers", "Field", "slope_along", "series", "_law_pen", "_law_draw", "_law_pick", "_law_gcd", "_law_q", "_law_plus", "_law_times", "_law_share", "_law_passed", "_law_ratio"]
def nm2 : List Str := ["_law_poly", "_law_p_plus", "_law_p_times", "_law_p_at", "_law_p_moved", "_law_drawn", "_law_v_plain", "_law_v_plus", "_law_v_scaled", "_law_v_times", "_law_q_power", "_law_v_at", "_law_v_of", "_law_v_rows", "_law_made_plane", "_law_v_drawn", "_law_place", "_law_fault", "_law_made_field", "_law_x", "_law_y", "_law_some_field", "_law_easy_field", "_law_easy_flow", "_law_row_times", "_law_row_of", "_law_solves"]
def names : List Str := nm0 ++ nm1 ++ nm2
set_option maxHeartbeats 0 in
theorem runA (w : World) : HandSHeadRun.RunEqI R (PySem.W.view R.prog [0, 95]) PySem.W.Hook.none (fun _ => ()) 20000 names w := by
  delta HandSHeadRun.RunEqI
  kernel_rfl
set_option maxHeartbeats 0 in
theorem runP (w : World) : (HandSHeadRun.wholeF (fun p => HandSHeadRun.stepQ (HandSHeadRun.denQ HandSHeadRun.tabQ) p w) HandSHeadRun.fenceQ 20000 R.prog).map (fun x => GL.obsP fn (HandSHeadRun.getT x.2)) = some (He.valD fn) := by
  kernel_rfl
set_option maxHeartbeats 0 in
theorem runQ (w : World) : (HandSHeadRun.wholeF (fun p => HandSHeadRun.stepQ (HandSHeadRun.denQ HandSHeadRun.tabQ) p w) HandSHeadRun.fenceQ 20000 R.prog).map (fun x => GL.obsQ tf ex (HandSHeadRun.getT x.2)) = some true := by
  kernel_rfl
theorem run (w : World) : HandSHeadRun.RunEqI R (PySem.W.view R.prog [0, 95]) hk ob 20000 names w := by
  delta HandSHeadRun.RunEqI
  exact GL.join4 (runA w) (runP w) (runQ w)
end LW

/-! Instances of an own class under operators: two of them, one beside a value of a built-in class on either side; -x; ==. -/
namespace GL
open PySem PySem.Spec PyProof.Rows L2
section
variable {P : Program} {w : World} {A : Around} {E : Value → Shared → Prop} {s : Shared} {K : PySem.W.Frag} {x C B f : Addr} {base : Heap} {mp : Str → Option Value} {ox : Obj} {od : Option Obj} {T : String}
theorem try_own {Q : Option Value → Shared → Prop} {name : Str} {b : Value} (X : K.In s.heap) (I : PySem.W.InstAt s.heap x ox C od) (hs : PySem.W.findIn K (.ref C) name = some (some (.ref f))) (hf : PySem.W.isFn K (.ref f) = true)
    (h : wpAny (model P w) A (call (.ref f) [.ref x, b]) (PySem.W.CmpBack fun v s' => Q (some v) s') E s) : wpAny (model P w) A (tryMethod (.ref x) name b) Q E s := by
  unfold tryMethod
  refine wpAny_bind (PySem.W.special_fn X I hs (beq_iff_eq.mp hf) (wpAny_mono h (fun v s' hv => ?_) fun _ _ e => e))
  cases v <;> first | exact hv.elim | exact wpAny_pure hv
/-- what the classes tell of x op b, b of the built-in class T -/
structure OpT (K : PySem.W.Frag) (C f : Addr) (T : String) (op : Operator) : Prop where
  me : PySem.W.selfFirst K C = true
  at_ : PySem.W.findIn K (.ref C) (PySem.dunder op.info.2) = some (some (.ref f))
  fn : PySem.W.isFn K (.ref f) = true
  rc : ∃ g : Addr, PySem.W.findIn K (.ref C) (dunderR op.info.2) = some (some (.ref g))
  lo : ∃ fo, PySem.W.findIn K (.type T) (PySem.dunder op.info.2) = some fo
  ro : ∃ ro, PySem.W.findIn K (.type T) (dunderR op.info.2) = some ro
  sub : PySem.W.subIn K (.type T) (.ref C) = some false
/-- .. of a op x, a of the built-in class T -/
structure OpR' (K : PySem.W.Frag) (C f : Addr) (T : String) (op : Operator) (k : Bool) : Prop where
  me : PySem.W.selfFirst K C = true
  lf : ∃ g : Addr, PySem.W.findIn K (.ref C) (PySem.dunder op.info.2) = some (some (.ref g))
  at_ : PySem.W.findIn K (.ref C) (dunderR op.info.2) = some (some (.ref f))
  fn : PySem.W.isFn K (.ref f) = true
  lr : ∃ fo ro, PySem.W.findIn K (.type T) (PySem.dunder op.info.2) = some fo ∧ PySem.W.findIn K (.type T) (dunderR op.info.2) = some ro ∧ ((fo.isSome && !isSeqSlot fo) || (ro.isSome && !isSeqSlot ro)) = k
  sub : PySem.W.subIn K (.ref C) (.type T) = some false
theorem bin_right {op : Operator} {k : Bool} {a : Value} {Q : Value → Shared → Prop} (F : Fr base B s.heap mp) (X0 : K.In base) (I : PySem.W.InstAt s.heap x ox C od) (ha : PySem.W.Looks (model P w) s.heap (typeOf a) (.type T)) (o : OpR' K C f T op k)
    (hno : k = true → ∀ Q', Q' none s → wpAny (model P w) A (tryMethod a (PySem.dunder op.info.2) (.ref x)) Q' E s)
    (h : wpAny (model P w) A (call (.ref f) [.ref x, a]) (PySem.W.CmpBack Q) E s) : wpAny (model P w) A (binaryOp op a (.ref x)) Q E s := by
  obtain ⟨hc, ⟨lf, hl⟩, hs, hf, ⟨fo, ro, h1, h2, hk⟩, hsub⟩ := o
  have X := X0.keeps F.keep
  obtain ⟨cd, rest, hcd, hm⟩ := PySem.W.ksp_first hc
  rcases hi : op.info with ⟨sym, nm⟩
  rw [hi] at hs hl h1 h2 hno
  dsimp only at hs hl h1 h2 hno
  have one : wpAny (model P w) A (tryMethod (.ref x) (dunderR nm) a) (fun r s' => ∃ v, r = some v ∧ Q v s') E s := try_own X I hs hf (wpAny_mono h (fun v s' z => by cases v <;> first | exact z.elim | exact ⟨_, rfl, z⟩) fun _ _ e => e)
  obtain ⟨hh, g, d, tt, os⟩ := s
  have a1 := I.type (M := model P w)
  have a3 : PySem.W.Looks (model P w) hh (fillsNumberSlot (.ref C) nm) true := PySem.W.fills_K X hcd hm hl
  have a4 : PySem.W.Looks (model P w) hh (fillsNumberSlot (.type T) nm) _ := PySem.W.ksp_fillsT X h1 h2
  have a5 := PySem.W.looks_subIn (M := model P w) X hsub
  have a7 : PySem.W.Looks (model P w) hh (numberSlotInPython (.type T) nm) false := .of_pure rfl
  rw [hk] at a4
  have ne : (Value.type T == Value.ref C) = false := Bool.eq_false_iff.mpr fun q => by cases beq_iff_eq.mp q
  simp only [binaryOp, hi]
  refine wpAny_holding (wpAny_bind ?_)
  unfold binaryOp1
  refine wpAny_bind (ha.at (wpAny_bind (a1.at (wpAny_bind (a4.at ?_)))))
  simp only [ne, Bool.false_eq_true, if_false]
  cases k
  · ksp_lk
    refine wpAny_mono one (fun r s' q => ?_) fun _ _ e => e
    obtain ⟨v, rfl, q⟩ := q
    ksp_lk
    exact q
  · ksp_lk
    refine hno rfl _ ?_
    ksp_lk
    refine wpAny_mono one (fun r s' q => ?_) fun _ _ e => e
    obtain ⟨v, rfl, q⟩ := q
    ksp_lk
    exact q
end
end GL

namespace GL
open PySem PySem.Spec PyProof.Rows L2
/-! ### over the layer -/
/-- the value is of the built-in class T -/
inductive OfT (H : Hp) : V → String → Prop
  | int (i : Int) : OfT H (.int i) "int"
  | tup {q : Addr} {xs : List V} (e : H q = some (.tup xs)) : OfT H (.ref q) "tuple"
section
variable {X : Cx} {pins : List (Addr × Obj)} {σ : L2.St} {H : Hp} {s : Shared} {C f : Addr} {k : Nat} {fd : FuncData} {ps : List Str} {sp : Sp}
theorem OfT.looks (I : Inv X pins σ H s) {y : V} {u : Value} {T : String} (h : OfT H y T) (r : RelV y u) : PySem.W.Looks (model X.prog X.w) s.heap (typeOf u) (.type T) := by
  cases h with
  | int i =>
    obtain ⟨t, rfl⟩ := r
    exact .of_pure rfl
  | tup e =>
    cases r
    obtain ⟨its, rv, ⟨o, ho, hc, n, hd⟩, _⟩ := I.tuple (SqT.of e)
    have q := PySem.W.Looks.ld (M := model X.prog X.w) (part := none) ho
    rw [← hc]
    exact q.andThen .now
/-- x op y by a def at f of the class of x or y, what comes out being an object -/
def obQ (Q : VK) : VK := fun v H => (∃ a, v = .ref a) ∧ Q v H
theorem back_ob {Q : VK} {v : Value} {s' : Shared} (h : EP X pins σ (obQ Q) v s') : PySem.W.CmpBack (EP X pins σ Q) v s' := by
  obtain ⟨x, H', I, r, ⟨a, rfl⟩, q⟩ := h
  cases r
  exact ⟨.ref a, H', I, rfl, q⟩
structure OpI (K : PySem.W.Frag) (C f : Addr) (op : Operator) : Prop where
  me : PySem.W.selfFirst K C = true
  at_ : PySem.W.findIn K (.ref C) (PySem.dunder op.info.2) = some (some (.ref f))
  fn : PySem.W.isFn K (.ref f) = true
theorem fin_ob {a : Addr} {y : V} {u : Value} {Q : VK} (F : FnOk X.prog X.w X.K X.mg X.base CX0 k f fd ps sp) (hr : Room k X.A) (hb : L2.Binds X.K fd ps []) (I : Inv X pins σ H s) (r : RelV y u) (h : sp [.ref a, y] H (obQ Q) E0) :
    wpAny (model X.prog X.w) X.A (call (.ref f) [.ref a, u]) (PySem.W.CmpBack (EP X pins σ Q)) X.xe s :=
  wpAny_mono (run_fn (us := [.ref a, u]) (vs := [.ref a, y]) (dvs := []) F hr hb .nil pass0 I (.cons rfl (.cons r .nil)) h) (fun _ _ z => back_ob z) fun _ _ e => e
/-- of two instances -/
theorem op_two {op : Operator} (o : OpI X.K C f op) (F : FnOk X.prog X.w X.K X.mg X.base CX0 k f fd ps sp) (hr : Room k X.A) (hb : L2.Binds X.K fd ps []) :
    OpR X (binaryOp op) fun x y H Q => ∃ a dx fs b dy gs, x = .ref a ∧ y = .ref b ∧ H a = some (.ins C dx fs) ∧ H b = some (.ins C dy gs) ∧ sp [x, y] H (obQ Q) E0 := by
  intro pins s σ H x y u v Q I rx ry h
  obtain ⟨a, dx, fs, b, dy, gs, rfl, rfl, ha, hb', q⟩ := h
  cases rx
  cases ry
  obtain ⟨mA, J, _⟩ := ins_get I.hok ha
  obtain ⟨mB, J', _⟩ := ins_get I.hok hb'
  obtain ⟨od, J, _⟩ := J.look
  obtain ⟨od', J', _⟩ := J'.look
  obtain ⟨m, hF⟩ := I.fr
  exact PySem.W.binop_K hF I.ok.mod.kin J J'.type o.me o.at_ o.fn (fin_ob (y := .ref b) (u := .ref b) F hr hb I rfl q)
theorem op_rightT {op : Operator} (o : OpR' X.K C f "tuple" op false) (F : FnOk X.prog X.w X.K X.mg X.base CX0 k f fd ps sp) (hr : Room k X.A) (hb : L2.Binds X.K fd ps []) :
    OpR X (binaryOp op) fun x y H Q => ∃ a dx fs q xs, y = .ref a ∧ H a = some (.ins C dx fs) ∧ x = .ref q ∧ H q = some (.tup xs) ∧ sp [y, x] H (obQ Q) E0 := by
  intro pins s σ H x y u v Q I rx ry h
  obtain ⟨a, dx, fs, p, xs, rfl, ha, rfl, hp, q⟩ := h
  cases ry
  obtain ⟨mA, J, _⟩ := ins_get I.hok ha
  obtain ⟨od, J, _⟩ := J.look
  obtain ⟨m, hF⟩ := I.fr
  exact bin_right hF I.ok.mod.kin J ((OfT.tup hp).looks I rx) o (fun z => nomatch z) (fin_ob F hr hb I rx q)
/-- what is never come to -/
theorem pe_never {e : Expr} : PE X e (fun _ _ _ => False) := ⟨fun _ _ _ _ _ _ h => h.elim⟩
end
end GL

/-! list(zip(a, b)) of two lists, or of two tuples, of one length -/
namespace ZL
open PySem PySem.Spec PyProof.Rows L2
/-- a walk over a sequence -/
structure Cur (It : Heap → Addr → Addr → Nat → Prop) (Src : Heap → Addr → Array Value → Prop) : Prop where
  item : ∀ {prog : Program} {w : World} {A : Around} {E : Value → Shared → Prop} {s : Shared} {it l : Addr} {i : Nat} {xs : Array Value} {x : Value} {Q : Value → Shared → Prop}, It s.heap it l i → Src s.heap l xs → xs[i]? = some x →
    (∀ h', It h' it l (i + 1) → Heap.SameBut it s.heap h' → Q x { s with heap := h' }) → wpAny (model prog w) A (Builtin.SmallTypes.nextOf (.ref it)) Q E s
  stop : ∀ {prog : Program} {w : World} {A : Around} {E : Value → Shared → Prop} {s : Shared} {it l : Addr} {i : Nat} {xs : Array Value} {Q : Value → Shared → Prop}, A.handled = none → It s.heap it l i → Src s.heap l xs → xs[i]? = none →
    (∀ h' e, Heap.ExtBut it s.heap h' → (∃ o, h'.get? e = some o ∧ o.cls = .type "StopIteration") → E (.ref e) { s with heap := h' }) → wpAny (model prog w) A (Builtin.SmallTypes.nextOf (.ref it)) Q E s
  itk : ∀ {h h' : Heap} {it l : Addr} {k : Nat}, It h it l k → (∀ o, h.get? it = some o → h'.get? it = some o) → It h' it l k
  srk : ∀ {h h' : Heap} {l : Addr} {xs : Array Value}, Src h l xs → (∀ o, h.get? l = some o → h'.get? l = some o) → Src h' l xs
  first : ∀ {prog : Program} {w : World} {A : Around} {E : Value → Shared → Prop} {s : Shared} {z TI TO i1 i2 l1 l2 : Addr} {k1 k2 : Nat} {xs ys : Array Value} {x y a b : Value} {Q : Option Value → Shared → Prop}, ZipApart z TI TO i1 i2 l1 l2 →
    IsZip s.heap z TI TO .none → IsPair s.heap TI (.ref i1) (.ref i2) → IsPair s.heap TO a b → It s.heap i1 l1 k1 → It s.heap i2 l2 k2 → Src s.heap l1 xs → Src s.heap l2 ys → xs[k1]? = some x → ys[k2]? = some y →
    (∀ h', IsZip h' z TI TO (rawInt s.heap.objs.size) → IsPair h' TO x y → It h' i1 l1 (k1 + 1) → It h' i2 l2 (k2 + 1) → IsPair h' s.heap.objs.size x y → h'.objs.size = s.heap.objs.size + 1 →
      (∀ c o, c ≠ z → c ≠ TO → c ≠ i1 → c ≠ i2 → s.heap.get? c = some o → h'.get? c = some o) → Q (some (.ref s.heap.objs.size)) { s with heap := h' }) → wpAny (model prog w) A (pyNext (.ref z)) Q E s
  none : ∀ {prog : Program} {w : World} {A : Around} {E : Value → Shared → Prop} {s : Shared} {z TI TO i1 i2 l1 l2 : Addr} {k1 k2 : Nat} {xs ys : Array Value} {a b : Value} {Q : Option Value → Shared → Prop}, A.handled = none → ZipApart z TI TO i1 i2 l1 l2 →
    IsZip s.heap z TI TO .none → IsPair s.heap TI (.ref i1) (.ref i2) → IsPair s.heap TO a b → It s.heap i1 l1 k1 → It s.heap i2 l2 k2 → Src s.heap l1 xs → Src s.heap l2 ys → xs[k1]? = none ∨ ys[k2]? = none →
    (∀ h', (∀ c o, c ≠ z → c ≠ TO → c ≠ i1 → c ≠ i2 → s.heap.get? c = some o → h'.get? c = some o) → Q none { s with heap := h' }) → wpAny (model prog w) A (pyNext (.ref z)) Q E s
section
variable {It : Heap → Addr → Addr → Nat → Prop} {Src : Heap → Addr → Array Value → Prop} {prog : Program} {w : World} {A : Around} {E : Value → Shared → Prop} {s : Shared}
variable {z TI TO T i1 i2 l1 l2 : Addr} {f : Bool} {oT : Obj} {k1 k2 : Nat} {xs ys : Array Value}
end
/-- the pairs so far -/
structure Prs (S : Addr) (xs ys : Array Value) (i : Nat) (h : Heap) (acc : Array Value) : Prop where
  sz : acc.size = i
  pr : ∀ (j : Nat) (x y : Value), j < i → xs[j]? = some x → ys[j]? = some y → ∃ T, acc[j]? = some (.ref T) ∧ S < T ∧ IsPair h T x y
  inc : ∀ (j k : Nat) (T T' : Addr), j < k → acc[j]? = some (.ref T) → acc[k]? = some (.ref T') → T < T'
  lt : ∀ (j : Nat) (T : Addr), acc[j]? = some (.ref T) → T < h.objs.size
  ge : ∀ (j : Nat) (T : Addr), acc[j]? = some (.ref T) → S < T
structure Zst (It : Heap → Addr → Addr → Nat → Prop) (Src : Heap → Addr → Array Value → Prop) (h0 : Heap) (S z TI TO i1 i2 l1 l2 : Addr) (xs ys : Array Value) (i : Nat) (h : Heap) (acc : Array Value) : Prop where
  zf : (IsZip h z TI TO .none ∧ ∃ a b, IsPair h TO a b) ∨ ∃ T f oT, IsZipHeld h z TI TO T f ∧ h.get? T = some oT ∧ S < T
  ti : IsPair h TI (.ref i1) (.ref i2)
  a1 : It h i1 l1 i
  a2 : It h i2 l2 i
  m1 : Src h l1 xs
  m2 : Src h l2 ys
  ps : Prs S xs ys i h acc
  kp : ∀ b o, b ≠ z → b ≠ TO → b ≠ i1 → b ≠ i2 → b ≠ S → h0.get? b = some o → h.get? b = some o
end ZL

namespace LW
open PySem PySem.Spec PyProof.Rows L2 GL
section
variable {P : Program} {w : World} {K : PySem.W.Frag} {mg : Str → Option Value} {base : Heap}
theorem pi_or {X : Cx} {tg iter : Expr} {w1 w2 : TI} (h1 : PI X tg iter w1) (h2 : PI X tg iter w2) : PI X tg iter (fun σ H R => w1 σ H R ∨ w2 σ H R) := ⟨fun pins s σ H R I h => h.elim (h1.run pins s σ H R I) (h2.run pins s σ H R I)⟩
/-- a list or a tuple -/
def Seq (K : PySem.W.Frag) (H : Hp) (a : Addr) (xs : List V) : Prop := SqL K H a xs ∨ SqT K H a xs
theorem Sq.seq {K : PySem.W.Frag} {H : Hp} {a : Addr} {xs : List V} (h : Sq H a xs) : Seq K H a xs := h.elim (fun z => .inl (SqL.of z)) fun z => .inr (SqT.of z)
/-- one turn of a comprehension: what is stored in its names, then its item -/
def Turn1 (g : TG) (te : TE) (vs : List Nat) (σ : L2.St) (x : V) (H : Hp) (R : V → Hp → Prop) : Prop := ∀ K' : L2.St → Hp → Prop, (∀ σ2, wipe σ2 vs = wipe σ vs → EM te σ2 H R → K' σ2 H) → g x (wipe σ vs) H K'
theorem turn_name {te : TE} {vs : List Nat} {σ : L2.St} {x : V} {H : Hp} {R : V → Hp → Prop} {j : Nat} (hw : wipe ((wipe σ vs).set j (some x)) vs = wipe σ vs) (h : EM te ((wipe σ vs).set j (some x)) H R) : Turn1 (gName j) te vs σ x H R := fun K' k => k _ hw h
theorem turn_two {K : PySem.W.Frag} {te : TE} {vs : List Nat} {σ : L2.St} {x y : V} {t : Addr} {H : Hp} {R : V → Hp → Prop} {i j : Nat} (ht : SqT K H t [x, y]) (hw : wipe (((wipe σ vs).set i (some x)).set j (some y)) vs = wipe σ vs) (h : EM te (((wipe σ vs).set i (some x)).set j (some y)) H R) :
    Turn1 (gTup K 2 (gCons (gName i) (gCons (gName j) gNil))) te vs σ (.ref t) H R := fun K' k => g_two ht (k _ hw h)
theorem em_val {te : TE} {σ : L2.St} {H : Hp} {v : V} {R : V → Hp → Prop} (h : Val te σ H v) (r : R v H) : EM te σ H R := fun Q q => h _ (q v H (Same.refl H) r)
section
variable {σ : L2.St} {H : Hp} {g : TG} {te ti : TE} {vs : List Nat} {Q : VK} {a : Addr} {xs : List V} {R : Nat → V → Hp → Prop}
/-- what the comprehension's list holds -/
def LcP (R : Nat → V → Hp → Prop) (H : Hp) (D : Addr) (i : Nat) (H' : Hp) : Prop := ∃ ys, Same H H' ∧ H' D = some (.lst ys) ∧ H D = none ∧ Rows R 0 i ys H'
/-- a change of a list leaves it -/
def Off (R : Nat → V → Hp → Prop) : Prop := ∀ k v H D ys zs, R k v H → H D = some (.lst ys) → R k v (upd H D (.lst zs))
theorem Run.off (of : Off R) {H : Hp} {D : Addr} {ws zs : List V} (e : H D = some (.lst ws)) : ∀ {k : Nat} {ys : List V}, Run R k ys H → Run R k ys (upd H D (.lst zs))
  | _, [], _ => trivial
  | _, _ :: _, ⟨x, y⟩ => ⟨of _ _ _ _ _ _ x e, Run.off of e y⟩
theorem lc_step (st : ∀ k, Stays (R k)) (of : Off R) {x : V} {i : Nat} {D : Addr} {H1 : Hp} (p : LcP R H D i H1) (hn : i < 10000) (ht : Same H H1 → Turn1 g te vs σ x H1 (R i)) :
    g x (wipe σ vs) H1 fun σ2 H2 => wipe σ2 vs = wipe σ vs ∧ tYes σ2 H2 fun b H3 => if b = true then te σ2 H3 fun y H4 => ∃ acc, H4 D = some (.lst acc) ∧ acc.length < sizeLine ∧ LcP R H D (i + 1) (upd H4 D (.lst (acc ++ [y]))) else LcP R H D (i + 1) H3 := by
  obtain ⟨ys, s, e, nD, r⟩ := p
  refine ht s _ fun σ2 hw em => ⟨hw, ?_⟩
  show (if true = true then te _ _ _ else LcP R H D (i + 1) H1)
  rw [if_pos rfl]
  refine em _ fun v H4 s4 rv => ⟨ys, s4 _ _ e, by rw [r.2]; exact Nat.lt_of_lt_of_le hn (by decide), ys ++ [v], ?_, upd_same, nD, ?_⟩
  · intro b o z
    rw [upd_ne (ne_of_none z nD)]
    exact s4 _ _ (s b o z)
  · have r4 := Rows.stays st ys H1 H4 s4 r
    refine ⟨Run.off of (s4 _ _ e) (Run.app r4.1 ⟨?_, trivial⟩), by rw [List.length_append, r4.2]; rfl⟩
    rw [r4.2, Nat.zero_add]
    exact rv
/-- [e for .. in xs] -/
theorem l_lcS (st : ∀ k, Stays (R k)) (of : Off R) (h : Val ti σ H (.ref a)) (hx : Seq K H a xs) (hn : xs.length ≤ 10000) (hs : ∀ i x H1, xs[i]? = some x → Same H H1 → Turn1 g te vs σ x H1 (R i))
    (q : ∀ p ys H', Same H H' → H' p = some (.lst ys) → Rows R 0 xs.length ys H' → Q (.ref p) H') : tLc (fun σ H R => iList K ti σ H R ∨ iTup K ti σ H R) g tYes te vs σ H Q := by
  have start : ∀ D, H D = none → LcP R H D 0 (upd H D (.lst [])) := fun D hD => ⟨[], Same.new' hD, upd_same, hD, trivial, rfl⟩
  have fin : ∀ D H1, LcP R H D xs.length H1 → Q (.ref D) H1 := fun D H1 ⟨ys, s, e, _, r⟩ => q D ys H1 s e r
  have step : ∀ D i x H1, xs[i]? = some x → LcP R H D i H1 → _ := fun D i x H1 e p => lc_step (g := g) (te := te) (vs := vs) (σ := σ) st of p (by
    have := (List.getElem?_eq_some_iff.mp e).1
    omega) (hs i x H1 e)
  rcases hx with hx | hx
  · exact .inl (h _ ⟨a, rfl, ⟨xs, hx⟩, fun D hD => lc_list (K := K) (a := a) (xs := xs) (LcP R H D) (start D hD) (fun i H1 _ p => p.choose_spec.1.seq hx) (step D) (fun H1 p => fin D H1 p)⟩)
  · exact .inr (h _ ⟨a, rfl, ⟨xs, hx⟩, fun D hD => lc_tup (K := K) (a := a) (xs := xs) (LcP R H D) (start D hD) (fun i H1 _ p => sqt_same p.choose_spec.1 hx) (step D) (fun H1 p => fin D H1 p)⟩)
theorem l_lcL (st : ∀ k, Stays (R k)) (of : Off R) (h : Val ti σ H (.ref a)) (hx : SqL K H a xs) (hn : xs.length ≤ 10000) (hs : ∀ i x H1, xs[i]? = some x → Same H H1 → Turn1 g te vs σ x H1 (R i))
    (q : ∀ p ys H', Same H H' → H' p = some (.lst ys) → Rows R 0 xs.length ys H' → Q (.ref p) H') : tLc (iList K ti) g tYes te vs σ H Q :=
  h _ ⟨a, rfl, ⟨xs, hx⟩, fun D hD => lc_list (K := K) (a := a) (xs := xs) (LcP R H D) ⟨[], Same.new' hD, upd_same, hD, trivial, rfl⟩ (fun i H1 _ p => p.choose_spec.1.seq hx) (fun i x H1 e p => lc_step st of p (by
    have := (List.getElem?_eq_some_iff.mp e).1
    omega) (hs i x H1 e)) (fun H1 ⟨ys, s, e, _, r⟩ => q D ys H1 s e r)⟩
theorem l_lcR {n : Nat} {ta : TA} (st : ∀ k, Stays (R k)) (of : Off R) (h : VA ta σ H [.int (n : Int)]) (hn : n ≤ 10000) (hs : ∀ i H1, i < n → Same H H1 → Turn1 g te vs σ (.int (i : Int)) H1 (R i))
    (q : ∀ p ys H', Same H H' → H' p = some (.lst ys) → Rows R 0 n ys H' → Q (.ref p) H') : tLc (iRng1 ta) g tYes te vs σ H Q := by
  refine h _ ⟨(n : Int), rfl, by omega, by omega, fun D hD => lc_range (lo := 0) (n := (n : Int).toNat) (LcP R H D) ⟨[], Same.new' hD, upd_same, hD, trivial, rfl⟩ (fun i H1 hi p => ?_) (fun H1 ⟨ys, s, e, _, r⟩ => q D ys H1 s e (by rw [Int.toNat_natCast] at r; exact r))⟩
  rw [Int.zero_add]
  exact lc_step st of p (by omega) (hs i H1 (by omega))
theorem l_lcR2 {lo : Int} {n : Nat} {ta : TA} (st : ∀ k, Stays (R k)) (of : Off R) (h : VA ta σ H [.int lo, .int (lo + (n : Int))]) (h0 : 0 ≤ lo) (h1 : lo ≤ 10000) (hn : n ≤ 10000) (hs : ∀ i H1, i < n → Same H H1 → Turn1 g te vs σ (.int (lo + (i : Int))) H1 (R i))
    (q : ∀ p ys H', Same H H' → H' p = some (.lst ys) → Rows R 0 n ys H' → Q (.ref p) H') : tLc (iRng2 ta) g tYes te vs σ H Q := by
  have e : (lo + (n : Int) - lo).toNat = n := by omega
  refine h _ ⟨lo, lo + n, rfl, ⟨by omega, by omega, by omega, by omega⟩, fun D hD => lc_range (lo := lo) (n := (lo + (n : Int) - lo).toNat) (LcP R H D) ⟨[], Same.new' hD, upd_same, hD, trivial, rfl⟩ (fun i H1 hi p => ?_) (fun H1 ⟨ys, s, e2, _, r⟩ => q D ys H1 s e2 (by rw [e] at r; exact r))⟩
  exact lc_step st of p (by omega) (hs i H1 (by omega))
end

/-! ### ratios as values -/
def Lo (H : Hp) (t : Addr) (q : Rat) : Prop := H t = some (.tup [.int q.num, .int (q.den : Int)])
def Rq (H : Hp) (v : V) (q : Rat) : Prop := ∃ i j, Rt H v i j ∧ Fit i j ∧ q = Rat.divInt i j
theorem Lo.same {H H' : Hp} {t : Addr} {q : Rat} (h : Lo H t q) (s : Same H H') : Lo H' t q := s _ _ h
theorem Rq.same {H H' : Hp} {v : V} {q : Rat} (h : Rq H v q) (s : Same H H') : Rq H' v q := by
  obtain ⟨i, j, r, f, e⟩ := h
  exact ⟨i, j, r.same s, f, e⟩
theorem low_rat (i : Int) {j : Int} (hj : 0 < j) : i / gI i j = (Rat.divInt i j).num ∧ j / gI i j = ((Rat.divInt i j).den : Int) := by
  have g : (Int.gcd j i : Int) = gI i j := by
    unfold gI Int.gcd
    rw [Nat.gcd_comm]
  constructor
  · rw [Rat.num_divInt, Int.sign_eq_one_of_pos hj, Int.one_mul, g]
  · rw [Rat.den_divInt, if_neg (by omega), Int.natCast_ediv, g]
    congr 1
    omega
/-- below 2 ^ n -/
def Sm (n : Nat) (q : Rat) : Prop := q.num.natAbs < 2 ^ n ∧ q.den < 2 ^ n
theorem Sm.mono {n m : Nat} {q : Rat} (h : Sm n q) (l : n ≤ m) : Sm m q := ⟨Nat.lt_of_lt_of_le h.1 (Nat.pow_le_pow_right (by decide) l), Nat.lt_of_lt_of_le h.2 (Nat.pow_le_pow_right (by decide) l)⟩
theorem Sm.fit {n : Nat} {q : Rat} (h : Sm n q) (l : n ≤ 1000) : Fit q.num (q.den : Int) := ⟨(h.mono l).1, by rw [Int.natAbs_natCast]; exact (h.mono l).2⟩
theorem Lo.rt {H : Hp} {t : Addr} {q : Rat} (h : Lo H t q) : Rt H (.ref t) q.num (q.den : Int) := .pair (.inr h) (by have := q.den_pos; omega)
theorem Lo.rq {H : Hp} {t : Addr} {q : Rat} {n : Nat} (h : Lo H t q) (b : Sm n q) (l : n ≤ 1000) : Rq H (.ref t) q := ⟨_, _, h.rt, b.fit l, by rw [Rat.divInt_ofNat, Rat.mkRat_self]⟩
theorem Rq.yes {H : Hp} {v : V} {q : Rat} (h : Rq H v q) : RatQ H v true := by
  obtain ⟨i, j, r, f, e⟩ := h
  exact r.yes
section
variable {σ : L2.St} {H : Hp} {ta : TA} {v u wh : V} {q r : Rat} {Q : VK} {E : XK}
theorem c_told (h : VA ta σ H [v, wh]) (r : Rq H v q) (k : ∀ p H', Same H H' → Lo H' p q → Q (.ref p) H') : tCall (sp_told mg) [] E ta σ H Q := by
  obtain ⟨i, j, rt, f, e⟩ := r
  refine c_call h ⟨v, wh, rfl, .inl ⟨i, j, rt, f, fun p H' s z => k p H' s ?_⟩⟩
  rw [(low_rat i rt.pos).1, (low_rat i rt.pos).2, ← e] at z
  exact z
theorem c_plus (h : VA ta σ H [v, u]) (a : Rq H v q) (b : Rq H u r) (k : ∀ p H', Same H H' → Lo H' p (q + r) → Q (.ref p) H') : tCall (sp_plus mg) [] E ta σ H Q := by
  obtain ⟨i, j, rt, f, e⟩ := a
  obtain ⟨i', j', rt', f', e'⟩ := b
  refine c_call h ⟨v, u, rfl, .inl ⟨i, j, i', j', rt, rt', f, f', fun p H' s z => k p H' s ?_⟩⟩
  have hj := rt.pos
  have hj' := rt'.pos
  have hl := low_rat (i * j' + i' * j) (Int.mul_pos hj hj')
  rw [hl.1, hl.2] at z
  unfold Lo
  rw [e, e', Rat.divInt_add_divInt _ _ (by omega) (by omega)]
  exact z
theorem c_times (h : VA ta σ H [v, u]) (a : Rq H v q) (b : Rq H u r) (k : ∀ p H', Same H H' → Lo H' p (q * r) → Q (.ref p) H') : tCall (sp_times mg) [] E ta σ H Q := by
  obtain ⟨i, j, rt, f, e⟩ := a
  obtain ⟨i', j', rt', f', e'⟩ := b
  refine c_call h ⟨v, u, rfl, .inl ⟨i, j, i', j', rt, rt', f, f', fun p H' s z => k p H' s ?_⟩⟩
  have hl := low_rat (i * i') (Int.mul_pos rt.pos rt'.pos)
  rw [hl.1, hl.2] at z
  unfold Lo
  rw [e, e', Rat.divInt_mul_divInt]
  exact z
end

/-! ### rows -/
inductive All2 {α β : Type} (R : α → β → Prop) : List α → List β → Prop
  | nil : All2 R [] []
  | cons {a : α} {b : β} {as : List α} {bs : List β} (h : R a b) (t : All2 R as bs) : All2 R (a :: as) (b :: bs)
theorem All2.imp {α β : Type} {R S : α → β → Prop} (f : ∀ a b, R a b → S a b) {as : List α} {bs : List β} (h : All2 R as bs) : All2 S as bs := by
  induction h with
  | nil => exact .nil
  | cons h _ ih => exact .cons (f _ _ h) ih
theorem All2.len {α β : Type} {R : α → β → Prop} {as : List α} {bs : List β} (h : All2 R as bs) : as.length = bs.length := by
  induction h with
  | nil => rfl
  | cons _ _ ih => rw [List.length_cons, List.length_cons, ih]
theorem All2.get {α β : Type} {R : α → β → Prop} {as : List α} {bs : List β} (h : All2 R as bs) : ∀ {i : Nat} {a : α}, as[i]? = some a → ∃ b, bs[i]? = some b ∧ R a b := by
  induction h with
  | nil => intro i a e; simp at e
  | cons h _ ih =>
    intro i a e
    cases i with
    | zero => simp at e; subst e; exact ⟨_, rfl, h⟩
    | succ i => simp at e; obtain ⟨b, hb, r⟩ := ih e; exact ⟨b, by simpa using hb, r⟩
theorem All2.mk {α β : Type} {R : α → β → Prop} : ∀ {as : List α} {bs : List β}, as.length = bs.length → (∀ (i : Nat) (a : α) (b : β), as[i]? = some a → bs[i]? = some b → R a b) → All2 R as bs
  | [], [], _, _ => .nil
  | a :: as, b :: bs, e, h => .cons (h 0 a b rfl rfl) (All2.mk (as := as) (bs := bs) (by simpa using e) fun (i : Nat) x y h1 h2 => h (i + 1) x y (by simpa using h1) (by simpa using h2))
theorem rows_map {β : Type} {f : β → V} {bs : List β} {n : Nat} {ys : List V} {H : Hp} (r : Rows (fun i v _ => ∃ b, bs[i]? = some b ∧ v = f b) 0 n ys H) (e : bs.length = n) : ys = bs.map f := by
  refine List.ext_getElem? fun i => ?_
  rw [List.getElem?_map]
  cases h : ys[i]? with
  | some v =>
    obtain ⟨b, hb, rfl⟩ := r.1.get h
    rw [Nat.zero_add] at hb
    rw [hb]
    rfl
  | none =>
    have h1 := List.getElem?_eq_none_iff.mp h
    have h2 : bs.length ≤ i := by rw [e, ← r.2]; exact h1
    rw [List.getElem?_eq_none_iff.mpr h2]
    rfl
/-- what is_row answers -/
def spRow (K : PySem.W.Frag) : Sp := fun vs H Q _ => ∃ v, vs = [v] ∧ ((∃ n, Is H v n ∧ n ≠ "list" ∧ n ≠ "tuple" ∧ ∀ H', Same H H' → Q (.bl false) H') ∨ ∃ a xs bs, v = .ref a ∧ Sq H a xs ∧ xs.length ≤ 1000 ∧ All2 (RatQ H) xs bs ∧ ∀ H', Same H H' → Q (.bl (bs.all id)) H')
theorem ok_is_row (T : Txt K mg) : FnOk P w K mg base CX0 5 (fA mg "is_row") (fDat K (fA mg "is_row")) ["value"] (spRow K) := by
  have Gis_ratio := ok_is_ratio (P := P) (w := w) (base := base) T
  refine T.is_row.F.ok scis_row (fun vs H Q E h => ?_) (fun cdv A outer s H vs Q E hr h => ?_)
  · obtain ⟨v, rfl, _⟩ := h
    rfl
  obtain ⟨v, rfl, h⟩ := h
  refine ⟨_, (pss_one (ps_ret (pe_and (pe_callB call_isiT (by rfl) T.isinstance (by decide +kernel) (pa_cons (pv 0) (pa_cons (pe_tup (pa_cons (pe_bltn (v := .ty "tuple") (by rfl) T.tuple (by decide +kernel) rfl) (pa_cons (pe_bltn (v := .ty "list") (by rfl) T.list (by decide +kernel) rfl) pa_nil))) pa_nil))) (pe_one (pe_callB (cr_all rfl) (by rfl) T.all (by decide +kernel) (pa_cons (pe_lc (own := [("number", 1)]) (g := gName 1) (tt := tYes) (by rfl) scis_row.nd (pi_or (pi_list (pv 0)) (pi_tup (pv 0))) (blkOk_by (own := [("number", 1)]) (N := ["value", "number"]) (sc := defScope sis_row) (by decide +kernel)) (fun _ _ _ _ _ => pg_name (i := 1) scis_row.nd rfl (Or.inl rfl)) (fun _ _ _ _ _ => pts_nil) (fun _ _ _ _ _ => (pe_c T.is_ratio Gis_ratio (hr.mono (by decide)) (pa_cons (pv 1) pa_nil)))) pa_nil)))))), ?_⟩
  have both : ∀ {n : String} {Q' : VK}, Is H v n → (∀ H2, Same H H2 → Q' (.bl (decide (n = "tuple") || decide (n = "list"))) H2) →
      tCB (rIsiT K) (tCons (tVar 0) (tCons (tTup (tCons (tC (.ty "tuple")) (tCons (tC (.ty "list")) tNil))) tNil)) [some v, none] H Q' := fun {n Q'} i q =>
    ⟨v, rfl, ⟨by show 2 ≤ sizeLine; decide, fun p hp => ⟨v, p, [.ty "tuple", .ty "list"], _, [.type "tuple", .type "list"], _, rfl, upd_same, .cons (.ty _) (.cons (.ty _) .nil), (i.same (Same.new' hp)).ty.1, kit_seq (i.ty (K := K)).2, q _ (Same.new' hp)⟩⟩⟩
  refine r_ret ?_
  rcases h with ⟨n, i, n1, n2, k⟩ | ⟨a, xs, bs, rfl, hS, hl, hR, k⟩
  · refine both i fun H2 s2 => ⟨_, rfl, ?_⟩
    rw [decide_eq_false n2, decide_eq_false n1]
    exact iteF (k H2 s2)
  · obtain ⟨n, i, o⟩ := hS.is
    refine both i fun H2 s2 => ⟨_, rfl, ?_⟩
    have e : (decide (n = "tuple") || decide (n = "list")) = true := by rcases o with rfl | rfl <;> decide
    rw [e]
    refine iteT (cb_one ?_)
    refine l_lcS (R := fun i v _ => ∃ b, bs[i]? = some b ∧ v = V.bl b) (fun _ _ _ _ _ h => h) (fun _ _ _ _ _ _ h _ => h) (val_var rfl) (hS.same s2).seq (by omega) (fun i x H3 e s3 => turn_name rfl fun Q q => ?_) (fun p ys H4 s4 e4 r4 => ⟨p, bs, rfl, ?_, k H4 (s2.trans s4)⟩)
    · obtain ⟨b, hb, rb⟩ := hR.get e
      exact c_call (va_cons (val_var rfl) va_nil) ⟨x, b, rfl, rb.same (s2.trans s3), fun H' s' => q _ H' s' ⟨b, hb, rfl⟩⟩
    · rw [← rows_map r4 hR.len.symm]
      exact SqL.of e4

/-! ### whole rows -/
def rLcm : List V → Hp → VK → Prop := fun vs H Q => ∃ a b : Int, vs = [.int a, .int b] ∧ a.natAbs < 2 ^ 6000 ∧ b.natAbs < 2 ^ 6000 ∧ Q (.int ((Nat.lcm a.natAbs b.natAbs : Nat) : Int)) H
theorem log_6000 {n : Nat} (h : n < 2 ^ 6000) : n.log2 < 6000 := by
  rcases Nat.eq_zero_or_pos n with z | z
  · rw [z]; decide
  · exact (Nat.log2_lt (by omega)).mpr h
theorem cr_lcm {X : Cx} : CallR X (.builtin "math.lcm") rLcm := by
  intro pins s σ H vs us Q I r h
  obtain ⟨a, b, rfl, ha, hb, q⟩ := h
  obtain ⟨t, u, rfl⟩ := Vals.int2 r
  have one : Nat.lcm 1 a.natAbs = a.natAbs := by simp [Nat.lcm]
  have h1 := log_6000 (n := max 1 a.natAbs) (by have : (1 : Nat) < 2 ^ 6000 := Nat.one_lt_two_pow (by decide); omega)
  have h2 := log_6000 (n := max a.natAbs b.natAbs) (by omega)
  have h3 : ((((Nat.lcm 1 a.natAbs).lcm b.natAbs : Nat) : Int)).natAbs.log2 < bitsLine := by
    rw [one, Int.natAbs_natCast]
    have l : a.natAbs.lcm b.natAbs ≤ a.natAbs * b.natAbs := Nat.div_le_self _ _
    have m : a.natAbs * b.natAbs < 2 ^ 12000 := by
      rw [show 12000 = 6000 + 6000 from rfl, Nat.pow_add]
      exact Nat.mul_lt_mul'' ha hb
    refine Nat.lt_of_lt_of_le (m := 12000) ?_ (by decide)
    rcases Nat.eq_zero_or_pos (a.natAbs.lcm b.natAbs) with z | z
    · rw [z]; decide
    · exact (Nat.log2_lt (by omega)).mpr (Nat.lt_of_le_of_lt l m)
  refine PySem.call_function_meets PySem.W.MGF.kind_lcm PySem.W.MGF.plain_lcm PySem.W.MGF.entry_lcm (PySem.W.MGF.args_lcm _ _) (PySem.W.mg_run_lcm a t b u (by omega) (by omega) h3).meets ?_
  rw [one]
  exact ⟨.int _, H, I.tok _, ⟨_, rfl⟩, q⟩
/-- a tuple of told ratios -/
def Los (H : Hp) (t : Addr) (xs : List Rat) : Prop := ∃ vs, H t = some (.tup vs) ∧ All2 (fun v q => ∃ p, v = .ref p ∧ Lo H p q) vs xs
theorem Los.same {H H' : Hp} {t : Addr} {xs : List Rat} (h : Los H t xs) (s : Same H H') : Los H' t xs := by
  obtain ⟨vs, e, a⟩ := h
  exact ⟨vs, s _ _ e, a.imp fun v q ⟨p, e, l⟩ => ⟨p, e, l.same s⟩⟩
def Sms (n : Nat) (xs : List Rat) : Prop := ∀ q ∈ xs, Sm n q
theorem get_mem {α : Type} {xs : List α} {i : Nat} {a : α} (h : xs[i]? = some a) : a ∈ xs := List.mem_of_getElem? h
/-! ### rows without zeros at their end -/
def tlen : List Rat → Nat
  | [] => 0
  | q :: r => if tlen r = 0 then (if q = 0 then 0 else 1) else tlen r + 1
def trim (xs : List Rat) : List Rat := xs.take (tlen xs)
theorem tlen_le : ∀ xs, tlen xs ≤ xs.length
  | [] => Nat.le_refl _
  | q :: r => by
    have := tlen_le r
    rw [tlen, List.length_cons]
    split
    · split <;> omega
    · omega
theorem tlen_of : ∀ {xs : List Rat} {k : Nat}, k ≤ xs.length → (∀ i q, k ≤ i → xs[i]? = some q → q = 0) → (k = 0 ∨ ∃ q, xs[k - 1]? = some q ∧ q ≠ 0) → tlen xs = k
  | [], k, h, _, _ => by
    have : k = 0 := by simpa using h
    rw [this]; rfl
  | q :: r, 0, _, h, _ => by
    have h0 : q = 0 := h 0 q (Nat.le_refl _) rfl
    have hr : tlen r = 0 := tlen_of (Nat.zero_le _) (fun i p _ e => h (i + 1) p (Nat.zero_le _) (by simpa using e)) (.inl rfl)
    rw [tlen, if_pos hr, if_pos h0]
  | q :: r, k + 1, hl, h, hk => by
    obtain ⟨p, e, hp⟩ := hk.resolve_left (by omega)
    have hr : tlen r = k := by
      refine tlen_of (by simpa using hl) (fun i p hi e => h (i + 1) p (by omega) (by simpa using e)) ?_
      rcases Nat.eq_zero_or_pos k with z | z
      · exact .inl z
      · refine .inr ⟨p, ?_, hp⟩
        obtain ⟨j, rfl⟩ : ∃ j, k = j + 1 := ⟨k - 1, by omega⟩
        simpa using e
    rw [tlen, hr]
    rcases Nat.eq_zero_or_pos k with z | z
    · subst z
      have e0 : q = p := by simpa using e
      rw [if_pos rfl, if_neg (by rw [e0]; exact hp)]
    · rw [if_neg (by omega)]
def spTop : Sp := fun vs H Q _ => ∃ (l : Addr) (ns : List Int) (xs : List Rat), vs = [.ref l] ∧ SqL K H l (ns.map V.int) ∧ ns.length ≤ 10000 ∧ All2 (fun n q => n = 0 ↔ q = 0) ns xs ∧ Q (.int ((tlen xs : Int) - 1)) H
theorem ok_top_power (T : Txt K mg) : FnOk P w K mg base CX0 1 (fA mg "top_power") (fDat K (fA mg "top_power")) ["tops"] (spTop (K := K)) := by
  refine T.top_power.F.ok sctop_power (fun vs H Q E h => ?_) (fun cdv A outer s H vs Q E hr h => ?_)
  · obtain ⟨l, ns, xs, rfl, _⟩ := h
    rfl
  obtain ⟨l, ns, xs, rfl, hl, hn, al, k⟩ := h
  refine ⟨_, (pss_cons (ps_set (i := 1) sctop_power.nd rfl (Or.inl rfl) (pe_op op_sub (pe_callB call_len_seq (by rfl) T.len PySem.boot_len (pa_cons (pv 0) pa_nil)) pe_int))
  (pss_cons (ps_while PassesOwn.never (PW.pt (pw_and (pt_cmpR op_ge (pv 1) pe_int (nomark _)) (pw_and1 (pt_cmpR op_eq (pe_ix ix_list (pv 0) (pv 1) (fun _ _ => rfl)) pe_int (nomark _)))))
  (pss_one (ps_set (i := 1) sctop_power.nd rfl (Or.inl rfl) (pe_op op_sub (pv 1) pe_int))))
  (pss_one (ps_ret (pv 1))))), ?_⟩
  refine q_set (v_sub (v_len (xs := ns.map V.int) (val_var rfl) (.inl hl)) val_c) ?_
  rw [List.length_map]
  refine ⟨fun m σ' H' => H' = H ∧ σ' = [some (.ref l), some (.int ((m : Int) - 1))] ∧ m ≤ ns.length ∧ ∀ i q, m ≤ i → xs[i]? = some q → q = 0, ⟨ns.length, rfl, rfl, Nat.le_refl _, fun i q hi e => ?_⟩, fun m σ' H' z => ?_⟩
  · have := (List.getElem?_eq_some_iff.mp e).1
    rw [al.len] at hi
    omega
  · obtain ⟨rfl, rfl, hm, hz⟩ := z
    rcases Nat.eq_zero_or_pos m with m0 | m0
    · subst m0
      refine (a_I (i := ((0 : Nat) : Int) - 1) (j := 0) (val_var rfl) val_c) _ ?_
      refine iteF (iteF ?_)
      have e : tlen xs = 0 := tlen_of (Nat.zero_le _) hz (.inl rfl)
      rw [e] at k
      exact st_ret (val_var rfl) k
    · obtain ⟨j, rfl⟩ : ∃ j, m = j + 1 := ⟨m - 1, by omega⟩
      have ej : ((j + 1 : Nat) : Int) - 1 = (j : Int) := by omega
      rw [ej]
      refine (a_I (i := (j : Int)) (j := 0) (val_var rfl) val_c) _ ?_
      rw [decide_eq_true (by omega : (0 : Int) ≤ (j : Int))]
      refine iteT ?_
      have lj : j < ns.length := by omega
      obtain ⟨q, hq, hiff⟩ := al.get (List.getElem?_eq_getElem lj)
      refine (ans_eq (x := .int ns[j]) (y := .int 0) (b := decide (ns[j] = 0)) (v_ixL (n := j) (v := .int ns[j]) (val_var rfl) (val_var rfl) hl (by rw [List.getElem?_map, List.getElem?_eq_getElem lj]; rfl)) val_c rfl (by simp)) _ ?_
      by_cases h0 : ns[j] = 0
      · rw [decide_eq_true h0]
        refine iteT ⟨fun σ'' H'' => H'' = H' ∧ σ'' = [some (.ref l), some (.int ((j : Int) - 1))], fun σ'' H'' z => ⟨j, by omega, z.1, z.2, by omega, fun i p hi e => ?_⟩, ?_⟩
        · rcases Nat.lt_or_ge j i with lt | ge
          · exact hz i p lt e
          · have : i = j := by omega
            subst this
            rw [hq] at e
            cases e
            exact hiff.mp h0
        · exact (v_sub (val_var rfl) val_c) _ ⟨rfl, rfl⟩
      · rw [decide_eq_false h0]
        refine iteF ?_
        have e : tlen xs = j + 1 := tlen_of (by rw [← al.len]; exact hm) hz (.inr ⟨q, by simpa using hq, fun z => h0 (hiff.mpr z)⟩)
        rw [e, ej] at k
        exact st_ret (val_var rfl) k


/-! ### own classes -/
@[irreducible] def mA (K : PySem.W.Frag) (C : Addr) (m : Str) : Addr := match PySem.W.findIn K (.ref C) m with
  | some (some (.ref f)) => f
  | _ => 0
theorem mA_of {K : PySem.W.Frag} {C f : Addr} {m : Str} (h : PySem.W.findIn K (.ref C) m = some (some (.ref f))) : mA K C m = f := by
  unfold mA
  rw [h]
/-- a def of the class -/
structure Me (K : PySem.W.Frag) (C : Addr) (m qual : Str) (st : Stmt) (ps : List Str) : Prop where
  at_ : PySem.W.findIn K (.ref C) m = some (some (.ref (mA K C m)))
  fn : PySem.W.isFn K (.ref (mA K C m)) = true
  F : Fun K m qual st (mA K C m) (fDat K (mA K C m))
  b : L2.Binds K (fDat K (mA K C m)) ps []
theorem scI_BadRow : FnScope ["self", "row"] ["self", "row"] (defScope (inClass tBadRow 0)) := ⟨rfl, rfl, rfl, by decide +kernel, rfl, by decide +kernel, by decide +kernel⟩
theorem init_BadRow (T : Txt K mg) : FnOk P w K mg base CX0 1 (iA K (fA mg "BadRow")) (fDat K (iA K (fA mg "BadRow"))) ["self", "row"] (spI1 (fA mg "BadRow") "row") := by
  refine T.BadRow.F.ok scI_BadRow (fun vs H Q E h => ?_) (fun cdv A outer s H vs Q E hr h => ?_)
  · obtain ⟨a, v, rfl, _⟩ := h
    rfl
  · obtain ⟨a, v, rfl, ha, k⟩ := h
    exact ⟨_, pss_one (ps_ost (pv 0) (pv 1)), s_ost1 T.BadRow.o (T.BadRow.n _ (by simp)) ha rfl rfl k⟩
theorem x_made1 {σ : L2.St} {H : Hp} {ta : TA} {C : Addr} {f : Str} {v : V} {Q : XK} (h : VA ta σ H [v]) (k : ∀ d H', Same H H' → H d = none → H' d = some (.xd [(f, v)]) → Q (.ref C) (some d) H') : tMkO C (spI1 C f) [] ta σ H Q :=
  h _ ⟨by show 1 ≤ 1000; decide, fun a ha => ⟨a, v, rfl, upd_same, fun dx hd ne => by
    rw [upd_ne ne] at hd
    refine ⟨rfl, dx, _, upd_same, by rw [upd_ne ne, upd_same], hd, k dx _ (fun b o e => ?_) hd upd_same⟩
    have hb : b ≠ a := ne_of_none e ha
    have hb2 : b ≠ dx := ne_of_none e hd
    rw [upd_ne hb2, del_ne hb, upd_ne hb, upd_ne hb2, upd_ne hb]
    exact e⟩⟩
def BadR (mg : Str → Option Value) (H : Hp) (a : Addr) (v : V) (E : XK) : Prop := ∀ (d : Addr) (H' : Hp), (∀ b o, H b = some o → b ≠ a → H' b = some o) → H d = none → H' d = some (.xd [("row", v)]) → E (.ref (fA mg "BadRow")) (some d) H'
theorem all_true {α : Type} (ws : List α) : ((ws.map fun _ => true).all id) = true := by
  induction ws with
  | nil => rfl
  | cons _ _ ih => simpa using ih
theorem tlen_last : ∀ {xs : List Rat} {k : Nat}, tlen xs = k + 1 → ∃ q, xs[k]? = some q ∧ q ≠ 0
  | [], k, h => by simp [tlen] at h
  | q :: r, k, h => by
    rw [tlen] at h
    split at h
    · split at h
      · omega
      · rename_i hq
        obtain rfl : k = 0 := by omega
        exact ⟨q, rfl, hq⟩
    · obtain ⟨j, rfl⟩ : ∃ j, k = j + 1 := ⟨k - 1, by omega⟩
      obtain ⟨p, e, hp⟩ := tlen_last (xs := r) (k := j) (by omega)
      exact ⟨p, by simpa using e, hp⟩
theorem tlen_zero : ∀ {xs : List Rat} {i : Nat} {q : Rat}, tlen xs ≤ i → xs[i]? = some q → q = 0
  | [], i, q, _, e => by simp at e
  | p :: r, i, q, h, e => by
    rw [tlen] at h
    cases i with
    | zero =>
      split at h
      · split at h
        · rename_i hp
          simp at e
          rw [← e]; exact hp
        · omega
      · omega
    | succ i =>
      refine tlen_zero (xs := r) (i := i) ?_ (by simpa using e)
      split at h
      · omega
      · omega
theorem trim_len (xs : List Rat) : (trim xs).length = tlen xs := by
  unfold trim
  rw [List.length_take]
  have := tlen_le xs
  omega
theorem tlen_trim (xs : List Rat) : tlen (trim xs) = (trim xs).length := by
  refine tlen_of (Nat.le_refl _) (fun i q hi e => ?_) ?_
  · have := (List.getElem?_eq_some_iff.mp e).1
    omega
  · rw [trim_len]
    rcases Nat.eq_zero_or_pos (tlen xs) with z | z
    · exact .inl z
    · obtain ⟨k, hk⟩ : ∃ k, tlen xs = k + 1 := ⟨tlen xs - 1, by omega⟩
      obtain ⟨q, e, hq⟩ := tlen_last hk
      refine .inr ⟨q, ?_, hq⟩
      unfold trim
      rw [hk, Nat.add_sub_cancel, List.getElem?_take, if_pos (Nat.lt_succ_self k)]
      exact e
/-- the number at a power -/
def co (xs : List Rat) (i : Nat) : Rat := xs.getD i 0
theorem co_some {xs : List Rat} {i : Nat} {q : Rat} (h : xs[i]? = some q) : co xs i = q := by
  unfold co
  rw [List.getD_eq_getElem?_getD, h]
  rfl
theorem co_none {xs : List Rat} {i : Nat} (h : xs.length ≤ i) : co xs i = 0 := by
  unfold co
  rw [List.getD_eq_getElem?_getD, List.getElem?_eq_none_iff.mpr h]
  rfl
theorem co_trim (xs : List Rat) (i : Nat) : co (trim xs) i = co xs i := by
  rcases Nat.lt_or_ge i (tlen xs) with lt | ge
  · have l := tlen_le xs
    have e : xs[i]? = some xs[i] := List.getElem?_eq_getElem (by omega)
    rw [co_some e]
    refine co_some ?_
    unfold trim
    rw [List.getElem?_take, if_pos lt, e]
  · rw [co_none (by rw [trim_len]; exact ge)]
    rcases Nat.lt_or_ge i xs.length with h | h
    · have e : xs[i]? = some xs[i] := List.getElem?_eq_getElem h
      rw [co_some e]
      exact (tlen_zero ge e).symm
    · rw [co_none h]
/-- two trimmed rows with the same numbers are one -/
theorem eq_of_co {xs ys : List Rat} (hx : tlen xs = xs.length) (hy : tlen ys = ys.length) (h : ∀ i, co xs i = co ys i) : xs = ys := by
  have le : ∀ {xs ys : List Rat}, tlen xs = xs.length → (∀ i, co xs i = co ys i) → xs.length ≤ ys.length := fun {xs ys} hx h => by
    rcases Nat.lt_or_ge ys.length xs.length with lt | ge
    · obtain ⟨k, hk⟩ : ∃ k, tlen xs = k + 1 := ⟨tlen xs - 1, by omega⟩
      obtain ⟨q, e, hq⟩ := tlen_last hk
      have h1 := h k
      rw [co_some e, co_none (by omega)] at h1
      exact (hq h1).elim
    · exact ge
  have hl : xs.length = ys.length := Nat.le_antisymm (le hx h) (le hy fun i => (h i).symm)
  refine List.ext_getElem hl fun i h1 h2 => ?_
  have := h i
  rw [co_some (List.getElem?_eq_getElem h1), co_some (List.getElem?_eq_getElem h2)] at this
  exact this
/-- the numbers f 0 .. f (n - 1), trimmed -/
def ofN (n : Nat) (f : Nat → Rat) : List Rat := trim ((List.range n).map f)
theorem co_ofN {n : Nat} {f : Nat → Rat} (i : Nat) : co (ofN n f) i = if i < n then f i else 0 := by
  unfold ofN
  rw [co_trim]
  split
  · rename_i h
    exact co_some (by rw [List.getElem?_map, List.getElem?_range h]; rfl)
  · exact co_none (by rw [List.length_map, List.length_range]; omega)
theorem tlen_ofN {n : Nat} {f : Nat → Rat} : tlen (ofN n f) = (ofN n f).length := tlen_trim _
/-! ### sizes -/
theorem Sm.div {i j : Int} {n : Nat} (hj : 0 < j) (h1 : i.natAbs < 2 ^ n) (h2 : j.natAbs < 2 ^ n) : Sm n (Rat.divInt i j) := by
  have l := low_rat i hj
  have p := low_pos i hj
  constructor
  · rw [← l.1]
    exact Nat.lt_of_le_of_lt (low_abs i) h1
  · have : ((Rat.divInt i j).den : Int) ≤ j := by rw [← l.2]; exact p.2
    omega
theorem Sm.add {n m : Nat} {q r : Rat} (h : Sm n q) (k : Sm m r) : Sm (n + m + 1) (q + r) := by
  have e : q + r = Rat.divInt (q.num * r.den + r.num * q.den) (q.den * r.den) := by rw [Rat.add_def', ← Rat.divInt_ofNat, Int.natCast_mul]
  rw [e]
  have p : (2 : Nat) ^ (n + m + 1) = 2 ^ n * 2 ^ m + 2 ^ m * 2 ^ n := by rw [Nat.pow_succ, Nat.pow_add, Nat.mul_comm (2 ^ m)]; omega
  have dq := q.den_pos
  have dr := r.den_pos
  refine Sm.div (Int.mul_pos (by omega) (by omega)) ?_ ?_
  · rw [p]
    refine Nat.lt_of_le_of_lt (Int.natAbs_add_le _ _) (Nat.add_lt_add ?_ ?_)
    · rw [Int.natAbs_mul, Int.natAbs_natCast]
      exact Nat.mul_lt_mul'' h.1 k.2
    · rw [Int.natAbs_mul, Int.natAbs_natCast]
      exact Nat.mul_lt_mul'' k.1 h.2
  · rw [Int.natAbs_mul, Int.natAbs_natCast, Int.natAbs_natCast, p]
    have := Nat.mul_lt_mul'' h.2 k.2
    omega
theorem Sm.mul {n m : Nat} {q r : Rat} (h : Sm n q) (k : Sm m r) : Sm (n + m) (q * r) := by
  have e : q * r = Rat.divInt (q.num * r.num) (q.den * r.den) := by rw [Rat.mul_def', ← Rat.divInt_ofNat, Int.natCast_mul]
  rw [e]
  have dq := q.den_pos
  have dr := r.den_pos
  refine Sm.div (Int.mul_pos (by omega) (by omega)) ?_ ?_
  · rw [Int.natAbs_mul, Nat.pow_add]
    exact Nat.mul_lt_mul'' h.1 k.1
  · rw [Int.natAbs_mul, Int.natAbs_natCast, Int.natAbs_natCast, Nat.pow_add]
    exact Nat.mul_lt_mul'' h.2 k.2
theorem Sm.zero {n : Nat} (h : 1 ≤ n) : Sm n 0 := ⟨Nat.two_pow_pos _, Nat.one_lt_two_pow (by omega)⟩
theorem Sms.co {n : Nat} {xs : List Rat} (h : Sms n xs) (h1 : 1 ≤ n) (i : Nat) : Sm n (LW.co xs i) := by
  rcases Nat.lt_or_ge i xs.length with lt | ge
  · have e : xs[i]? = some xs[i] := List.getElem?_eq_getElem lt
    rw [co_some e]
    exact h _ (get_mem e)
  · rw [co_none ge]
    exact Sm.zero h1
theorem Sms.trim {n : Nat} {xs : List Rat} (h : Sms n xs) : Sms n (trim xs) := fun q hq => h q (List.mem_of_mem_take hq)
/-! ### a ratio beside a polynomial -/
def spStrict : Sp := fun vs H Q _ => ∃ (v : V) (n : String), vs = [v] ∧ RatQ H v true ∧ Is H v n ∧ ∀ H', Same H H' → Q (.bl (!decide (n = "list"))) H'
theorem ok_is_strict (T : Txt K mg) : FnOk P w K mg base CX0 4 (fA mg "is_strict_ratio") (fDat K (fA mg "is_strict_ratio")) ["value"] spStrict := by
  have Gis_ratio := ok_is_ratio (P := P) (w := w) (base := base) T
  refine T.is_strict_ratio.F.ok scis_strict_ratio (fun vs H Q E h => ?_) (fun cdv A outer s H vs Q E hr h => ?_)
  · obtain ⟨v, n, rfl, _⟩ := h
    rfl
  obtain ⟨v, n, rfl, r, i, k⟩ := h
  refine ⟨_, (pss_one (ps_ret (pe_and (pe_c T.is_ratio Gis_ratio (hr.mono (by decide)) (pa_cons (pv 0) pa_nil)) (pe_one (pe_not (pe_callB call_isi (by rfl) T.isinstance (by decide +kernel) (pa_cons (pv 0) (pa_cons (pe_bltn (v := .ty "list") (by rfl) T.list (by decide +kernel) rfl) pa_nil)))))))), ?_⟩
  refine r_ret (c_call (va_cons (val_var rfl) va_nil) ⟨v, true, rfl, r, fun H1 s1 => ⟨_, rfl, iteT ?_⟩⟩)
  obtain ⟨ty, hn⟩ := (i.same s1).ty (K := K)
  refine (v_isi (c := "list") (val_var rfl) ty (kit_list hn)) _ ⟨_, rfl, k H1 s1⟩
theorem q_cond1 {te : TE} {t1 tz : TS} {D : Ends} {σ : L2.St} {H : Hp} (h : te σ H fun v H1 => ∃ b, v = .bl b ∧ if b = true then t1 { D with nx := tz D } σ H1 else tz D σ H1) : tSeq (tIfS (tB te) t1 tNext) tz D σ H := h
/-- a ratio that may stand beside -/
def Bes (H : Hp) (v : V) (q : Rat) : Prop := Rq H v q ∧ ((∃ i, v = .int i) ∨ ∃ t xs, v = .ref t ∧ H t = some (.tup xs))
theorem kit_self (K : PySem.W.Frag) (C : Addr) : PySem.W.kitOne K (.ref C) (.ref C) = some true := by
  unfold PySem.W.kitOne
  rw [if_pos (beq_self_eq_true _)]
theorem v_isO {σ : L2.St} {H : Hp} {te : TE} {v : V} {t : Value} {C : Addr} {b : Bool} (h : Val te σ H v) (ty : TyX K H v t) (k : PySem.W.kitOne K t (.ref C) = some b) : Val (tCB (rIsi K) (tCons te (tCons (tC (.ref C)) tNil))) σ H (.bl b) :=
  v_cb (va_cons h (va_cons val_c va_nil)) fun Q q => ⟨v, _, _, _, b, rfl, .own C, ty, k, q⟩
theorem v_lenL {σ : L2.St} {H : Hp} {te : TE} {t : Addr} {xs : List Rat} (h : Val te σ H (.ref t)) (l : Los H t xs) : Val (tCB (fun xs H Q => ∃ p ys, xs = [.ref p] ∧ (SqL K H p ys ∨ SqT K H p ys) ∧ Q (.int ys.length) H) (tCons te tNil)) σ H (.int (xs.length : Int)) := by
  obtain ⟨vs, e, al⟩ := l
  rw [← al.len]
  exact v_len h (.inr (SqT.of e))
theorem lo_offR (f : Nat → Rat) : Off (fun i v H => ∃ p, v = V.ref p ∧ Lo H p (f i)) := fun k v H D ys zs h e => by
  obtain ⟨p, h1, lo⟩ := h
  refine ⟨p, h1, ?_⟩
  unfold Lo at lo ⊢
  rw [upd_ne (fun z => by rw [z, e] at lo; cases lo)]
  exact lo
/-! ### places -/
inductive PlQ (H : Hp) : V → Bool → Prop
  | odd {v : V} {n : String} (h : Is H v n) (n1 : n ≠ "list") (n2 : n ≠ "tuple") : PlQ H v false
  | seq {a : Addr} {xs : List V} {bs : List Bool} (h : Sq H a xs) (l : xs.length ≤ 1000) (r : All2 (RatQ H) xs bs) : PlQ H (.ref a) (bs.all id && decide (xs.length = 2))
end
end LW

/-! any(xs) of a list of ints. -/
namespace L2
open PySem PySem.Spec PyProof.Rows
section
variable {X : Cx}
end
end L2

namespace LW
open PySem PySem.Spec PyProof.Rows L2 GL
section
variable {P : Program} {w : World} {K : PySem.W.Frag} {mg : Str → Option Value} {base : Heap}
theorem t_op {r : L2.R2} {ta tb : TE} {σ : L2.St} {H : Hp} {K' : Bool → Hp → Prop} (h : ta σ H fun x H1 => tb σ H1 fun y H2 => r x y H2 fun z H3 => ∃ b, z = .bl b ∧ K' b H3) : tTest (tOp r ta tb) σ H K' := h
theorem op_in {r : L2.R2} {ta tb : TE} {σ : L2.St} {H : Hp} {Q : VK} (h : ta σ H fun x H1 => tb σ H1 fun y H2 => r x y H2 Q) : tOp r ta tb σ H Q := h
theorem q_un {t : TT} {t1 tz : TS} {D : Ends} {σ : L2.St} {H : Hp} (h : t σ H fun b H1 => if b = true then t1 { D with nx := tz D } σ H1 else tz D σ H1) : tSeq (tIfS t t1 tNext) tz D σ H := h
def relS (scope sc : Scope) : Scope := { scope with names := scope.names.map fun (n, k) => if (k == NameKind.free && sc.kind == .function && sc.names.lookup n == some .cell) then (n, NameKind.cell) else (n, k) }
theorem blkOk_in {N : List Str} {o scope : Scope} {own : List (Str × Nat)} {cl : List (Str × Addr)} {C : Addr} {env : Env} (sc : Scope) (e : env.scope = sc) (h : blkC N (relS o sc) scope own = true) : BlkOk N (compEnvC o cl C env).scope scope own := by
  subst e
  exact blkOk_by h

/-! ### the class Plane -/
abbrev pnA (mg : Str → Option Value) : Addr := fA mg "Plane"
structure PlaneT (K : PySem.W.Frag) (mg : Str → Option Value) : Prop where
  g : mg "Plane" = some (.ref (pnA mg))
  cls : Cls K (pnA mg)
  mkc : Mk K (pnA mg) (mA K (pnA mg) "__init__")
  no : NoAttr K (pnA mg) "rows"
  m_init : Me K (pnA mg) "__init__" "Plane.__init__" (inClass tPlane 0) ["self", "rows"]
  m_eq : Me K (pnA mg) "__eq__" "Plane.__eq__" (inClass tPlane 1) ["self", "other"]
  m_add : Me K (pnA mg) "__add__" "Plane.__add__" (inClass tPlane 2) ["self", "other"]
  m_radd : Me K (pnA mg) "__radd__" "Plane.__radd__" (inClass tPlane 3) ["self", "other"]
  m_sub : Me K (pnA mg) "__sub__" "Plane.__sub__" (inClass tPlane 4) ["self", "other"]
  m_rsub : Me K (pnA mg) "__rsub__" "Plane.__rsub__" (inClass tPlane 5) ["self", "other"]
  m_mul : Me K (pnA mg) "__mul__" "Plane.__mul__" (inClass tPlane 6) ["self", "other"]
  m_rmul : Me K (pnA mg) "__rmul__" "Plane.__rmul__" (inClass tPlane 7) ["self", "other"]
  m_neg : Me K (pnA mg) "__neg__" "Plane.__neg__" (inClass tPlane 8) ["self"]
  m_degree : Me K (pnA mg) "degree" "Plane.degree" (inClass tPlane 9) ["self"]
  m_at : Me K (pnA mg) "at" "Plane.at" (inClass tPlane 10) ["self", "point"]
  m_slope_x : Me K (pnA mg) "slope_x" "Plane.slope_x" (inClass tPlane 11) ["self"]
  m_slope_y : Me K (pnA mg) "slope_y" "Plane.slope_y" (inClass tPlane 12) ["self"]
  me : PySem.W.selfFirst K (pnA mg) = true
  hc : PySem.W.findIn K (.ref (pnA mg)) "__class__" = some (some (.builtin "object.__class__"))
  hn : PySem.W.specialIn K (.builtin "object.__class__") "__get__" = some (some (.builtin "getset_descriptor.__get__"))
  ht : PySem.W.takesIn K (.builtin "object.__class__") = some true
  hm : PySem.W.mroIn K (pnA mg) (.type "object") = some true
  kf : ∀ T : String, T = "int" ∨ T = "tuple" → PySem.W.kitOne K (.type T) (.ref (pnA mg)) = some false
  subT : ∀ T : String, T = "int" ∨ T = "tuple" → PySem.W.subIn K (.type T) (.ref (pnA mg)) = some false
  kl : PySem.W.kitOne K (.ref (pnA mg)) (.type "list") = some false
  subC : ∀ T : String, T = "int" ∨ T = "tuple" → PySem.W.subIn K (.ref (pnA mg)) (.type T) = some false
  lr : ∀ op : Operator, op = .Add ∨ op = .Sub ∨ op = .Mult → (∃ fo ro, PySem.W.findIn K (.type "int") (PySem.dunder op.info.2) = some fo ∧ PySem.W.findIn K (.type "int") (dunderR op.info.2) = some ro ∧ ((fo.isSome && !isSeqSlot fo) || (ro.isSome && !isSeqSlot ro)) = true) ∧
    ∃ fo ro, PySem.W.findIn K (.type "tuple") (PySem.dunder op.info.2) = some fo ∧ PySem.W.findIn K (.type "tuple") (dunderR op.info.2) = some ro ∧ ((fo.isSome && !isSeqSlot fo) || (ro.isSome && !isSeqSlot ro)) = false
abbrev sPlane_init : Stmt := (inClass tPlane 0)
theorem scPlane_init : FnScope ["self", "rows", "shortened", "number", "row", "many"] ["self", "rows"] (defScope sPlane_init) := ⟨rfl, rfl, rfl, by decide +kernel, rfl, by decide +kernel, by decide +kernel⟩
abbrev sPlane_add : Stmt := (inClass tPlane 2)
theorem scPlane_add : FnScope ["self", "other", "plane"] ["self", "other"] (defScope sPlane_add) := ⟨rfl, rfl, rfl, by decide +kernel, rfl, by decide +kernel, by decide +kernel⟩
abbrev sPlane_mul : Stmt := (inClass tPlane 6)
theorem scPlane_mul : FnScope ["self", "other", "plane"] ["self", "other"] (defScope sPlane_mul) := ⟨rfl, rfl, rfl, by decide +kernel, rfl, by decide +kernel, by decide +kernel⟩
abbrev sPlane_rmul : Stmt := (inClass tPlane 7)
theorem scPlane_rmul : FnScope ["self", "other", "plane"] ["self", "other"] (defScope sPlane_rmul) := ⟨rfl, rfl, rfl, by decide +kernel, rfl, by decide +kernel, by decide +kernel⟩
abbrev sPlane_neg : Stmt := (inClass tPlane 8)
theorem scPlane_neg : FnScope ["self", "top", "bottom", "row"] ["self"] (defScope sPlane_neg) := ⟨rfl, rfl, rfl, by decide +kernel, rfl, by decide +kernel, by decide +kernel⟩
abbrev sPlane_slope_x : Stmt := (inClass tPlane 11)
theorem scPlane_slope_x : FnScope ["self", "number", "i", "row"] ["self"] (defScope sPlane_slope_x) := ⟨rfl, rfl, rfl, by decide +kernel, rfl, by decide +kernel, by decide +kernel⟩
abbrev sPlane_slope_y : Stmt := (inClass tPlane 12)
theorem scPlane_slope_y : FnScope ["self", "j", "number", "row"] ["self"] (defScope sPlane_slope_y) := ⟨rfl, rfl, rfl, by decide +kernel, rfl, by decide +kernel, by decide +kernel⟩

/-! ### rows of rows: two letters -/
def rowAt (R : List (List Rat)) (i : Nat) : List Rat := R[i]?.getD []
def cf2 (R : List (List Rat)) (i j : Nat) : Rat := co (rowAt R i) j
theorem rowAt_some {R : List (List Rat)} {i : Nat} {r : List Rat} (h : R[i]? = some r) : rowAt R i = r := by
  unfold rowAt; rw [h]; rfl
theorem rowAt_none {R : List (List Rat)} {i : Nat} (h : R.length ≤ i) : rowAt R i = [] := by
  unfold rowAt; rw [List.getElem?_eq_none h]; rfl
def lens (R : List (List Rat)) : List Rat := R.map fun r => ((r.length : Nat) : Rat)
def plen (R : List (List Rat)) : Nat := tlen (lens (R.map trim))
def planeR (R : List (List Rat)) : List (List Rat) := (R.map trim).take (plen R)
structure Can (R : List (List Rat)) : Prop where
  row : ∀ r ∈ R, tlen r = r.length
  top : tlen (lens R) = R.length
theorem nat_zero {n : Nat} : ((n : Nat) : Rat) = 0 ↔ n = 0 := by
  constructor
  · intro h
    have h2 := congrArg Rat.num h
    rw [show (((n : Nat) : Rat)).num = (n : Int) from Rat.num_natCast n] at h2
    exact Int.ofNat.inj h2
  · rintro rfl; rfl
theorem lens_take (R : List (List Rat)) (k : Nat) : lens (R.take k) = (lens R).take k := by
  unfold lens
  rw [List.map_take]
theorem can_planeR (R : List (List Rat)) : Can (planeR R) := by
  refine ⟨fun r hr => ?_, ?_⟩
  · obtain ⟨s, _, rfl⟩ := List.mem_map.mp (List.mem_of_mem_take hr)
    exact tlen_trim s
  · unfold planeR
    rw [lens_take]
    refine (tlen_trim (lens (R.map trim))).trans ?_
    rw [trim_len, List.length_take]
    have l := tlen_le (lens (R.map trim))
    unfold plen
    unfold lens at l ⊢
    rw [List.length_map] at l
    omega
theorem cf2_planeR (R : List (List Rat)) (i j : Nat) : cf2 (planeR R) i j = cf2 R i j := by
  unfold cf2
  rcases Nat.lt_or_ge i R.length with lt | ge
  · have e : R[i]? = some R[i] := List.getElem?_eq_getElem lt
    rw [rowAt_some e]
    have em : (R.map trim)[i]? = some (trim R[i]) := by rw [List.getElem?_map, e]; rfl
    rcases Nat.lt_or_ge i (plen R) with h | h
    · rw [rowAt_some (r := trim R[i]) (by unfold planeR; rw [List.getElem?_take, if_pos h, em]), co_trim]
    · rw [rowAt_none (by unfold planeR; rw [List.length_take]; omega)]
      have z : (((trim R[i]).length : Nat) : Rat) = 0 := tlen_zero (xs := lens (R.map trim)) (i := i) h (by unfold lens; rw [List.getElem?_map, em]; rfl)
      have z2 := nat_zero.mp z
      rw [← co_trim R[i], List.length_eq_zero_iff.mp z2]
  · rw [rowAt_none ge, rowAt_none (by unfold planeR; rw [List.length_take, List.length_map]; omega)]
/-! ### rows of rows as values -/
/-- a tuple of tuples of told ratios -/
def Lss (H : Hp) (t : Addr) (R : List (List Rat)) : Prop := ∃ vs, H t = some (.tup vs) ∧ All2 (fun v r => ∃ p, v = .ref p ∧ Los H p r) vs R
theorem Lss.same {H H' : Hp} {t : Addr} {R : List (List Rat)} (h : Lss H t R) (s : L2.Same H H') : Lss H' t R := by
  obtain ⟨vs, e, a⟩ := h
  exact ⟨vs, s _ _ e, a.imp fun v q ⟨p, e, l⟩ => ⟨p, e, l.same s⟩⟩
/-- a row as passed -/
def RowR (H : Hp) (v : V) (r : List Rat) : Prop := ∃ n us, v = .ref n ∧ Sq H n us ∧ us.length ≤ 1000 ∧ All2 (Rq H) us r
theorem RowR.same {H H' : Hp} {v : V} {r : List Rat} (h : RowR H v r) (s : L2.Same H H') : RowR H' v r := by
  obtain ⟨n, us, e, q, l, a⟩ := h
  exact ⟨n, us, e, q.same s, l, a.imp fun _ _ z => z.same s⟩
/-- what is_row answers -/
def RowQ (H : Hp) (v : V) (b : Bool) : Prop := (∃ n, Is H v n ∧ n ≠ "list" ∧ n ≠ "tuple" ∧ b = false) ∨ ∃ a xs bs, v = .ref a ∧ Sq H a xs ∧ xs.length ≤ 1000 ∧ All2 (RatQ H) xs bs ∧ b = bs.all id
theorem RowQ.same {H H' : Hp} {v : V} {b : Bool} (h : RowQ H v b) (s : L2.Same H H') : RowQ H' v b := by
  rcases h with ⟨n, i, a, b, e⟩ | ⟨a, xs, bs, e, q, l, al, z⟩
  · exact .inl ⟨n, i.same s, a, b, e⟩
  · exact .inr ⟨a, xs, bs, e, q.same s, l, al.imp fun _ _ r => r.same s, z⟩
theorem RowR.yes {H : Hp} {v : V} {r : List Rat} (h : RowR H v r) : RowQ H v true := by
  obtain ⟨n, us, e, q, l, a⟩ := h
  refine .inr ⟨n, us, us.map fun _ => true, e, q, l, All2.mk (by rw [List.length_map]) (fun i x b hx hb => ?_), (all_true us).symm⟩
  obtain ⟨z, _, rq⟩ := a.get hx
  rw [List.getElem?_map, hx] at hb
  cases hb
  exact rq.yes
/-- what _are_rows answers: no rows -/
def NoRows (H : Hp) (v : V) : Prop := (∃ n, Is H v n ∧ n ≠ "list" ∧ n ≠ "tuple") ∨ ∃ a ws bs, v = .ref a ∧ Sq H a ws ∧ ws.length ≤ 1000 ∧ All2 (RowQ H) ws bs ∧ bs.all id = false
theorem c_is_row {te : TE} {σ : L2.St} {H : Hp} {v : V} {b : Bool} {Q : VK} {E : XK} (h : Val te σ H v) (r : RowQ H v b) (k : ∀ H', L2.Same H H' → Q (.bl b) H') : tCall (spRow K) [] E (tCons te tNil) σ H Q := by
  refine c_call (va_cons h va_nil) ⟨v, rfl, ?_⟩
  rcases r with ⟨n, i, n1, n2, rfl⟩ | ⟨a, xs, bs, rfl, q, l, al, rfl⟩
  · exact .inl ⟨n, i, n1, n2, k⟩
  · exact .inr ⟨a, xs, bs, rfl, q, l, al, k⟩
def spRows (K : PySem.W.Frag) : Sp := fun vs H Q _ => ∃ v, vs = [v] ∧ ((∃ n, Is H v n ∧ n ≠ "list" ∧ n ≠ "tuple" ∧ ∀ H', Same H H' → Q (.bl false) H') ∨ ∃ a xs bs, v = .ref a ∧ Sq H a xs ∧ xs.length ≤ 1000 ∧ All2 (RowQ H) xs bs ∧ ∀ H', Same H H' → Q (.bl (bs.all id)) H')
theorem ok_are_rows (T : Txt K mg) : FnOk P w K mg base CX0 6 (fA mg "_are_rows") (fDat K (fA mg "_are_rows")) ["value"] (spRows K) := by
  have Gis_row := ok_is_row (P := P) (w := w) (base := base) T
  refine T._are_rows.F.ok sc_are_rows (fun vs H Q E h => ?_) (fun cdv A outer s H vs Q E hr h => ?_)
  · obtain ⟨v, rfl, _⟩ := h
    rfl
  obtain ⟨v, rfl, h⟩ := h
  refine ⟨_, (pss_one (ps_ret (pe_and (pe_callB call_isiT (by rfl) T.isinstance (by decide +kernel) (pa_cons (pv 0) (pa_cons (pe_tup (pa_cons (pe_bltn (v := .ty "tuple") (by rfl) T.tuple (by decide +kernel) rfl) (pa_cons (pe_bltn (v := .ty "list") (by rfl) T.list (by decide +kernel) rfl) pa_nil))) pa_nil))) (pe_one (pe_callB (cr_all rfl) (by rfl) T.all (by decide +kernel) (pa_cons (pe_lc (own := [("row", 1)]) (g := gName 1) (tt := tYes) (by rfl) sc_are_rows.nd (pi_or (pi_list (pv 0)) (pi_tup (pv 0))) (blkOk_by (own := [("row", 1)]) (N := ["value", "row"]) (sc := defScope s_are_rows) (by decide +kernel)) (fun _ _ _ _ _ => pg_name (i := 1) sc_are_rows.nd rfl (Or.inl rfl)) (fun _ _ _ _ _ => pts_nil) (fun _ _ _ _ _ => (pe_c T.is_row Gis_row (hr.mono (by decide)) (pa_cons (pv 1) pa_nil)))) pa_nil)))))), ?_⟩
  have both : ∀ {n : String} {Q' : VK}, Is H v n → (∀ H2, Same H H2 → Q' (.bl (decide (n = "tuple") || decide (n = "list"))) H2) →
      tCB (rIsiT K) (tCons (tVar 0) (tCons (tTup (tCons (tC (.ty "tuple")) (tCons (tC (.ty "list")) tNil))) tNil)) [some v, none] H Q' := fun {n Q'} i q =>
    ⟨v, rfl, ⟨by show 2 ≤ sizeLine; decide, fun p hp => ⟨v, p, [.ty "tuple", .ty "list"], _, [.type "tuple", .type "list"], _, rfl, upd_same, .cons (.ty _) (.cons (.ty _) .nil), (i.same (Same.new' hp)).ty.1, kit_seq (i.ty (K := K)).2, q _ (Same.new' hp)⟩⟩⟩
  refine r_ret ?_
  rcases h with ⟨n, i, n1, n2, k⟩ | ⟨a, xs, bs, rfl, hS, hl, hR, k⟩
  · refine both i fun H2 s2 => ⟨_, rfl, ?_⟩
    rw [decide_eq_false n2, decide_eq_false n1]
    exact iteF (k H2 s2)
  · obtain ⟨n, i, o⟩ := hS.is
    refine both i fun H2 s2 => ⟨_, rfl, ?_⟩
    have e : (decide (n = "tuple") || decide (n = "list")) = true := by rcases o with rfl | rfl <;> decide
    rw [e]
    refine iteT (cb_one ?_)
    refine l_lcS (R := fun i v _ => ∃ b, bs[i]? = some b ∧ v = V.bl b) (fun _ _ _ _ _ h => h) (fun _ _ _ _ _ _ h _ => h) (val_var rfl) (hS.same s2).seq (by omega) (fun i x H3 e s3 => turn_name rfl fun Q q => ?_) (fun p ys H4 s4 e4 r4 => ⟨p, bs, rfl, ?_, k H4 (s2.trans s4)⟩)
    · obtain ⟨b, hb, rb⟩ := hR.get e
      exact c_is_row (val_var rfl) (rb.same (s2.trans s3)) fun H' s' => q _ H' s' ⟨b, hb, rfl⟩
    · rw [← rows_map r4 hR.len.symm]
      exact SqL.of e4


/-! ### a row told -/
def LosL (H : Hp) (l : Addr) (xs : List Rat) : Prop := ∃ vs, H l = some (.lst vs) ∧ All2 (fun v q => ∃ p, v = .ref p ∧ Lo H p q) vs xs
theorem LosL.same {H H' : Hp} {t : Addr} {xs : List Rat} (h : LosL H t xs) (s : L2.Same H H') : LosL H' t xs := by
  obtain ⟨vs, e, a⟩ := h
  exact ⟨vs, s _ _ e, a.imp fun v q ⟨p, e, l⟩ => ⟨p, e, l.same s⟩⟩
theorem call_one {sp : Sp} {L : List V} {E : XK} {te : TE} {σ : L2.St} {H : Hp} {Q : VK} (h : te σ H fun v H1 => sp ([v] ++ L) H1 Q E) : tCall sp L E (tCons te tNil) σ H Q := h
theorem sl_hi {te t : TE} {σ : L2.St} {H : Hp} {Q : VK} {v : V} {r : V → Option Int → Option Int → Hp → VK → Prop} (h : Val te σ H v) (q : t σ H fun x H1 => ∃ i, x = .int i ∧ r v none (some i) H1 Q) : tSl r te tNoPart (tPart t) σ H Q := h _ q
def spShort : Sp := fun vs H Q _ => ∃ (l : Addr) (xs : List Rat), vs = [.ref l] ∧ LosL H l xs ∧ xs.length ≤ 1000 ∧ ∀ t H', L2.Same H H' → Los H' t (trim xs) → Q (.ref t) H'
theorem cut_nat (ys : List V) (k : Nat) (h : k ≤ ys.length) : cutV ys none (some (k : Int)) = ys.take k := by
  unfold cutV
  rw [HT.sIx_none, HT.sIx_nat, List.drop_zero, Nat.sub_zero, Nat.min_eq_left h]
theorem all2_take {α β : Type} {R : α → β → Prop} {as : List α} {bs : List β} (h : All2 R as bs) (k : Nat) : All2 R (as.take k) (bs.take k) :=
  All2.mk (by rw [List.length_take, List.length_take, h.len]) fun i a b ha hb => by
    rw [List.getElem?_take] at ha hb
    split at ha
    · rename_i lt
      rw [if_pos lt] at hb
      obtain ⟨b', e, r⟩ := h.get ha
      rw [hb] at e
      cases e
      exact r
    · cases ha
theorem ok_shortened (T : Txt K mg) : FnOk P w K mg base CX0 2 (fA mg "_shortened") (fDat K (fA mg "_shortened")) ["pairs"] spShort := by
  have Gtop_power := ok_top_power (P := P) (w := w) (base := base) T
  refine T._shortened.F.ok sc_shortened (fun vs H Q E h => ?_) (fun cdv A outer s H vs Q E hr h => ?_)
  · obtain ⟨l, xs, rfl, _⟩ := h
    rfl
  obtain ⟨l, xs, rfl, ⟨ys, e2, al2⟩, hl, k⟩ := h
  refine ⟨_, (pss_one (ps_ret (pe_callTy call_tuple_of (by rfl) T.tuple (by decide +kernel) (pa_cons (pe_slice sl_list (pv 0) po_none (po_some (pe_op op_add (pe_c T.top_power Gtop_power (hr.mono (by decide)) (pa_cons (pe_lc (own := [("top", 1), ("_", 2)]) (g := gTup K 2 (gCons (gName 1) (gCons (gName 2) gNil))) (tt := tYes) (by rfl) sc_shortened.nd (pi_list (pv 0)) (blkOk_by (own := [("top", 1), ("_", 2)]) (N := ["pairs", "top", "_"]) (sc := defScope s_shortened) (by decide +kernel)) (fun _ _ _ _ _ => pg_tup rfl (pgs_cons (pg_name (i := 1) sc_shortened.nd rfl (Or.inl rfl)) (pgs_cons (pg_name (i := 2) sc_shortened.nd rfl (Or.inl rfl)) pgs_nil))) (fun _ _ _ _ _ => pts_nil) (fun _ _ _ _ _ => (pv 1))) pa_nil)) pe_int))) pa_nil)))), ?_⟩
  have ly := al2.len
  have l0 := tlen_le xs
  refine r_ret (cb_one (sl_hi (val_var rfl) (op_in (call_one (l_lcL (K := K) (R := fun i v _ => ∃ b, (xs.map (·.num))[i]? = some b ∧ v = V.int b) (fun _ _ _ _ _ h => h) (fun _ _ _ _ _ _ h _ => h) (val_var rfl) (SqL.of e2) (by omega) (fun i v H3 hv s3 => ?_) (fun l2 ns H3 s3 e3 r3 => ?_))))))
  · obtain ⟨q, hq, p, rfl, lo⟩ := al2.get hv
    exact turn_two (SqT.of (lo.same s3)) rfl (em_val (val_var rfl) ⟨_, by rw [List.getElem?_map, hq]; rfl, rfl⟩)
  rw [ly] at r3
  have en := rows_map r3 (List.length_map _)
  refine ⟨l2, xs.map (·.num), xs, rfl, by rw [← en]; exact SqL.of e3, by rw [List.length_map]; omega, All2.mk (List.length_map _) (fun i a b h1 h2 => ?_), ?_⟩
  · rw [List.getElem?_map, h2] at h1
    cases h1
    exact Rat.num_eq_zero
  refine val_c _ ⟨_, _, rfl, rfl, (tlen xs : Int) - 1 + 1, rfl, l, ys, rfl, SqL.of (s3 _ _ e2), fun p hp => ⟨p, _, rfl, .inl ⟨SqL.of upd_same, fun t ht => ?_⟩⟩⟩
  rw [show ((tlen xs : Int) - 1 + 1) = (tlen xs : Int) by omega, cut_nat ys (tlen xs) (by omega)] at ht ⊢
  have s4 := Same.new' (o := .lst (ys.take (tlen xs))) hp
  have s5 := Same.new' (o := .tup (ys.take (tlen xs))) ht
  refine k t _ ((s3.trans s4).trans s5) ⟨_, upd_same, ?_⟩
  exact (all2_take al2 (tlen xs)).imp fun v q ⟨p, e, lo⟩ => ⟨p, e, ((lo.same s3).same s4).same s5⟩
end
end LW

namespace LW
open PySem PySem.Spec PyProof.Rows L2 GL
section
variable {P : Program} {w : World} {K : PySem.W.Frag} {mg : Str → Option Value} {base : Heap}

/-! ### Plane.__init__ -/
theorem Los.tu {H H' : Hp} {t : Addr} {xs : List Rat} (h : Los H t xs) (s : ∀ b ys, H b = some (.tup ys) → H' b = some (.tup ys)) : Los H' t xs := by
  obtain ⟨vs, e, a⟩ := h
  exact ⟨vs, s _ _ e, a.imp fun v q ⟨p, e, l⟩ => ⟨p, e, s _ _ l⟩⟩
theorem Lss.tu {H H' : Hp} {t : Addr} {R : List (List Rat)} (h : Lss H t R) (s : ∀ b ys, H b = some (.tup ys) → H' b = some (.tup ys)) : Lss H' t R := by
  obtain ⟨vs, e, a⟩ := h
  exact ⟨vs, s _ _ e, a.imp fun v q ⟨p, e, l⟩ => ⟨p, e, l.tu s⟩⟩
theorem tu_lst {H : Hp} {D : Addr} {ys zs : List V} (e : H D = some (.lst ys)) : ∀ b xs, H b = some (.tup xs) → upd H D (.lst zs) b = some (.tup xs) := fun b xs eb => by
  rw [upd_ne (ne_of eb e (by intro z; cases z))]; exact eb
/-- rows as passed -/
def RwsR (H : Hp) (v : V) (R : List (List Rat)) : Prop := ∃ a ws, v = .ref a ∧ Sq H a ws ∧ ws.length ≤ 1000 ∧ All2 (RowR H) ws R
theorem RwsR.same {H H' : Hp} {v : V} {R : List (List Rat)} (h : RwsR H v R) (s : L2.Same H H') : RwsR H' v R := by
  obtain ⟨a, ws, e, q, l, al⟩ := h
  exact ⟨a, ws, e, q.same s, l, al.imp fun _ _ z => z.same s⟩
theorem c_are {te : TE} {σ : L2.St} {H : Hp} {v : V} {Q : VK} {E : XK} (h : Val te σ H v) {R : List (List Rat)} (r : RwsR H v R) (k : ∀ H', L2.Same H H' → Q (.bl true) H') : tCall (spRows K) [] E (tCons te tNil) σ H Q := by
  obtain ⟨a, ws, rfl, q, l, al⟩ := r
  refine c_call (va_cons h va_nil) ⟨_, rfl, .inr ⟨a, ws, ws.map fun _ => true, rfl, q, l, All2.mk (by rw [List.length_map]) (fun i x b hx hb => ?_), fun H' s => by rw [all_true]; exact k H' s⟩⟩
  obtain ⟨z, _, rq⟩ := al.get hx
  rw [List.getElem?_map, hx] at hb
  cases hb
  exact rq.yes
theorem c_areN {te : TE} {σ : L2.St} {H : Hp} {v : V} {Q : VK} {E : XK} (h : Val te σ H v) (r : NoRows H v) (k : ∀ H', L2.Same H H' → Q (.bl false) H') : tCall (spRows K) [] E (tCons te tNil) σ H Q := by
  rcases r with ⟨n, i, a, b⟩ | ⟨a, ws, bs, rfl, q, l, al, z⟩
  · exact c_call (va_cons h va_nil) ⟨_, rfl, .inl ⟨n, i, a, b, k⟩⟩
  · exact c_call (va_cons h va_nil) ⟨_, rfl, .inr ⟨a, ws, bs, rfl, q, l, al, fun H' s => by rw [z]; exact k H' s⟩⟩
def spPInit (mg : Str → Option Value) : Sp := fun vs H Q E => ∃ (a dx : Addr) (v : V), vs = [.ref a, v] ∧ H a = some (.ins (pnA mg) dx []) ∧ ((∃ R, RwsR H v R ∧
    ∀ t H', (∀ b o, H b = some o → b ≠ a → H' b = some o) → H' a = some (.ins (pnA mg) dx [("rows", .ref t)]) → Lss H' t (planeR R) → Q .non H') ∨ (NoRows H v ∧ BadR mg H a v E))
theorem ok_Plane_init (T : Txt K mg) (TP : PlaneT K mg) : FnOk P w K mg base (L2.CX P w) 8 (mA K (pnA mg) "__init__") (fDat K (mA K (pnA mg) "__init__")) ["self", "rows"] (spPInit mg) := by
  have G_are_rows := ok_are_rows (P := P) (w := w) (base := base) T
  have G_shortened := ok_shortened (P := P) (w := w) (base := base) T
  have Gtold := ok_told (P := P) (w := w) (base := base) T
  have Gtop_power := ok_top_power (P := P) (w := w) (base := base) T
  have Gi_BadRow := init_BadRow (P := P) (w := w) (base := base) T
  refine TP.m_init.F.okX scPlane_init (fun vs H Q E h => ?_) (fun cdv A outer s H vs Q E hr h => ?_)
  · obtain ⟨a, dx, v, rfl, _⟩ := h
    rfl
  obtain ⟨a, dx, v, rfl, ha, h⟩ := h
  refine ⟨_, (pss_cons (ps_if (pt_not (pt_val (pe_c T._are_rows G_are_rows (hr.mono (by decide)) (pa_cons (pv 1) pa_nil)))) (pss_one (ps_raise rfl (takes_of rfl rfl rfl rfl) (pmk_oex T.BadRow.o T.BadRow.i T.BadRow.t Gi_BadRow (hr.mono (by decide)) T.BadRow.b .nil pass0 (by rfl) T.BadRow.g (pa_cons (pv 1) pa_nil)))) pss_nil)
  (pss_cons (ps_setLc (i := 2) (own := [("row", 4)]) (g := gName 4) (tt := tYes) (by rfl) scPlane_init.nd rfl rfl (sw_true rfl rfl rfl (by decide +kernel)) (pi_or (pi_list (pv 1)) (pi_tup (pv 1))) (blkOk_by (own := [("row", 4)]) (N := ["self", "rows", "shortened", "number", "row", "many"]) (sc := defScope sPlane_init) (by decide +kernel)) (fun _ _ _ _ _ => pg_name (i := 4) scPlane_init.nd rfl (Or.inl rfl)) (fun _ _ _ _ _ => pts_nil) (fun _ _ _ _ _ => (pe_c T._shortened G_shortened (hr.mono (by decide)) (pa_cons (pe_lc (own := [("number", 3)]) (g := gName 3) (tt := tYes) (by rfl) scPlane_init.nd (show PI _ _ _ (fun σ H R => iList K (tVar 4) σ H R ∨ iTup K (tVar 4) σ H R) from (pi_or (pi_list (pv 4)) (pi_tup (pv 4)))) (blkOk_in (own := [("number", 3)]) (N := ["self", "rows", "shortened", "number", "row", "many"]) (defScope sPlane_init) rfl (by decide +kernel)) (fun _ _ _ _ _ => pg_name (i := 3) scPlane_init.nd rfl (Or.inl rfl)) (fun _ _ _ _ _ => pts_nil) (fun _ _ _ _ _ => (pe_call Gtold (hr.mono (by decide)) (by rfl) T.told.g T.told.F.kp T.told.b .nil passL (pa_cons (pv 3) (pa_cons pe_str pa_nil))))) pa_nil))))
  (pss_cons (ps_set (i := 5) scPlane_init.nd rfl (Or.inl rfl) (pe_op op_add (pe_c T.top_power Gtop_power (hr.mono (by decide)) (pa_cons (pe_lc (own := [("row", 4)]) (g := gName 4) (tt := tYes) (by rfl) scPlane_init.nd (pi_list (pv 2)) (blkOk_by (own := [("row", 4)]) (N := ["self", "rows", "shortened", "number", "row", "many"]) (sc := defScope sPlane_init) (by decide +kernel)) (fun _ _ _ _ _ => pg_name (i := 4) scPlane_init.nd rfl (Or.inl rfl)) (fun _ _ _ _ _ => pts_nil) (fun _ _ _ _ _ => (pe_callB (show CallR _ (.builtin "len") (fun xs H Q => ∃ p ys, xs = [.ref p] ∧ (SqL K H p ys ∨ SqT K H p ys) ∧ Q (.int ys.length) H) from call_len_seq) (by rfl) T.len PySem.boot_len (pa_cons (pv 4) pa_nil)))) pa_nil)) pe_int))
  (pss_one (ps_fld (pv 0) (pe_callTy call_tuple_of (by rfl) T.tuple (by decide +kernel) (pa_cons (pe_slice sl_list (pv 2) po_none (po_some (pv 5))) pa_nil)) (by rfl)))))), ?_⟩
  rcases h with ⟨R, rR, k⟩ | ⟨h, b⟩
  · refine q_ifNot (c_are (val_var rfl) rR fun H1 s1 => ⟨_, rfl, ?_⟩)
    refine iteF ?_
    obtain ⟨n, ws, rfl, sq, hl, al⟩ := rR.same s1
    have lR := al.len
    refine q_asg (l_lcS (R := fun i v H => ∃ r p, R[i]? = some r ∧ v = V.ref p ∧ Los H p (trim r)) (fun i v H1 H2 s ⟨r, p, h1, h2, lo⟩ => ⟨r, p, h1, h2, lo.same s⟩) (fun i v H D ys zs ⟨r, p, h1, h2, lo⟩ e => ⟨r, p, h1, h2, lo.tu (tu_lst e)⟩) (val_var rfl) sq.seq (by omega) (fun i x H2 hx s2 => turn_name rfl fun Q q => ?_) (fun l ys H2 s2 e2 r2 => ?_))
    · obtain ⟨r, hr, n2, us, rfl, sq2, l2, al2⟩ := al.get hx
      refine call_one (l_lcS (R := fun i v H => ∃ q p, r[i]? = some q ∧ v = V.ref p ∧ Lo H p q) (fun i v H1 H2 s ⟨q, p, h1, h2, lo⟩ => ⟨q, p, h1, h2, lo.same s⟩) (fun i v H D ys zs ⟨q, p, h1, h2, lo⟩ e => ⟨q, p, h1, h2, tu_lst e _ _ lo⟩) (val_var rfl) (sq2.same s2).seq (by omega) (fun j u H3 hu s3 => turn_name rfl fun Q2 q2 => ?_) (fun l3 zs H3 s3 e3 r3 => ?_))
      · obtain ⟨z, hz, rq⟩ := al2.get hu
        exact c_told (va_cons (val_var rfl) (va_cons val_c va_nil)) ((rq.same s2).same s3) fun p H' s' lo => q2 _ H' s' ⟨z, p, hz, rfl, lo⟩
      have lr := al2.len
      rw [lr] at r3
      refine ⟨l3, r, rfl, ⟨zs, e3, All2.mk r3.2 fun j v q hv hq => ?_⟩, by omega, fun t H4 s4 los => q _ H4 (s3.trans s4) ⟨r, t, hr, rfl, los⟩⟩
      obtain ⟨q', p, h1, h2, lo⟩ := r3.1.get hv
      rw [Nat.zero_add, hq] at h1
      cases h1
      exact ⟨p, h2, lo⟩
    rw [lR] at r2
    have al2 : All2 (fun v r => ∃ p, v = V.ref p ∧ Los H2 p r) ys (R.map trim) := All2.mk (by rw [r2.2, List.length_map]) fun i v q hv hq => by
      obtain ⟨r, p, h1, h2, los⟩ := r2.1.get hv
      rw [Nat.zero_add] at h1
      rw [List.getElem?_map, h1] at hq
      cases hq
      exact ⟨p, h2, los⟩
    have ly := al2.len
    rw [List.length_map] at ly
    refine q_asg (op_in (call_one (l_lcL (K := K) (R := fun i v _ => ∃ b, ((R.map trim).map fun r => (r.length : Int))[i]? = some b ∧ v = V.int b) (fun _ _ _ _ _ h => h) (fun _ _ _ _ _ _ h _ => h) (val_var rfl) (SqL.of e2) (by omega) (fun i v H3 hv s3 => turn_name rfl ?_) (fun l2 ns H3 s3 e3 r3 => ?_))))
    · obtain ⟨r, hr, p, rfl, los⟩ := al2.get hv
      exact em_val (v_lenL (val_var rfl) (los.same s3)) ⟨_, by rw [List.getElem?_map, hr]; rfl, rfl⟩
    rw [ly] at r3
    have en := rows_map r3 (by simp)
    have pl := tlen_le (lens (R.map trim))
    have pl2 : plen R ≤ R.length := by
      unfold plen
      unfold lens at pl ⊢
      rw [List.length_map, List.length_map] at pl
      exact pl
    refine ⟨l2, (R.map trim).map fun r => (r.length : Int), lens (R.map trim), rfl, by rw [← en]; exact SqL.of e3, by rw [List.length_map, List.length_map]; omega, All2.mk (by unfold lens; simp) (fun i a b h1 h2 => ?_), ?_⟩
    · unfold lens at h2
      rw [List.getElem?_map] at h1 h2
      cases e : (R.map trim)[i]? with
      | none => rw [e] at h1; cases h1
      | some r =>
        rw [e] at h1 h2
        cases h1
        cases h2
        exact ⟨fun z => nat_zero.mpr (by have z2 : (r.length : Int) = 0 := z; omega), fun z => by have z1 := nat_zero.mp z; show (r.length : Int) = 0; omega⟩
    refine val_c _ ⟨_, _, rfl, rfl, ?_⟩
    dsimp only
    rw [show ((tlen (lens (R.map trim)) : Int) - 1 + 1) = (plen R : Int) by show ((plen R : Nat) : Int) - 1 + 1 = _; omega]
    have s123 := (s1.trans s2).trans s3
    have ha3 := s123 _ _ ha
    refine cb_one (l_slHi (val_var rfl) (SqL.of (s3 _ _ e2)) (n := (plen R : Int)) (val_var rfl) fun p H4 s4 e4 => ⟨p, _, rfl, .inl ⟨SqL.of e4, fun t ht => ?_⟩⟩)
    rw [cut_nat ys (plen R) (by omega)] at e4; rw [cut_nat ys (plen R) (by omega)]
    refine val_var rfl _ ⟨a, pnA mg, dx, [], rfl, (Same.new' ht) _ _ (s4 _ _ ha3), TP.cls, TP.no, by show 0 < 1000; decide, ?_⟩
    have keep : ∀ b o, H b = some o → b ≠ a → (upd (upd H4 t (.tup (ys.take (plen R)))) a (.ins (pnA mg) dx (putF "rows" (.ref t) []))) b = some o := fun b o e nb => by
      rw [upd_ne nb]
      exact (Same.new' ht) _ _ (s4 _ _ (s123 _ _ e))
    have nt : t ≠ a := fun z => by
      have := (s4 _ _ ha3)
      rw [← z, ht] at this
      cases this
    refine k t _ keep upd_same ⟨ys.take (plen R), by rw [upd_ne nt, upd_same], (all2_take al2 (plen R)).imp fun v r ⟨p, e, los⟩ => ⟨p, e, los.tu fun b zs eb => ?_⟩⟩
    rw [upd_ne (ne_of (s4 _ _ (s3 _ _ eb)) (s4 _ _ ha3) (by intro z; cases z))]
    exact (Same.new' ht) _ _ (s4 _ _ (s3 _ _ eb))
  · refine q_ifNot (c_areN (val_var rfl) h fun H1 s1 => ⟨_, rfl, ?_⟩)
    exact iteT (x_made1 (va_cons (val_var rfl) va_nil) fun d H' s n e => b d H' (fun x o z _ => s _ _ (s1 _ _ z)) (s1.free n) e)
/-- a polynomial of two letters -/
def PnAt (C : Addr) (H : Hp) (a : Addr) (R : List (List Rat)) : Prop := ∃ dx t, H a = some (.ins C dx [("rows", .ref t)]) ∧ Lss H t R ∧ Can R
theorem PnAt.same {C : Addr} {H H' : Hp} {a : Addr} {R : List (List Rat)} (h : PnAt C H a R) (s : L2.Same H H') : PnAt C H' a R := by
  obtain ⟨dx, t, e, l, z⟩ := h
  exact ⟨dx, t, s _ _ e, l.same s, z⟩
theorem made_plane {H1 : Hp} {v : V} {R : List (List Rat)} {Q : VK} {E : XK} (r : RwsR H1 v R) (k : ∀ a H', L2.Same H1 H' → PnAt (pnA mg) H' a (planeR R) → H1 a = none → Q (.ref a) H') :
    ∀ x dx, H1 x = none → H1 dx = none → dx ≠ x → spPInit mg (.ref x :: ([v] ++ [])) (upd (upd H1 dx (.own x)) x (.ins (pnA mg) dx [])) (fun v H2 => v = .non ∧ Q (.ref x) H2) E := fun x dx hx hdx ne => by
  have S : L2.Same H1 (upd (upd H1 dx (.own x)) x (.ins (pnA mg) dx [])) := fun b o e => by
    rw [upd_ne (ne_of_none e hx), upd_ne (ne_of_none e hdx)]
    exact e
  exact ⟨x, dx, v, rfl, upd_same, .inl ⟨R, r.same S, fun t H' keep e los => ⟨rfl, k x H' (fun b o z => keep _ _ (S _ _ z) (ne_of_none z hx)) ⟨dx, t, e, los, can_planeR R⟩ hx⟩⟩⟩
end
end LW

namespace LW
open PySem PySem.Spec PyProof.Rows L2 GL
/-! ### ratios over one bottom -/
/-- q is a whole number over D, at most M in size -/
def Bd (D M : Nat) (q : Rat) : Prop := q.den ∣ D ∧ q.num.natAbs ≤ M * q.den
theorem Bd.of {i : Int} {j D M : Nat} (hj : 0 < j) (hd : j ∣ D) (h : i.natAbs ≤ M * j) : Bd D M (Rat.divInt i (j : Int)) := by
  have hj' : (0 : Int) < (j : Int) := by omega
  have l := low_rat i hj'
  have g0 := gI_pos (i := i) hj'
  have gd := gI_dvd i (j : Int)
  have en : (Rat.divInt i (j : Int)).num * gI i (j : Int) = i := by rw [← l.1]; exact Int.ediv_mul_cancel gd.1
  have ed : ((Rat.divInt i (j : Int)).den : Int) * gI i (j : Int) = (j : Int) := by rw [← l.2]; exact Int.ediv_mul_cancel gd.2
  generalize hq : Rat.divInt i (j : Int) = q at *
  obtain ⟨g, hg⟩ : ∃ g : Nat, gI i (j : Int) = (g : Int) := ⟨(gI i (j : Int)).toNat, by omega⟩
  rw [hg] at en ed g0
  have ed2 : q.den * g = j := by
    have : ((q.den * g : Nat) : Int) = (j : Int) := by rw [Int.natCast_mul]; exact ed
    omega
  have en2 : q.num.natAbs * g = i.natAbs := by
    rw [← en, Int.natAbs_mul, Int.natAbs_natCast]
  refine ⟨Nat.dvd_trans ⟨g, ed2.symm⟩ hd, ?_⟩
  have gp : 0 < g := by omega
  refine Nat.le_of_mul_le_mul_right ?_ gp
  rw [en2, Nat.mul_assoc, ed2]
  exact h
theorem Bd.mono {D E M N : Nat} {q : Rat} (h : Bd D M q) (d : D ∣ E) (m : M ≤ N) : Bd E N q := ⟨Nat.dvd_trans h.1 d, Nat.le_trans h.2 (Nat.mul_le_mul_right _ m)⟩
theorem Bd.le {D M N : Nat} {q : Rat} (h : Bd D M q) (m : M ≤ N) : Bd D N q := h.mono (Nat.dvd_refl _) m
theorem Bd.zero {D M : Nat} : Bd D M 0 := ⟨Nat.one_dvd _, Nat.zero_le _⟩
theorem Bd.nat {D : Nat} (c : Nat) : Bd D c ((c : Nat) : Rat) := ⟨by
  have : ((c : Nat) : Rat).den = 1 := Rat.den_natCast c
  rw [this]
  exact Nat.one_dvd _, by
  rw [Rat.num_natCast, Rat.den_natCast, Nat.mul_one, Int.natAbs_natCast]
  exact Nat.le_refl _⟩
theorem Bd.neg {D M : Nat} {q : Rat} (h : Bd D M q) : Bd D M (-q) := ⟨by rw [Rat.neg_den]; exact h.1, by rw [Rat.neg_num, Int.natAbs_neg, Rat.neg_den]; exact h.2⟩
theorem Bd.mul {D E M N : Nat} {q r : Rat} (h : Bd D M q) (k : Bd E N r) : Bd (D * E) (M * N) (q * r) := by
  have e : q * r = Rat.divInt (q.num * r.num) ((q.den * r.den : Nat) : Int) := by rw [Rat.mul_def', ← Rat.divInt_ofNat]
  rw [e]
  refine Bd.of (Nat.mul_pos q.den_pos r.den_pos) (Nat.mul_dvd_mul h.1 k.1) ?_
  rw [Int.natAbs_mul, show M * N * (q.den * r.den) = (M * q.den) * (N * r.den) by simp only [Nat.mul_assoc, Nat.mul_left_comm, Nat.mul_comm]]
  exact Nat.mul_le_mul h.2 k.2
theorem lcm_addB {i k : Int} {a b : Nat} (ha : 0 < a) (hb : 0 < b) : Rat.divInt i (a : Int) + Rat.divInt k (b : Int) = Rat.divInt (i * ((Nat.lcm a b / a : Nat) : Int) + k * ((Nat.lcm a b / b : Nat) : Int)) ((Nat.lcm a b : Nat) : Int) := by
  have l0 : 0 < Nat.lcm a b := Nat.lcm_pos ha hb
  rw [Rat.divInt_add_divInt _ _ (by omega) (by omega)]
  refine (Rat.divInt_eq_divInt_iff (Int.mul_ne_zero (by omega) (by omega)) (by omega)).mpr ?_
  have e1 : (a : Int) * ((Nat.lcm a b / a : Nat) : Int) = ((Nat.lcm a b : Nat) : Int) := by
    rw [← Int.natCast_mul, Nat.mul_div_cancel' (Nat.dvd_lcm_left a b)]
  have e2 : (b : Int) * ((Nat.lcm a b / b : Nat) : Int) = ((Nat.lcm a b : Nat) : Int) := by
    rw [← Int.natCast_mul, Nat.mul_div_cancel' (Nat.dvd_lcm_right a b)]
  generalize ((Nat.lcm a b / a : Nat) : Int) = x at e1 ⊢
  generalize ((Nat.lcm a b / b : Nat) : Int) = y at e2 ⊢
  generalize ((Nat.lcm a b : Nat) : Int) = L at e1 e2 ⊢
  rw [Int.add_mul, Int.add_mul]
  have h1 : i * (b : Int) * L = i * x * ((a : Int) * (b : Int)) := by rw [← e1]; simp only [Int.mul_assoc, Int.mul_left_comm, Int.mul_comm]
  have h2 : k * (a : Int) * L = k * y * ((a : Int) * (b : Int)) := by rw [← e2]; simp only [Int.mul_assoc, Int.mul_left_comm, Int.mul_comm]
  rw [h1, h2]
/-- the sum of two pairs over their common bottom -/
theorem lcm_bd {i k : Int} {a b M N : Nat} (hi : i.natAbs ≤ M * a) (hk : k.natAbs ≤ N * b) : (i * ((Nat.lcm a b / a : Nat) : Int) + k * ((Nat.lcm a b / b : Nat) : Int)).natAbs ≤ (M + N) * Nat.lcm a b := by
  refine Nat.le_trans (Int.natAbs_add_le _ _) ?_
  rw [Int.natAbs_mul, Int.natAbs_mul, Int.natAbs_natCast, Int.natAbs_natCast, Nat.add_mul]
  refine Nat.add_le_add ?_ ?_
  · refine Nat.le_trans (Nat.mul_le_mul_right _ hi) ?_
    rw [Nat.mul_assoc, Nat.mul_div_cancel' (Nat.dvd_lcm_left a b)]
    exact Nat.le_refl _
  · refine Nat.le_trans (Nat.mul_le_mul_right _ hk) ?_
    rw [Nat.mul_assoc, Nat.mul_div_cancel' (Nat.dvd_lcm_right a b)]
    exact Nat.le_refl _
theorem rat_divInt (q : Rat) : Rat.divInt q.num (q.den : Int) = q := by rw [Rat.divInt_ofNat, Rat.mkRat_self]
theorem Bd.add {D M N : Nat} {q r : Rat} (h : Bd D M q) (k : Bd D N r) : Bd D (M + N) (q + r) := by
  have e : q + r = Rat.divInt (q.num * ((Nat.lcm q.den r.den / q.den : Nat) : Int) + r.num * ((Nat.lcm q.den r.den / r.den : Nat) : Int)) ((Nat.lcm q.den r.den : Nat) : Int) := by
    rw [← lcm_addB q.den_pos r.den_pos, rat_divInt, rat_divInt]
  rw [e]
  exact Bd.of (Nat.lcm_pos q.den_pos r.den_pos) (Nat.lcm_dvd h.1 k.1) (lcm_bd h.2 k.2)
/-- what may be reckoned with -/
structure Fz (D M : Nat) : Prop where
  d0 : 0 < D
  db : D < 2 ^ 1000
  mb : M * D < 2 ^ 1000
theorem Fz.le {D M N : Nat} (h : Fz D M) (l : N ≤ M) : Fz D N := ⟨h.d0, h.db, Nat.lt_of_le_of_lt (Nat.mul_le_mul_right _ l) h.mb⟩
theorem Bd.sm {D M : Nat} {q : Rat} (h : Bd D M q) (f : Fz D M) : Sm 1000 q := by
  have dl := Nat.le_of_dvd f.d0 h.1
  exact ⟨Nat.lt_of_le_of_lt (Nat.le_trans h.2 (Nat.mul_le_mul_left _ dl)) f.mb, Nat.lt_of_le_of_lt dl f.db⟩
theorem Bd.smA {D M A : Nat} {q : Rat} (h : Bd D M q) (d0 : 0 < D) (db : D < 2 ^ A) (mb : M * D < 2 ^ A) : Sm A q := by
  have dl := Nat.le_of_dvd d0 h.1
  exact ⟨Nat.lt_of_le_of_lt (Nat.le_trans h.2 (Nat.mul_le_mul_left _ dl)) mb, Nat.lt_of_le_of_lt dl db⟩
def Bds (D M : Nat) (xs : List Rat) : Prop := ∀ q ∈ xs, Bd D M q
theorem Bds.sm {D M : Nat} {xs : List Rat} (h : Bds D M xs) (f : Fz D M) : Sms 1000 xs := fun q hq => (h q hq).sm f
theorem Bds.co {D M : Nat} {xs : List Rat} (h : Bds D M xs) (i : Nat) : Bd D M (LW.co xs i) := by
  rcases Nat.lt_or_ge i xs.length with lt | ge
  · have e : xs[i]? = some xs[i] := List.getElem?_eq_getElem lt
    rw [co_some e]
    exact h _ (get_mem e)
  · rw [co_none ge]
    exact Bd.zero
end LW

namespace L2
open PySem PySem.Spec PySem.SeqAt PyProof.Rows
theorem max_rawD {prog : Program} {w : World} {A : Around} {E : Value → Shared → Prop} {s : Shared} {l : Addr} {its : List Value} {ns : List Int} {Q : Value → Shared → Prop} {d : Value} (hh : A.handled = none) (hl : s.heap.IsList l its.toArray) (hi : IntsAre its ns)
    (h0 : ns = [] → ∀ h' tk, (∀ b o, s.heap.get? b = some o → h'.get? b = some o) → Q d { s with heap := h', toks := tk })
    (h : ∀ h' tk M t', (∀ b o, s.heap.get? b = some o → h'.get? b = some o) → M ∈ ns → (∀ a, a ∈ ns → a ≤ M) → Q (.int M t') { s with heap := h', toks := tk }) : wpAny (model prog w) A (call (.builtin "max") [.ref l] [(Str.ofString "default", d)]) Q E s := by
  obtain ⟨xs, e⟩ := hi.allInts.items
  have hn : numsOf (intItems xs).toList = ns := by rw [← e]; exact hi.numsOf
  rw [nums_intItems] at hn
  subst hn
  rw [e] at hl
  have hs : (intItems xs).size = xs.size := by simp [intItems]
  refine call_max_walkD (PySem.W.iter_listW (A := A.in1) hh hl fun s₂ e W st hfp hw hk => ?_)
  refine ⟨_, _, _, _, _, _, _, s.heap, (fun i j => decide (numAt xs i > numAt xs j)), rfl, W, st, hfp, hw, hk, fun hz s' m => ?_, fun hp => ⟨fun i j vi vj s' Q' E' _ hi hj q => CmpOf.ints_gt (numAt xs) (fun _ _ => intItems_at) i j vi vj s' _ _ hi hj q, fun v s' hP m => ?_⟩⟩
  · obtain ⟨h', tk, rfl, hk'⟩ := PySem.W.moved_old e rfl m
    exact h0 (List.eq_nil_of_length_eq_zero (by rw [List.length_map, Array.length_toList]; omega)) h' tk hk'
  · obtain ⟨h', tk, rfl, hk'⟩ := PySem.W.moved_old e rfl m
    rw [hs] at hP hp
    obtain ⟨t, rfl⟩ := intItems_at hP
    obtain ⟨h1, h2⟩ := argBest_gt (numAt xs) (xs.size - 1)
    refine h h' tk _ t hk' ?_ fun a ha => ?_
    · rw [numAt_eq]; exact PySem.getD_mem (by rw [List.length_map, Array.length_toList]; omega)
    · obtain ⟨j, hj, rfl⟩ := mem_getD ha
      rw [List.length_map, Array.length_toList] at hj
      rw [← numAt_eq]; exact h2 j (by omega)
variable {X : Cx}
/-- max(xs, default=d) of a list of ints -/
def rMaxD (K : PySem.W.Frag) : List V → List V → Hp → VK → Prop := fun vs zs H Q => ∃ (a : Addr) (ns : List Int) (d : V), vs = [V.ref a] ∧ zs = [d] ∧ SqL K H a (ns.map V.int) ∧ (ns = [] → Q d H) ∧ ∀ m, m ∈ ns → (∀ y, y ∈ ns → y ≤ m) → Q (.int m) H
theorem cr_maxDef (hc : X.calm = true) : CallRK X (.builtin "max") [Str.ofString "default"] (rMaxD X.K) := by
  intro pins s σ H vs zs us ws Q I r rz h
  obtain ⟨a, ns, d, rfl, rfl, hs, q0, q⟩ := h
  obtain rfl := Vals.ref1 r
  obtain ⟨w1, rfl, e1⟩ := vals1 rz
  obtain ⟨its, rv, hl, _⟩ := I.list hs
  exact max_rawD (I.ok.hd hc) hl.isList rv.ints (fun z h' tk hk => ⟨d, H, I.kept hk, e1, q0 z⟩) fun h' tk m t' hk h1 h2 => ⟨.int _, H, I.kept hk, ⟨_, rfl⟩, q m h1 h2⟩
end L2

namespace LW
open PySem PySem.Spec PyProof.Rows L2 GL
section
variable {P : Program} {w : World} {K : PySem.W.Frag} {mg : Str → Option Value} {base : Heap}
theorem tup_one {σ : L2.St} {H : Hp} {t1 : TE} {Q : VK} (h : t1 σ H fun v H1 => 1 ≤ sizeLine ∧ ∀ q, H1 q = none → Q (.ref q) (upd H1 q (.tup [v]))) : tTup (tCons t1 tNil) σ H Q := h
theorem ne_of_some {H : Hp} {a b : Addr} {o : HO} (h : H b = some o) (n : H a = none) : a ≠ b := fun z => by rw [z, h] at n; cases n
def spBesideP (mg : Str → Option Value) : Sp := fun vs H Q _ => ∃ v, vs = [v] ∧ ((∃ a R, v = .ref a ∧ PnAt (pnA mg) H a R ∧ Q (.ref a) H) ∨ ∃ q, Bes H v q ∧ ∀ a H', Same H H' → PnAt (pnA mg) H' a (planeR [[q]]) → Q (.ref a) H')
theorem PlaneT.tyI (TP : PlaneT K mg) {H : Hp} {a : Addr} {R : List (List Rat)} (h : PnAt (pnA mg) H a R) : TyX K H (.ref a) (.ref (pnA mg)) := by
  obtain ⟨dx, t, e, _⟩ := h
  exact .base (.ins e TP.cls TP.hc TP.hn TP.ht TP.hm)
theorem ok_plane_beside (T : Txt K mg) (TP : PlaneT K mg) : FnOk P w K mg base CX0 10 (fA mg "_plane_beside") (fDat K (fA mg "_plane_beside")) ["value"] (spBesideP mg) := by
  have GPlane_init := ok_Plane_init (P := P) (w := w) (base := base) T TP
  have Gis_strict_ratio := ok_is_strict (P := P) (w := w) (base := base) T
  refine T._plane_beside.F.ok sc_plane_beside (fun vs H Q E h => ?_) (fun cdv A outer s H vs Q E hr h => ?_)
  · obtain ⟨v, rfl, _⟩ := h
    rfl
  obtain ⟨v, rfl, h⟩ := h
  refine ⟨_, (pss_cons (ps_if (pt_val (pe_callB call_isi (by rfl) T.isinstance (by decide +kernel) (pa_cons (pv 0) (pa_cons (pe_cls TP.g) pa_nil)))) (pss_one (ps_ret (pv 0))) pss_nil)
  (pss_cons (ps_if (pt_val (pe_c T.is_strict_ratio Gis_strict_ratio (hr.mono (by decide)) (pa_cons (pv 0) pa_nil))) (pss_one (ps_ret (pe_make TP.mkc GPlane_init (hr.mono (by decide)) (by rfl) TP.g TP.m_init.b .nil passL (pa_cons (pe_tup (pa_cons (pe_tup (pa_cons (pv 0) pa_nil)) pa_nil)) pa_nil)))) pss_nil)
  (pss_one (ps_ret pe_non)))), ?_⟩
  rcases h with ⟨a, R, rfl, hp, k⟩ | ⟨q, ⟨rq, kind⟩, k⟩
  · refine q_when (b := true) (ans_val (v_isO (val_var rfl) (TP.tyI hp) (kit_self K _))) (fun _ => st_ret (val_var rfl) k) (fun z => nomatch z)
  · obtain ⟨n, is, hn⟩ : ∃ n, Is H v n ∧ (n = "int" ∨ n = "tuple") := by
      rcases kind with ⟨i, rfl⟩ | ⟨t, xs, rfl, e⟩
      · exact ⟨_, .int i, .inl rfl⟩
      · exact ⟨_, .tup e, .inr rfl⟩
    have kf := TP.kf n hn
    refine q_unless (ans_val (v_isO (val_var rfl) (is.ty (K := K)).1 kf)) ?_
    refine q_cond1 (c_call (va_cons (val_var rfl) va_nil) ⟨v, n, rfl, rq.yes, is, fun H1 s1 => ⟨_, rfl, ?_⟩⟩)
    have e : (!decide (n = "list")) = true := by rcases hn with rfl | rfl <;> decide
    rw [e]
    refine iteT (r_ret (va_1 (tup_one (l_tup (va_cons (val_var rfl) va_nil) (by show 1 ≤ 100000; decide) fun t ht => ?_))))
    have s2 := Same.new' (o := .tup [v]) ht
    refine ⟨by decide, fun u hu => ?_⟩
    have s3 := Same.new' (o := .tup [V.ref t]) hu
    exact made_plane ⟨u, [.ref t], rfl, .inr upd_same, by show 1 ≤ 1000; decide, .cons ⟨t, [v], rfl, .inr (s3 _ _ upd_same), by show 1 ≤ 1000; decide, .cons (((rq.same s1).same s2).same s3) .nil⟩ .nil⟩ fun a H' s' pa _ => k a H' (((s1.trans s2).trans s3).trans s') pa

/-! ### comprehensions that make lists -/
section
variable {σ : L2.St} {H : Hp} {g : TG} {te ti : TE} {vs : List Nat} {Q : VK} {a : Addr} {xs : List V} {R : Addr → Nat → V → Hp → Prop}
def LcD (R : Addr → Nat → V → Hp → Prop) (H : Hp) (D : Addr) (i : Nat) (H' : Hp) : Prop := ∃ ys, L2.Same H H' ∧ H' D = some (.lst ys) ∧ H D = none ∧ Rows (R D) 0 i ys H'
def OffL (R : Addr → Nat → V → Hp → Prop) : Prop := ∀ D k v H ys zs, R D k v H → H D = some (.lst ys) → R D k v (upd H D (.lst zs))
theorem Run.offL {D : Addr} (of : OffL R) {H : Hp} {ws zs : List V} (e : H D = some (.lst ws)) : ∀ {k : Nat} {ys : List V}, Run (R D) k ys H → Run (R D) k ys (upd H D (.lst zs))
  | _, [], _ => trivial
  | _, _ :: _, ⟨x, y⟩ => ⟨of _ _ _ _ _ _ x e, Run.offL of e y⟩
theorem lcD_step (st : ∀ D k, Stays (R D k)) (of : OffL R) {x : V} {i : Nat} {D : Addr} {H1 : Hp} (p : LcD R H D i H1) (hn : i < 10000) (ht : L2.Same H H1 → (∃ ys, H1 D = some (.lst ys)) → Turn1 g te vs σ x H1 (R D i)) :
    g x (wipe σ vs) H1 fun σ2 H2 => wipe σ2 vs = wipe σ vs ∧ tYes σ2 H2 fun b H3 => if b = true then te σ2 H3 fun y H4 => ∃ acc, H4 D = some (.lst acc) ∧ acc.length < sizeLine ∧ LcD R H D (i + 1) (upd H4 D (.lst (acc ++ [y]))) else LcD R H D (i + 1) H3 := by
  obtain ⟨ys, s, e, nD, r⟩ := p
  refine ht s ⟨ys, e⟩ _ fun σ2 hw em => ⟨hw, ?_⟩
  show (if true = true then te _ _ _ else LcD R H D (i + 1) H1)
  rw [if_pos rfl]
  refine em _ fun v H4 s4 rv => ⟨ys, s4 _ _ e, by rw [r.2]; exact Nat.lt_of_lt_of_le hn (by decide), ys ++ [v], ?_, upd_same, nD, ?_⟩
  · intro b o z
    rw [upd_ne (ne_of_none z nD)]
    exact s4 _ _ (s b o z)
  · have r4 := Rows.stays (st D) ys H1 H4 s4 r
    refine ⟨Run.offL of (s4 _ _ e) (Run.app r4.1 ⟨?_, trivial⟩), by rw [List.length_append, r4.2]; rfl⟩
    rw [r4.2, Nat.zero_add]
    exact rv
theorem d_lcT (st : ∀ D k, Stays (R D k)) (of : OffL R) (h : Val ti σ H (.ref a)) (hx : SqT K H a xs) (hn : xs.length ≤ 10000) (hs : ∀ D i x H1, xs[i]? = some x → L2.Same H H1 → (∃ ys, H1 D = some (.lst ys)) → Turn1 g te vs σ x H1 (R D i))
    (q : ∀ p ys H', L2.Same H H' → H p = none → H' p = some (.lst ys) → Rows (R p) 0 xs.length ys H' → Q (.ref p) H') : tLc (iTup K ti) g tYes te vs σ H Q :=
  h _ ⟨a, rfl, ⟨xs, hx⟩, fun D hD => lc_tup (K := K) (a := a) (xs := xs) (LcD R H D) ⟨[], Same.new' hD, upd_same, hD, trivial, rfl⟩ (fun i H1 _ p => sqt_same p.choose_spec.1 hx) (fun i x H1 e p => lcD_step st of p (by
    have := (List.getElem?_eq_some_iff.mp e).1
    omega) (hs D i x H1 e)) (fun H1 ⟨ys, s, e, n, r⟩ => q D ys H1 s n e r)⟩
theorem d_lcR {n : Nat} {ta : TA} (st : ∀ D k, Stays (R D k)) (of : OffL R) (h : VA ta σ H [.int (n : Int)]) (hn : n ≤ 10000) (hs : ∀ D i H1, i < n → L2.Same H H1 → (∃ ys, H1 D = some (.lst ys)) → Turn1 g te vs σ (.int (i : Int)) H1 (R D i))
    (q : ∀ p ys H', L2.Same H H' → H p = none → H' p = some (.lst ys) → Rows (R p) 0 n ys H' → Q (.ref p) H') : tLc (iRng1 ta) g tYes te vs σ H Q := by
  refine h _ ⟨(n : Int), rfl, by omega, by omega, fun D hD => lc_range (lo := 0) (n := (n : Int).toNat) (LcD R H D) ⟨[], Same.new' hD, upd_same, hD, trivial, rfl⟩ (fun i H1 hi p => ?_) (fun H1 ⟨ys, s, e, n, r⟩ => q D ys H1 s n e (by rw [Int.toNat_natCast] at r; exact r))⟩
  rw [Int.zero_add]
  exact lcD_step st of p (by omega) (hs D i H1 (by omega))
end
/-! ### lists of told ratios -/
theorem LosL.off {H : Hp} {l D : Addr} {xs : List Rat} {ys zs : List V} (h : LosL H l xs) (ne : l ≠ D) (e : H D = some (.lst ys)) : LosL (upd H D (.lst zs)) l xs := by
  obtain ⟨vs, ev, al⟩ := h
  exact ⟨vs, by rw [upd_ne ne]; exact ev, al.imp fun v q ⟨p, h1, lo⟩ => ⟨p, h1, tu_lst e _ _ lo⟩⟩
theorem LosL.rowR {H : Hp} {l : Addr} {xs : List Rat} {N : Nat} (h : LosL H l xs) (sm : Sms N xs) (hN : N ≤ 1000) (hl : xs.length ≤ 1000) : RowR H (.ref l) xs := by
  obtain ⟨vs, ev, al⟩ := h
  refine ⟨l, vs, rfl, .inl ev, by rw [al.len]; exact hl, All2.mk al.len fun i v q hv hq => ?_⟩
  obtain ⟨q', h1, p, rfl, lo⟩ := al.get hv
  rw [hq] at h1
  cases h1
  exact lo.rq (sm q (get_mem hq)) hN
theorem All2.append {α β : Type} {R : α → β → Prop} {as cs : List α} {bs ds : List β} (h : All2 R as bs) (k : All2 R cs ds) : All2 R (as ++ cs) (bs ++ ds) := by
  induction h with
  | nil => exact k
  | cons r _ ih => exact .cons r ih
theorem all2_drop {α β : Type} {R : α → β → Prop} {as : List α} {bs : List β} (h : All2 R as bs) (k : Nat) : All2 R (as.drop k) (bs.drop k) :=
  All2.mk (by rw [List.length_drop, List.length_drop, h.len]) fun i a b ha hb => by
    rw [List.getElem?_drop] at ha hb
    obtain ⟨b', e, r⟩ := h.get ha
    rw [hb] at e
    cases e
    exact r
/-- rows of lists -/
def RwL (F : Nat → List Rat) : Addr → Nat → V → Hp → Prop := fun D i v H => ∃ l, v = V.ref l ∧ l ≠ D ∧ LosL H l (F i)
theorem rwl_st (F : Nat → List Rat) : ∀ D k, Stays (RwL F D k) := fun D k v H1 H2 s ⟨l, h1, h2, h3⟩ => ⟨l, h1, h2, h3.same s⟩
theorem rwl_off (F : Nat → List Rat) : OffL (RwL F) := fun D k v H ys zs ⟨l, h1, h2, h3⟩ e => ⟨l, h1, h2, h3.off h2 e⟩
theorem rwl_rows {F : Nat → List Rat} {n N : Nat} {D : Addr} {vs : List V} {H : Hp} (r : Rows (RwL F D) 0 n vs H) (b : ∀ i, i < n → Sms N (F i)) (l : N ≤ 1000) (w : ∀ i, i < n → (F i).length ≤ 1000) : All2 (RowR H) vs ((List.range n).map F) :=
  All2.mk (by rw [r.2, List.length_map, List.length_range]) fun i v q hv hq => by
    have hi : i < n := by rw [← r.2]; exact (List.getElem?_eq_some_iff.mp hv).1
    obtain ⟨p, rfl, _, lo⟩ := r.1.get hv
    rw [Nat.zero_add] at lo
    rw [List.getElem?_map, List.getElem?_range hi] at hq
    cases hq
    exact lo.rowR (b i hi) l (w i hi)
theorem rwl_rws {F : Nat → List Rat} {n N : Nat} {D : Addr} {vs : List V} {H : Hp} (e : H D = some (.lst vs)) (r : Rows (RwL F D) 0 n vs H) (b : ∀ i, i < n → Sms N (F i)) (l : N ≤ 1000) (w : ∀ i, i < n → (F i).length ≤ 1000) (hn : n ≤ 1000) : RwsR H (.ref D) ((List.range n).map F) :=
  ⟨D, vs, rfl, .inl e, by rw [r.2]; omega, rwl_rows r b l w⟩
theorem co_range {n : Nat} {f : Nat → Rat} (j : Nat) : co ((List.range n).map f) j = if j < n then f j else 0 := by
  split
  · rename_i h
    exact co_some (by rw [List.getElem?_map, List.getElem?_range h]; rfl)
  · exact co_none (by rw [List.length_map, List.length_range]; omega)
theorem cf2_grid {N : Nat} {F : Nat → List Rat} (i j : Nat) : cf2 ((List.range N).map F) i j = if i < N then co (F i) j else 0 := by
  unfold cf2
  split
  · rename_i h
    rw [rowAt_some (r := F i) (by rw [List.getElem?_map, List.getElem?_range h]; rfl)]
  · rw [rowAt_none (by rw [List.length_map, List.length_range]; omega)]
    rfl

/-! ### a row, and sums of rows -/
theorem v_rows (TP : PlaneT K mg) {σ : L2.St} {H : Hp} {te : TE} {a t dx : Addr} (h : Val te σ H (.ref a)) (e : H a = some (.ins (pnA mg) dx [("rows", .ref t)])) : Val (tFld K te "rows") σ H (.ref t) := fun Q q =>
  h _ ⟨a, pnA mg, dx, _, .ref t, rfl, e, TP.cls, TP.no, rfl, q⟩
theorem v_lenS {σ : L2.St} {H : Hp} {te : TE} {t : Addr} {R : List (List Rat)} (h : Val te σ H (.ref t)) (l : Lss H t R) : Val (tCB (fun xs H Q => ∃ p ys, xs = [.ref p] ∧ (SqL K H p ys ∨ SqT K H p ys) ∧ Q (.int ys.length) H) (tCons te tNil)) σ H (.int (R.length : Int)) := by
  obtain ⟨vs, e, al⟩ := l
  rw [← al.len]
  exact v_len h (.inr (SqT.of e))
def spPRow (mg : Str → Option Value) : Sp := fun vs H Q _ => ∃ (a : Addr) (i : Nat) (R : List (List Rat)), vs = [.ref a, .int (i : Int)] ∧ PnAt (pnA mg) H a R ∧ ∀ p H', L2.Same H H' → Los H' p (rowAt R i) → Q (.ref p) H'
theorem ok_plane_row (T : Txt K mg) (TP : PlaneT K mg) : FnOk P w K mg base CX0 1 (fA mg "_row") (fDat K (fA mg "_row")) ["plane", "i"] (spPRow mg) := by
  refine T._row.F.ok sc_row (fun vs H Q E h => ?_) (fun cdv A outer s H vs Q E hr h => ?_)
  · obtain ⟨a, i, R, rfl, _⟩ := h
    rfl
  obtain ⟨a, i, R, rfl, ⟨dx, t, e, los, tl⟩, k⟩ := h
  refine ⟨_, (pss_one (ps_ret (pe_ifExp (pt_cmpR op_lt (pv 1) (pe_callB call_len_seq (by rfl) T.len PySem.boot_len (pa_cons (pe_fld (pv 0) (by rfl)) pa_nil)) (nomark _)) (pe_ix ix_tup (pe_fld (pv 0) (by rfl)) (pv 1) (fun _ _ => rfl)) (pe_tup pa_nil)))), ?_⟩
  have los' := los
  obtain ⟨vs, ev, al⟩ := los'
  refine r_ret ((a_I (i := (i : Int)) (j := (R.length : Int)) (val_var rfl) (v_lenS (v_rows TP (val_var rfl) e) los)) _ ?_)
  rcases Nat.lt_or_ge i R.length with lt | ge
  · rw [decide_eq_true (by omega : (i : Int) < (R.length : Int))]
    have lv : i < vs.length := by rw [al.len]; exact lt
    obtain ⟨q, hq, p, hp, lo⟩ := al.get (List.getElem?_eq_getElem lv)
    refine iteT ((v_ixT (n := i) (v := .ref p) (v_rows TP (val_var rfl) e) (val_var rfl) (SqT.of ev) (by rw [List.getElem?_eq_getElem lv, hp])) _ (k p H (Same.refl H) ?_))
    rw [rowAt_some hq]
    exact lo
  · rw [decide_eq_false (by omega : ¬ (i : Int) < (R.length : Int))]
    refine iteF (l_tup va_nil (by decide) fun p hp => k p _ (Same.new' hp) ?_)
    rw [rowAt_none ge]
    exact ⟨[], upd_same, .nil⟩
theorem c_prow {te tf : TE} {σ : L2.St} {H : Hp} {a : Addr} {i : Nat} {R : List (List Rat)} {Q : VK} {E : XK} (h : Val te σ H (.ref a)) (hi : Val tf σ H (.int (i : Int))) (pa : PnAt (pnA mg) H a R) (k : ∀ p H', L2.Same H H' → Los H' p (rowAt R i) → Q (.ref p) H') : tCall (spPRow mg) [] E (tCons te (tCons tf tNil)) σ H Q :=
  c_call (va_cons h (va_cons hi va_nil)) ⟨a, i, R, rfl, pa, k⟩
def rsumL (xs ys : List Rat) : List Rat := (List.range (max xs.length ys.length)).map fun j => co xs j + co ys j
theorem rsumL_eq (xs ys : List Rat) : ((List.range (min xs.length ys.length)).map fun j => co xs j + co ys j) ++ xs.drop (min xs.length ys.length) ++ ys.drop (min xs.length ys.length) = rsumL xs ys := by
  have l1 : (((List.range (min xs.length ys.length)).map fun j => co xs j + co ys j) ++ xs.drop (min xs.length ys.length)).length = xs.length := by
    rw [List.length_append, List.length_map, List.length_range, List.length_drop]
    omega
  refine List.ext_getElem? fun i => ?_
  unfold rsumL
  rcases Nat.lt_or_ge i xs.length with h1 | h1
  · rw [List.getElem?_append_left (by omega), List.getElem?_map, List.getElem?_range (by omega : i < max xs.length ys.length)]
    rcases Nat.lt_or_ge i (min xs.length ys.length) with h2 | h2
    · rw [List.getElem?_append_left (by rw [List.length_map, List.length_range]; exact h2), List.getElem?_map, List.getElem?_range h2]
    · rw [List.getElem?_append_right (by rw [List.length_map, List.length_range]; exact h2), List.length_map, List.length_range, List.getElem?_drop, show min xs.length ys.length + (i - min xs.length ys.length) = i by omega, List.getElem?_eq_getElem h1]
      show _ = some (co xs i + co ys i)
      rw [co_some (List.getElem?_eq_getElem h1), co_none (by omega : ys.length ≤ i), Rat.add_zero]
  · rw [List.getElem?_append_right (by rw [l1]; exact h1), l1, List.getElem?_drop, List.getElem?_map]
    rcases Nat.lt_or_ge i ys.length with h2 | h2
    · rw [List.getElem?_range (by omega : i < max xs.length ys.length), show min xs.length ys.length + (i - xs.length) = i by omega, List.getElem?_eq_getElem h2]
      show _ = some (co xs i + co ys i)
      rw [co_some (List.getElem?_eq_getElem h2), co_none h1, Rat.zero_add]
    · rw [List.getElem?_eq_none (by omega), List.getElem?_eq_none (l := List.range _) (by rw [List.length_range]; omega)]
      rfl
theorem co_rsumL (xs ys : List Rat) (j : Nat) : co (rsumL xs ys) j = co xs j + co ys j := by
  unfold rsumL
  rw [co_range]
  split
  · rfl
  · rw [co_none (by omega), co_none (by omega), Rat.add_zero]
theorem cut_from (xs : List V) (k : Nat) : cutV xs (some (k : Int)) none = xs.drop k := by
  unfold cutV
  rw [HT.sIx_none, HT.sIx_nat]
  rcases Nat.le_total k xs.length with h | h
  · rw [Nat.min_eq_left h, List.take_of_length_le (by rw [List.length_drop]; omega)]
  · rw [Nat.min_eq_right h, List.drop_of_length_le (Nat.le_refl _), List.drop_of_length_le h, List.take_nil]
theorem sl_lo {te t : TE} {σ : L2.St} {H : Hp} {Q : VK} {v : V} {r : V → Option Int → Option Int → Hp → VK → Prop} (h : Val te σ H v) (q : t σ H fun x H1 => ∃ i, x = .int i ∧ r v (some i) none H1 Q) : tSl r te (tPart t) tNoPart σ H Q := h _ q
theorem tail_list {σ : L2.St} {H : Hp} {te tf : TE} {t : Addr} {k : Nat} {xs : List Rat} {Q : VK} (h : Val te σ H (.ref t)) (hk : Val tf σ H (.int (k : Int))) (los : Los H t xs) (kk : k ≤ xs.length) (q : ∀ l H', L2.Same H H' → H l = none → LosL H' l (xs.drop k) → Q (.ref l) H') :
    tCB (fun xs H Q => ∃ p ys, xs = [.ref p] ∧ (SqL K H p ys ∨ SqT K H p ys) ∧ ∀ l, H l = none → Q (.ref l) (upd H l (.lst ys))) (tCons (tSl (rSlA K) te (tPart tf) tNoPart) tNil) σ H Q := by
  obtain ⟨vs, ev, al⟩ := los
  have lv := al.len
  refine cb_one (sl_lo h (hk _ ⟨_, rfl, t, vs, rfl, SqT.of ev, fun w => ?_, fun w p hp => ?_⟩))
  · rw [HT.sIx_nat] at w
    have k0 : k = 0 := by omega
    subst k0
    refine ⟨t, vs, rfl, .inr (SqT.of ev), fun l hl => q l _ (Same.new' hl) hl ?_⟩
    exact LosL.same (H := upd H l (.lst vs)) ⟨vs, upd_same, (by rw [List.drop_zero]; exact al.imp fun v q ⟨p, h1, lo⟩ => ⟨p, h1, lo.same (Same.new' hl)⟩)⟩ (Same.refl _)
  · rw [cut_from]
    refine ⟨p, vs.drop k, rfl, .inr (SqT.of upd_same), fun l hl => ?_⟩
    have s1 := Same.new' (o := .tup (vs.drop k)) hp
    have s2 := Same.new' (o := .lst (vs.drop k)) hl
    exact q l _ (s1.trans s2) (s1.free hl) ⟨vs.drop k, upd_same, (all2_drop al k).imp fun v q ⟨p, h1, lo⟩ => ⟨p, h1, (lo.same s1).same s2⟩⟩
def spRowSum : Sp := fun vs H Q _ => ∃ (t u : Addr) (xs ys : List Rat) (n m : Nat), vs = [.ref t, .ref u] ∧ Los H t xs ∧ Los H u ys ∧ Sms n xs ∧ Sms m ys ∧ 1 ≤ n ∧ 1 ≤ m ∧ n ≤ 1000 ∧ m ≤ 1000 ∧ xs.length ≤ 400 ∧ ys.length ≤ 400 ∧ ∀ l H', L2.Same H H' → H l = none → LosL H' l (rsumL xs ys) → Q (.ref l) H'
theorem cat_losL {H : Hp} {l l' : Addr} {xs ys : List Rat} {Q : VK} (h : LosL H l xs) (k : LosL H l' ys) (hl : xs.length + ys.length ≤ 10000) (q : ∀ p H', L2.Same H H' → H p = none → LosL H' p (xs ++ ys) → Q (.ref p) H') : rCat (.ref l) (.ref l') H Q := by
  obtain ⟨vs, e, al⟩ := h
  obtain ⟨us, e', al'⟩ := k
  refine ⟨l, l', vs, us, rfl, rfl, e, e', ?_, fun p hp => ?_⟩
  · rw [al.len, al'.len]
    exact Nat.le_trans hl (by decide)
  · have s := Same.new' (o := .lst (vs ++ us)) hp
    exact q p _ s hp ⟨vs ++ us, upd_same, (al.append al').imp fun v q ⟨p, h1, lo⟩ => ⟨p, h1, lo.same s⟩⟩
theorem ok_row_sum (T : Txt K mg) : FnOk P w K mg base CX0 8 (fA mg "_row_sum") (fDat K (fA mg "_row_sum")) ["row", "other"] spRowSum := by
  have Gplus := ok_plus (P := P) (w := w) (base := base) T
  refine T._row_sum.F.ok sc_row_sum (fun vs H Q E h => ?_) (fun cdv A outer s H vs Q E hr h => ?_)
  · obtain ⟨t, u, xs, ys, n, m, rfl, _⟩ := h
    rfl
  obtain ⟨t, u, xs, ys, n, m, rfl, lx, ly, sx, sy, n1, m1, hn, hm, hx, hy, k⟩ := h
  refine ⟨_, (pss_cons (ps_set (i := 2) sc_row_sum.nd rfl (Or.inl rfl) (pe_callB (call_min2 rfl) (by rfl) T.min (by decide +kernel) (pa_cons (pe_callB call_len_seq (by rfl) T.len PySem.boot_len (pa_cons (pv 0) pa_nil)) (pa_cons (pe_callB call_len_seq (by rfl) T.len PySem.boot_len (pa_cons (pv 1) pa_nil)) pa_nil))))
  (pss_one (ps_ret (pe_op op_cat (pe_op op_cat (pe_lc (own := [("j", 3)]) (g := gName 3) (tt := tYes) (by rfl) sc_row_sum.nd (pi_range1 (by rfl) T.range (pa_cons (pv 2) pa_nil)) (blkOk_by (own := [("j", 3)]) (N := ["row", "other", "shared", "j"]) (sc := defScope s_row_sum) (by decide +kernel)) (fun _ _ _ _ _ => pg_name (i := 3) sc_row_sum.nd rfl (Or.inl rfl)) (fun _ _ _ _ _ => pts_nil) (fun _ _ _ _ _ => (pe_call Gplus (hr.mono (by decide)) (by rfl) T.plus.g T.plus.F.kp T.plus.b .nil passL (pa_cons (pe_ix (show IxR _ (rIxT K) from ix_tup) (pv 0) (pv 3) (fun _ _ => rfl)) (pa_cons (pe_ix (show IxR _ (rIxT K) from ix_tup) (pv 1) (pv 3) (fun _ _ => rfl)) pa_nil))))) (pe_callTy call_list_of (by rfl) T.list (by decide +kernel) (pa_cons (pe_slice sl_tupA (pv 0) (po_some (pv 2)) po_none) pa_nil))) (pe_callTy call_list_of (by rfl) T.list (by decide +kernel) (pa_cons (pe_slice sl_tupA (pv 1) (po_some (pv 2)) po_none) pa_nil)))))), ?_⟩
  obtain ⟨vs, ev, al⟩ := lx
  obtain ⟨us, eu, al'⟩ := ly
  have lx : Los H t xs := ⟨vs, ev, al⟩
  have ly : Los H u ys := ⟨us, eu, al'⟩
  have l1 := al.len
  have l2 := al'.len
  refine q_set (v := .int ((min xs.length ys.length : Nat) : Int)) (v_cb (va_cons (v_lenL (val_var rfl) lx) (va_cons (v_lenL (val_var rfl) ly) va_nil)) fun Q' q' => ⟨_, _, rfl, by
    have e : (if (ys.length : Int) < (xs.length : Int) then (ys.length : Int) else (xs.length : Int)) = ((min xs.length ys.length : Nat) : Int) := by split <;> omega
    rw [e]
    exact q'⟩) ?_
  refine r_ret (op_in (op_in (l_lcR (n := min xs.length ys.length) (R := fun i v H => ∃ p, v = V.ref p ∧ Lo H p (co xs i + co ys i)) (fun i v H1 H2 s ⟨p, h1, lo⟩ => ⟨p, h1, lo.same s⟩) (lo_offR _) (va_cons (val_var rfl) va_nil) (by omega) (fun i H1 hi s1 => turn_name rfl fun Q q => ?_) (fun l zs H1 s1 e1 r1 => ?_))))
  · obtain ⟨x, hx2, p, hp, lo⟩ := al.get (List.getElem?_eq_getElem (by omega : i < vs.length))
    obtain ⟨y, hy2, p', hp', lo'⟩ := al'.get (List.getElem?_eq_getElem (by omega : i < us.length))
    refine c_plus (va_cons (v_ixT (n := i) (v := .ref p) (val_var rfl) (val_var rfl) (SqT.of (s1 _ _ ev)) (by rw [List.getElem?_eq_getElem (by omega : i < vs.length), hp])) (va_cons (v_ixT (n := i) (v := .ref p') (val_var rfl) (val_var rfl) (SqT.of (s1 _ _ eu)) (by rw [List.getElem?_eq_getElem (by omega : i < us.length), hp'])) va_nil)) ((lo.same s1).rq (sx x (get_mem hx2)) (by omega)) ((lo'.same s1).rq (sy y (get_mem hy2)) (by omega)) fun p2 H4 s4 lo4 => q _ H4 s4 ⟨p2, rfl, ?_⟩
    rw [co_some hx2, co_some hy2]
    exact lo4
  have lz : LosL H1 l ((List.range (min xs.length ys.length)).map fun j => co xs j + co ys j) := ⟨zs, e1, All2.mk (by rw [r1.2, List.length_map, List.length_range]) fun i v q hv hq => by
    have hi : i < min xs.length ys.length := by rw [← r1.2]; exact (List.getElem?_eq_some_iff.mp hv).1
    obtain ⟨p, rfl, lo⟩ := r1.1.get hv
    rw [Nat.zero_add] at lo
    rw [List.getElem?_map, List.getElem?_range hi] at hq
    cases hq
    exact ⟨p, rfl, lo⟩⟩
  refine tail_list (k := min xs.length ys.length) (val_var rfl) (val_var rfl) (lx.same s1) (by omega) fun l2 H2 s2 n2 lz2 => ?_
  refine cat_losL (lz.same s2) lz2 (by rw [List.length_map, List.length_range, List.length_drop]; omega) fun l3 H3 s3 n3 lz3 => ?_
  refine tail_list (k := min xs.length ys.length) (val_var rfl) (val_var rfl) (((ly.same s1).same s2).same s3) (by omega) fun l4 H4 s4 n4 lz4 => ?_
  refine cat_losL (lz3.same s4) lz4 (by rw [List.length_append, List.length_map, List.length_range, List.length_drop, List.length_drop]; omega) fun l5 H5 s5 n5 lz5 => ?_
  rw [rsumL_eq] at lz5
  exact k l5 H5 ((((s1.trans s2).trans s3).trans s4).trans s5) ((((s1.trans s2).trans s3).trans s4).free n5) lz5
/-! ### sums -/
/-- rows whose numbers lie over one bottom, with no powers above a degree -/
structure Nice (D M d : Nat) (R : List (List Rat)) : Prop where
  bd : ∀ i j, Bd D M (cf2 R i j)
  dg : ∀ i j, d < i + j → cf2 R i j = 0
theorem Can.rowT {R : List (List Rat)} (c : Can R) (i : Nat) : tlen (rowAt R i) = (rowAt R i).length := by
  rcases Nat.lt_or_ge i R.length with lt | ge
  · rw [rowAt_some (List.getElem?_eq_getElem lt)]
    exact c.row _ (List.getElem_mem lt)
  · rw [rowAt_none ge]; rfl
theorem Can.rowL {R : List (List Rat)} {d : Nat} (c : Can R) (z : ∀ i j, d < i + j → cf2 R i j = 0) (i : Nat) : (rowAt R i).length = 0 ∨ i + (rowAt R i).length ≤ d + 1 := by
  rcases Nat.eq_zero_or_pos (rowAt R i).length with h | h
  · exact .inl h
  · obtain ⟨n, hn⟩ : ∃ n, (rowAt R i).length = n + 1 := ⟨(rowAt R i).length - 1, by omega⟩
    obtain ⟨q, e, nz⟩ := tlen_last ((c.rowT i).trans hn)
    refine .inr ?_
    rcases Nat.lt_or_ge d (i + n) with lt | ge
    · have := z i n lt
      unfold cf2 at this
      rw [co_some e] at this
      exact (nz this).elim
    · omega
theorem Can.len {R : List (List Rat)} {d : Nat} (c : Can R) (z : ∀ i j, d < i + j → cf2 R i j = 0) : R.length ≤ d + 1 := by
  rcases Nat.eq_zero_or_pos R.length with h | h
  · omega
  · obtain ⟨n, hn⟩ : ∃ n, R.length = n + 1 := ⟨R.length - 1, by omega⟩
    obtain ⟨q, e, nz⟩ := tlen_last (xs := lens R) (c.top.trans hn)
    unfold lens at e
    have lt : n < R.length := by omega
    rw [List.getElem?_map, List.getElem?_eq_getElem lt] at e
    have e2 : ((R[n].length : Nat) : Rat) = q := Option.some.inj e
    have nz2 : R[n].length ≠ 0 := fun z0 => nz (by rw [← e2, z0]; rfl)
    have := c.rowL z n
    rw [rowAt_some (List.getElem?_eq_getElem lt)] at this
    omega
theorem Nice.len {D M d : Nat} {R : List (List Rat)} (h : Nice D M d R) (c : Can R) (i : Nat) : (rowAt R i).length ≤ d + 1 := by
  rcases c.rowL h.dg i with z | z <;> omega
theorem Nice.row {D M d : Nat} {R : List (List Rat)} (h : Nice D M d R) (i : Nat) : Bds D M (rowAt R i) := fun q hq => by
  obtain ⟨j, hj, e⟩ := List.getElem_of_mem hq
  have := h.bd i j
  unfold cf2 at this
  rw [co_some (by rw [List.getElem?_eq_getElem hj, e])] at this
  exact this
theorem Nice.lenR {D M d : Nat} {R : List (List Rat)} (h : Nice D M d R) (c : Can R) : R.length ≤ d + 1 := c.len h.dg
theorem Bds.rsumL {D M N : Nat} {xs ys : List Rat} (h : Bds D M xs) (k : Bds D N ys) : Bds D (M + N) (rsumL xs ys) := fun q hq => by
  obtain ⟨i, _, rfl⟩ := List.mem_map.mp hq
  exact (h.co i).add (k.co i)
def planeSum (R S : List (List Rat)) : List (List Rat) := planeR ((List.range (max R.length S.length)).map fun i => rsumL (rowAt R i) (rowAt S i))
def spTwoPl (mg : Str → Option Value) (B : Nat → Nat → Nat → Nat → Nat → Nat → Prop) (f : List (List Rat) → List (List Rat) → List (List Rat)) : Sp := fun vs H Q _ => ∃ (a b : Addr) (R S : List (List Rat)) (D M d E N e : Nat), vs = [.ref a, .ref b] ∧ PnAt (pnA mg) H a R ∧ PnAt (pnA mg) H b S ∧ Nice D M d R ∧ Nice E N e S ∧ B D M d E N e ∧
  ∀ c H', L2.Same H H' → PnAt (pnA mg) H' c (f R S) → Q (.ref c) H'
def BSum (D M d E N e : Nat) : Prop := D = E ∧ Fz D (M + N) ∧ d ≤ 300 ∧ e ≤ 300
theorem ok_plane_sum (T : Txt K mg) (TP : PlaneT K mg) : FnOk P w K mg base CX0 10 (fA mg "_plane_sum") (fDat K (fA mg "_plane_sum")) ["one", "other"] (spTwoPl mg BSum planeSum) := by
  have GPlane_init := ok_Plane_init (P := P) (w := w) (base := base) T TP
  have G_row := ok_plane_row (P := P) (w := w) (base := base) T TP
  have G_row_sum := ok_row_sum (P := P) (w := w) (base := base) T
  refine T._plane_sum.F.ok sc_plane_sum (fun vs H Q E h => ?_) (fun cdv A outer s H vs Q E hr h => ?_)
  · obtain ⟨a, b, R, S, D0, M0, d0, E0, N0, e0, rfl, _⟩ := h
    rfl
  obtain ⟨a, b, R, S, D0, M0, d0, E0, N0, e0, rfl, pa, pb, nR, nS, ⟨rfl, fz, hd, he⟩, k⟩ := h
  refine ⟨_, (pss_cons (ps_set (i := 2) sc_plane_sum.nd rfl (Or.inl rfl) (pe_callB (call_max2 rfl) (by rfl) T.max (by decide +kernel) (pa_cons (pe_callB call_len_seq (by rfl) T.len PySem.boot_len (pa_cons (pe_fld (pv 0) (by rfl)) pa_nil)) (pa_cons (pe_callB call_len_seq (by rfl) T.len PySem.boot_len (pa_cons (pe_fld (pv 1) (by rfl)) pa_nil)) pa_nil))))
  (pss_one (ps_ret (pe_make TP.mkc GPlane_init (hr.mono (by decide)) (by rfl) TP.g TP.m_init.b .nil passL (pa_cons (pe_lc (own := [("i", 3)]) (g := gName 3) (tt := tYes) (by rfl) sc_plane_sum.nd (pi_range1 (by rfl) T.range (pa_cons (pv 2) pa_nil)) (blkOk_by (own := [("i", 3)]) (N := ["one", "other", "many", "i"]) (sc := defScope s_plane_sum) (by decide +kernel)) (fun _ _ _ _ _ => pg_name (i := 3) sc_plane_sum.nd rfl (Or.inl rfl)) (fun _ _ _ _ _ => pts_nil) (fun _ _ _ _ _ => (pe_c T._row_sum G_row_sum (hr.mono (by decide)) (pa_cons (pe_c T._row G_row (hr.mono (by decide)) (pa_cons (pv 0) (pa_cons (pv 3) pa_nil))) (pa_cons (pe_c T._row G_row (hr.mono (by decide)) (pa_cons (pv 1) (pa_cons (pv 3) pa_nil))) pa_nil))))) pa_nil))))), ?_⟩
  obtain ⟨dx, t, e, los, cR⟩ := pa
  obtain ⟨dy, t', e', los', cS⟩ := pb
  have pa : PnAt (pnA mg) H a R := ⟨dx, t, e, los, cR⟩
  have pb : PnAt (pnA mg) H b S := ⟨dy, t', e', los', cS⟩
  have lR := nR.lenR cR
  have lS := nS.lenR cS
  have fM := fz.le (Nat.le_add_right M0 N0)
  have fN := fz.le (Nat.le_add_left N0 M0)
  refine q_set (v := .int ((max R.length S.length : Nat) : Int)) (v_cb (va_cons (v_lenS (v_rows TP (val_var rfl) e) los) (va_cons (v_lenS (v_rows TP (val_var rfl) e') los') va_nil)) fun Q' q' => ⟨_, _, rfl, by
    have e : (if (S.length : Int) > (R.length : Int) then (S.length : Int) else (R.length : Int)) = ((max R.length S.length : Nat) : Int) := by split <;> omega
    rw [e]
    exact q'⟩) ?_
  refine r_ret (va_1 (d_lcR (n := max R.length S.length) (R := RwL fun i => rsumL (rowAt R i) (rowAt S i)) (rwl_st _) (rwl_off _) (va_cons (val_var rfl) va_nil) (by omega) (fun D i H1 hi s1 eD => turn_name rfl fun Q q => ?_) (fun l zs H1 s1 nl e1 r1 => ?_)))
  · refine call_1 (c_prow (val_var rfl) (val_var rfl) (pa.same s1) fun p H2 s2 l2 => va_1 ?_)
    refine c_prow (val_var rfl) (val_var rfl) ((pb.same s1).same s2) fun p' H3 s3 l3 => ?_
    refine ⟨p, p', _, _, 1000, 1000, rfl, l2.same s3, l3, (nR.row i).sm fM, (nS.row i).sm fN, by decide, by decide, by decide, by decide, Nat.le_trans (nR.len cR i) (by omega), Nat.le_trans (nS.len cS i) (by omega), fun l H4 s4 n4 lz => ?_⟩
    obtain ⟨ys, eD⟩ := eD
    exact q _ H4 ((s2.trans s3).trans s4) ⟨l, rfl, ne_of_some ((s2.trans s3) _ _ eD) n4, lz⟩
  · have wR : ∀ i, (rsumL (rowAt R i) (rowAt S i)).length ≤ 400 := fun i => by
      unfold rsumL
      rw [List.length_map, List.length_range]
      have := nR.len cR i
      have := nS.len cS i
      omega
    exact made_plane (rwl_rws e1 r1 (N := 1000) (fun i _ => ((nR.row i).rsumL (nS.row i)).sm fz) (by decide) (fun i _ => by have := wR i; omega) (by omega)) fun c H' s' pc _ => k c H' (s1.trans s') pc
theorem cf2_planeSum (R S : List (List Rat)) (i j : Nat) : cf2 (planeSum R S) i j = cf2 R i j + cf2 S i j := by
  unfold planeSum
  rw [cf2_planeR, cf2_grid]
  unfold cf2
  split
  · exact co_rsumL _ _ j
  · rw [rowAt_none (by omega : R.length ≤ i), rowAt_none (by omega : S.length ≤ i), co_none (Nat.zero_le j), Rat.add_zero]
theorem Nice.sum {D M d N e : Nat} {R S : List (List Rat)} (h : Nice D M d R) (k : Nice D N e S) : Nice D (M + N) (max d e) (planeSum R S) := ⟨fun i j => by
  rw [cf2_planeSum]
  exact (h.bd i j).add (k.bd i j), fun i j l => by
  rw [cf2_planeSum, h.dg i j (by omega), k.dg i j (by omega), Rat.add_zero]⟩
end
end LW

namespace LW
open PySem PySem.Spec PyProof.Rows L2 GL
section
variable {P : Program} {w : World} {K : PySem.W.Frag} {mg : Str → Option Value} {base : Heap}

/-! ### pairs in any terms -/
def Pq (D M : Nat) (H : Hp) (v : V) (q : Rat) : Prop := ∃ (p : Addr) (i : Int) (j : Nat), v = .ref p ∧ H p = some (.tup [.int i, .int (j : Int)]) ∧ 0 < j ∧ j ∣ D ∧ i.natAbs ≤ M * j ∧ q = Rat.divInt i (j : Int)
theorem Pq.tu {D M : Nat} {H H' : Hp} {v : V} {q : Rat} (h : Pq D M H v q) (s : ∀ b ys, H b = some (.tup ys) → H' b = some (.tup ys)) : Pq D M H' v q := by
  obtain ⟨p, i, j, h1, h2, r⟩ := h
  exact ⟨p, i, j, h1, s _ _ h2, r⟩
theorem Pq.same {D M : Nat} {H H' : Hp} {v : V} {q : Rat} (h : Pq D M H v q) (s : L2.Same H H') : Pq D M H' v q := h.tu fun b ys e => s _ _ e
theorem Pq.mono {D M N : Nat} {H : Hp} {v : V} {q : Rat} (h : Pq D M H v q) (l : M ≤ N) : Pq D N H v q := by
  obtain ⟨p, i, j, h1, h2, h3, h4, h5, r⟩ := h
  exact ⟨p, i, j, h1, h2, h3, h4, Nat.le_trans h5 (Nat.mul_le_mul_right _ l), r⟩
theorem Fz.nums {D M j : Nat} {i : Int} (f : Fz D M) (hj : j ∣ D) (hi : i.natAbs ≤ M * j) : i.natAbs < 2 ^ 1000 ∧ j < 2 ^ 1000 := by
  have dl := Nat.le_of_dvd f.d0 hj
  exact ⟨Nat.lt_of_le_of_lt (Nat.le_trans hi (Nat.mul_le_mul_left _ dl)) f.mb, Nat.lt_of_le_of_lt dl f.db⟩
theorem Pq.rq {D M : Nat} {H : Hp} {v : V} {q : Rat} (h : Pq D M H v q) (f : Fz D M) : Rq H v q := by
  obtain ⟨p, i, j, rfl, h2, h3, h4, h5, r⟩ := h
  have z := f.nums h4 h5
  exact ⟨i, (j : Int), .pair (.inr h2) (by omega), ⟨z.1, by rw [Int.natAbs_natCast]; exact z.2⟩, r⟩
theorem wide_ok {i j : Int} (h : i.natAbs < 2 ^ 3000) (g : j.natAbs < 2 ^ 3000) : CMulW i j := wide_mul h g (by decide) (by decide) (by decide)
theorem lcm_div {a b : Nat} (ha : 0 < a) : Nat.lcm a b / a ≤ b := by
  refine Nat.div_le_of_le_mul ?_
  exact Nat.div_le_self _ _
theorem lcm_div' {a b : Nat} (hb : 0 < b) : Nat.lcm a b / b ≤ a := by
  rw [Nat.lcm_comm]
  exact lcm_div hb
theorem q_to {te : TE} {g : TG} {tz : TS} {D : Ends} {σ : L2.St} {H : Hp} {v : V} (h : Val te σ H v) (q : g v σ H (tz D)) : tSeq (tAsg te g) tz D σ H := h _ q
def spJoin : Sp := fun vs H Q _ => ∃ (l : Addr), vs = [.ref l] ∧ ((∃ v, H l = some (.lst [v]) ∧ Q v H) ∨ ∃ v u D M N q r, H l = some (.lst [v, u]) ∧ Pq D M H v q ∧ Pq D N H u r ∧ Fz D M ∧ Fz D N ∧ ∀ p H', L2.Same H H' → Pq D (M + N) H' p (q + r) → Q p H')
theorem ok_joined (T : Txt K mg) : FnOk P w K mg base CX0 1 (fA mg "_joined") (fDat K (fA mg "_joined")) ["parts"] spJoin := by
  refine T._joined.F.ok sc_joined (fun vs H Q E h => ?_) (fun cdv A outer s H vs Q E hr h => ?_)
  · obtain ⟨l, rfl, _⟩ := h
    rfl
  obtain ⟨l, rfl, h⟩ := h
  refine ⟨_, (pss_cons (ps_if (pt_cmpR op_eq (pe_callB call_len_seq (by rfl) T.len PySem.boot_len (pa_cons (pv 0) pa_nil)) pe_int (nomark _)) (pss_one (ps_ret (pe_ix ix_list (pv 0) pe_int (fun _ _ => rfl)))) pss_nil)
  (pss_cons (ps_asg (pv 0) (pg_unl rfl (pgs_cons (pg_tup rfl (pgs_cons (pg_name (i := 1) sc_joined.nd rfl (Or.inl rfl)) (pgs_cons (pg_name (i := 2) sc_joined.nd rfl (Or.inl rfl)) pgs_nil))) (pgs_cons (pg_tup rfl (pgs_cons (pg_name (i := 3) sc_joined.nd rfl (Or.inl rfl)) (pgs_cons (pg_name (i := 4) sc_joined.nd rfl (Or.inl rfl)) pgs_nil))) pgs_nil))))
  (pss_cons (ps_if (pt_cmpR op_eq (pv 2) (pv 4) (nomark _)) (pss_one (ps_ret (pe_tup (pa_cons (pe_op op_add (pv 1) (pv 3)) (pa_cons (pv 2) pa_nil))))) pss_nil)
  (pss_cons (ps_set (i := 5) sc_joined.nd rfl (Or.inl rfl) (pe_callBfun cr_lcm (by rfl) T.lcm (pa_cons (pv 2) (pa_cons (pv 4) pa_nil))))
  (pss_one (ps_ret (pe_tup (pa_cons (pe_op op_add (pe_op op_mulW (pv 1) (pe_op op_fdivW (pv 5) (pv 2))) (pe_op op_mulW (pv 3) (pe_op op_fdivW (pv 5) (pv 4)))) (pa_cons (pv 5) pa_nil))))))))), ?_⟩
  rcases h with ⟨v, e, k⟩ | ⟨v, u, D0, M, N, q, r, e, ⟨p, i, j, rfl, ep, j0, jd, im, rfl⟩, ⟨p', i', j', rfl, ep', j0', jd', im', rfl⟩, fz, fz', k⟩
  · refine q_when (b := true) (ans_eq (x := .int 1) (y := .int 1) (b := true) (v_len (xs := [v]) (val_var rfl) (.inl (SqL.of e))) val_c rfl (by simp)) (fun _ => st_ret (v_ixL (n := 0) (v := v) (val_var rfl) val_c (SqL.of e) rfl) k) (fun z => nomatch z)
  · refine q_unless (ans_eq (x := .int 2) (y := .int 1) (b := false) (v_len (xs := [V.ref p, V.ref p']) (val_var rfl) (.inl (SqL.of e))) val_c rfl (by simp)) ?_
    refine q_to (val_var rfl) ⟨l, [.ref p, .ref p'], rfl, SqL.of e, rfl, _, _, rfl, ⟨p, _, rfl, SqT.of ep, rfl, _, _, rfl, _, _, rfl, rfl, _, _, rfl, ⟨p', _, rfl, SqT.of ep', rfl, _, _, rfl, _, _, rfl, rfl, rfl, ?_⟩⟩⟩
    obtain ⟨hi, hj⟩ := fz.nums jd im
    obtain ⟨hi', hj'⟩ := fz'.nums jd' im'
    have big : (2 : Nat) ^ 1000 < 2 ^ 3000 := Nat.pow_lt_pow_right (by decide) (by decide)
    have lt3 : ∀ {a : Nat}, a < 2 ^ 1000 → a < 2 ^ 3000 := fun h => Nat.lt_trans h big
    by_cases ej : j = j'
    · subst ej
      refine q_when (b := true) (ans_eq (x := .int (j : Int)) (y := .int (j : Int)) (b := true) (val_var rfl) (val_var rfl) rfl (by simp)) (fun _ => ?_) (fun z => nomatch z)
      refine r_ret (l_tup (va_cons (v_add (val_var rfl) (val_var rfl)) (va_cons (val_var rfl) va_nil)) (by show 2 ≤ 100000; decide) fun t ht => k (.ref t) _ (Same.new' ht) ⟨t, i + i', j, rfl, upd_same, j0, jd, by rw [Nat.add_mul]; exact Nat.le_trans (Int.natAbs_add_le _ _) (Nat.add_le_add im im'), ?_⟩)
      · rw [Rat.divInt_add_divInt _ _ (by omega) (by omega)]
        refine (Rat.divInt_eq_divInt_iff (Int.mul_ne_zero (by omega) (by omega)) (by omega)).mpr ?_
        rw [← Int.add_mul, Int.mul_assoc]
    · refine q_unless (ans_eq (x := .int (j : Int)) (y := .int (j' : Int)) (b := false) (val_var rfl) (val_var rfl) rfl (by simp; omega)) ?_
      have l0 : 0 < Nat.lcm j j' := Nat.lcm_pos j0 j0'
      refine q_set (v := .int ((Nat.lcm j j' : Nat) : Int)) (v_cb (va_cons (val_var rfl) (va_cons (val_var rfl) va_nil)) fun Q' q' => ⟨(j : Int), (j' : Int), rfl, by rw [Int.natAbs_natCast]; exact Nat.lt_trans hj (Nat.pow_lt_pow_right (by decide) (by decide)), by rw [Int.natAbs_natCast]; exact Nat.lt_trans hj' (Nat.pow_lt_pow_right (by decide) (by decide)), by rw [Int.natAbs_natCast, Int.natAbs_natCast]; exact q'⟩) ?_
      have d1 := lcm_div (b := j') j0
      have d2 := lcm_div' (a := j) j0'
      have dv : ∀ {te tf : TE} {σ : L2.St} {b : Nat}, 0 < b → b < 2 ^ 1000 → Val te σ H (.int ((Nat.lcm j j' : Nat) : Int)) → Val tf σ H (.int (b : Int)) → Val (tOp (rI CDivW fun i j => .int (i / j)) te tf) σ H (.int ((Nat.lcm j j' / b : Nat) : Int)) := fun {te tf σ b} b0 hb h1 h2 =>
        Val.is (GL.v_div h1 h2 (wide_div (b := 3000) (by omega) (by rw [Int.natAbs_natCast]; exact lt3 hb) (by decide) (by decide))) (by rw [Int.natCast_ediv])
      refine r_ret (l_tup (va_cons (v_add (v_mul (val_var rfl) (dv j0 hj (val_var rfl) (val_var rfl)) (wide_ok (lt3 hi) (by rw [Int.natAbs_natCast]; exact lt3 (Nat.lt_of_le_of_lt d1 hj')))) (v_mul (val_var rfl) (dv j0' hj' (val_var rfl) (val_var rfl)) (wide_ok (lt3 hi') (by rw [Int.natAbs_natCast]; exact lt3 (Nat.lt_of_le_of_lt d2 hj))))) (va_cons (val_var rfl) va_nil)) (by show 2 ≤ 100000; decide) fun t ht => k (.ref t) _ (Same.new' ht) ⟨t, _, Nat.lcm j j', rfl, upd_same, l0, Nat.lcm_dvd jd jd', lcm_bd im im', lcm_addB j0 j0'⟩)
end
end LW

namespace LW
open PySem PySem.Spec PyProof.Rows L2 GL
section
variable {P : Program} {w : World} {K : PySem.W.Frag} {mg : Str → Option Value} {base : Heap}


/-! ### sums of many pairs -/
theorem tup_one2 {σ : L2.St} {H : Hp} {t1 : TE} {Q : VK} (h : t1 σ H fun v H1 => 1 ≤ sizeLine ∧ ∀ q, H1 q = none → Q (.ref q) (upd H1 q (.lst [v]))) : tLst (tCons t1 tNil) σ H Q := h
theorem lc_rangeC {lo c : Int} {n : Nat} {g : TG} {tt : TT} {te : TE} {vs : List Nat} {σ : L2.St} {H1 : Hp} {D : Addr} {Qd : Hp → Prop} (Pv : Nat → Hp → Prop) (h0 : Pv 0 (upd H1 D (.lst [])))
    (hs : ∀ i H, i < n → Pv i H → g (.int (lo + (i : Nat) * c)) (wipe σ vs) H fun σ2 H2 => wipe σ2 vs = wipe σ vs ∧ tt σ2 H2 fun b H3 =>
      if b = true then te σ2 H3 fun y H4 => ∃ acc, H4 D = some (.lst acc) ∧ acc.length < sizeLine ∧ Pv (i + 1) (upd H4 D (.lst (acc ++ [y]))) else Pv (i + 1) H3) (hd : ∀ H, Pv n H → Qd H) :
    ∃ W : Nat → Nat → Hp → Prop, (∃ m, W 0 m (upd H1 D (.lst []))) ∧ ∀ i m H, W i m H →
      ((Itc lo c n).stop i H ∧ Qd H) ∨ ((Itc lo c n).go i H ∧ ∃ Nx : Hp → Prop, (∀ H', Nx H' → ∃ m', m' < m ∧ W (i + 1) m' H') ∧ ∀ x H', (Itc lo c n).yld i H x H' → g x (wipe σ vs) H' fun σ2 H2 => wipe σ2 vs = wipe σ vs ∧ tt σ2 H2 fun b H3 =>
        if b = true then te σ2 H3 fun y H4 => ∃ acc, H4 D = some (.lst acc) ∧ acc.length < sizeLine ∧ Nx (upd H4 D (.lst (acc ++ [y]))) else Nx H3) := by
  refine ⟨fun i m H => m = n - i ∧ i ≤ n ∧ Pv i H, ⟨n, by simp, Nat.zero_le _, h0⟩, ?_⟩
  rintro i m H ⟨rfl, hi, p⟩
  by_cases hlt : i < n
  · refine .inr ⟨hlt, Pv (i + 1), fun H' p' => ⟨n - (i + 1), by omega, rfl, hlt, p'⟩, fun x H' y => ?_⟩
    obtain ⟨e, y⟩ := y
    subst e y
    exact hs i _ hlt p
  · have e : i = n := by omega
    subst e
    exact .inl ⟨Nat.le_refl _, hd H p⟩
theorem rgc2 (L : Nat) (h : L ≤ 10000) : RgC 0 (L : Int) 2 ((L + 1) / 2) := by
  have e : Builtin.Range.rangeSize 0 (L : Int) 2 = (((L + 1) / 2 : Nat) : Int) := by
    unfold Builtin.Range.rangeSize
    rw [if_pos (by decide)]
    split <;> omega
  refine ⟨by decide, by decide, ?_, e⟩
  unfold Builtin.Range.small
  rw [e]
  have b1 : (0 : Int) ≤ (((L + 1) / 2 : Nat) : Int) ∧ (((L + 1) / 2 : Nat) : Int) ≤ 10000 := by omega
  have b2 : (0 : Int) ≤ (L : Int) ∧ (L : Int) ≤ 10000 := by omega
  generalize (((L + 1) / 2 : Nat) : Int) = N at b1 ⊢
  generalize (L : Int) = M at b2 ⊢
  clear e h
  simp only [Builtin.Range.rangeFitsLong, Bool.and_eq_true, Bool.or_eq_true, decide_eq_true_eq, beq_iff_eq, show (2 : Int) > 0 by decide, if_true]
  omega
theorem l_lcE2 {σ : L2.St} {H : Hp} {g : TG} {te : TE} {vs : List Nat} {Q : VK} {R : Nat → V → Hp → Prop} {L : Nat} {ta : TA} (st : ∀ k, Stays (R k)) (of : Off R) (h : VA ta σ H [.int 0, .int (L : Int), .int 2]) (hn : L ≤ 10000) (hs : ∀ i H1, i < (L + 1) / 2 → L2.Same H H1 → Turn1 g te vs σ (.int ((2 * i : Nat) : Int)) H1 (R i))
    (q : ∀ p ys H', L2.Same H H' → H' p = some (.lst ys) → Rows R 0 ((L + 1) / 2) ys H' → Q (.ref p) H') : tLc (iRng3 ta) g tYes te vs σ H Q := by
  refine h _ ⟨0, (L : Int), 2, (L + 1) / 2, rfl, rgc2 L hn, fun D hD => lc_rangeC (lo := 0) (n := (L + 1) / 2) (LcP R H D) ⟨[], Same.new' hD, upd_same, hD, trivial, rfl⟩ (fun i H1 hi p => ?_) (fun H1 ⟨ys, s, e, _, r⟩ => q D ys H1 s e r)⟩
  rw [show (0 : Int) + (i : Nat) * 2 = ((2 * i : Nat) : Int) by omega]
  exact lc_step st of p (by omega) (hs i H1 (by omega))
def pairUp : List Rat → List Rat
  | [] => []
  | [a] => [a]
  | a :: b :: r => (a + b) :: pairUp r
theorem pairUp_len : ∀ qs : List Rat, (pairUp qs).length = (qs.length + 1) / 2
  | [] => by simp [pairUp]
  | [a] => by simp [pairUp]
  | a :: b :: r => by
    rw [pairUp, List.length_cons, pairUp_len r, List.length_cons, List.length_cons]
    omega
theorem pairUp_sum : ∀ qs : List Rat, (pairUp qs).sum = qs.sum
  | [] => rfl
  | [a] => rfl
  | a :: b :: r => by
    rw [pairUp, List.sum_cons, pairUp_sum r, List.sum_cons, List.sum_cons, Rat.add_assoc]
theorem pairUp_two : ∀ {qs : List Rat} {i : Nat} {a b : Rat}, qs[2 * i]? = some a → qs[2 * i + 1]? = some b → (pairUp qs)[i]? = some (a + b)
  | [], i, a, b, h, _ => by simp at h
  | [c], i, a, b, h, k => by
    rw [List.getElem?_eq_none (by show 1 ≤ _; omega)] at k
    cases k
  | c :: d :: r, 0, a, b, h, k => by
    cases h
    cases k
    rfl
  | c :: d :: r, i + 1, a, b, h, k => by
    rw [pairUp, List.getElem?_cons_succ]
    exact pairUp_two (qs := r) (by simpa [Nat.mul_add] using h) (by simpa [Nat.mul_add, Nat.add_right_comm] using k)
theorem pairUp_one : ∀ {qs : List Rat} {i : Nat} {a : Rat}, qs[2 * i]? = some a → qs.length = 2 * i + 1 → (pairUp qs)[i]? = some a
  | [], i, a, h, _ => by simp at h
  | [c], i, a, h, k => by
    have : i = 0 := by simp at k; omega
    subst this
    exact h
  | c :: d :: r, 0, a, h, k => by simp at k
  | c :: d :: r, i + 1, a, h, k => by
    rw [pairUp, List.getElem?_cons_succ]
    exact pairUp_one (qs := r) (by simpa [Nat.mul_add] using h) (by simp at k; omega)
theorem cut_two {xs : List V} {i : Nat} (h : 2 * i + 1 < xs.length) : cutV xs (some ((2 * i : Nat) : Int)) (some ((2 * i + 2 : Nat) : Int)) = [xs[2 * i], xs[2 * i + 1]] := by
  unfold cutV
  rw [HT.sIx_nat, HT.sIx_nat, Nat.min_eq_left (show 2 * i ≤ xs.length by omega), Nat.min_eq_left (show 2 * i + 2 ≤ xs.length by omega), List.drop_eq_getElem_cons (show 2 * i < xs.length by omega), List.drop_eq_getElem_cons (show 2 * i + 1 < xs.length from h), show 2 * i + 2 - 2 * i = 2 by omega]
  rfl
theorem cut_one {xs : List V} {i : Nat} (h : 2 * i + 1 = xs.length) : cutV xs (some ((2 * i : Nat) : Int)) (some ((2 * i + 2 : Nat) : Int)) = [xs[2 * i]] := by
  unfold cutV
  rw [HT.sIx_nat, HT.sIx_nat, Nat.min_eq_left (show 2 * i ≤ xs.length by omega), Nat.min_eq_right (show xs.length ≤ 2 * i + 2 by omega), List.drop_eq_getElem_cons (show 2 * i < xs.length by omega), List.drop_of_length_le (show xs.length ≤ 2 * i + 1 by omega), show xs.length - 2 * i = 1 by omega]
  rfl
theorem sl_both {te t u : TE} {σ : L2.St} {H : Hp} {Q : VK} {v : V} {r : V → Option Int → Option Int → Hp → VK → Prop} {i j : Int} (h : Val te σ H v) (h1 : Val t σ H (.int i)) (h2 : Val u σ H (.int j)) (q : r v (some i) (some j) H Q) : tSl r te (tPart t) (tPart u) σ H Q := h _ (h1 _ ⟨i, rfl, h2 _ ⟨j, rfl, q⟩⟩)
theorem s_asg {te : TE} {g : TG} {D : Ends} {σ : L2.St} {H : Hp} (h : te σ H fun x H1 => g x σ H1 D.nx) : tAsg te g D σ H := h
/-- a list of pairs -/
def LPq (D M : Nat) (H : Hp) (l : Addr) (qs : List Rat) : Prop := ∃ vs, H l = some (.lst vs) ∧ All2 (Pq D M H) vs qs
theorem LPq.same {D M : Nat} {H H' : Hp} {l : Addr} {qs : List Rat} (h : LPq D M H l qs) (s : L2.Same H H') : LPq D M H' l qs := by
  obtain ⟨vs, e, al⟩ := h
  exact ⟨vs, s _ _ e, al.imp fun v q z => z.same s⟩
theorem pq_zero {D M : Nat} {H : Hp} {p : Addr} (e : H p = some (.tup [.int 0, .int 1])) : Pq D M H (.ref p) 0 :=
  ⟨p, 0, 1, rfl, e, by decide, Nat.one_dvd _, Nat.zero_le _, rfl⟩
def spTotal : Sp := fun vs H Q _ => ∃ (l : Addr) (qs : List Rat) (D M k : Nat), vs = [.ref l] ∧ LPq D M H l qs ∧ qs.length + 1 ≤ 2 ^ k ∧ k ≤ 12 ∧ Fz D (2 ^ k * M) ∧ ∀ v H', L2.Same H H' → Pq D (2 ^ k * M) H' v qs.sum → Q v H'
theorem ok_total (T : Txt K mg) : FnOk P w K mg base CX0 2 (fA mg "total") (fDat K (fA mg "total")) ["pairs"] spTotal := by
  have G_joined := ok_joined (P := P) (w := w) (base := base) T
  refine T.total.F.ok sctotal (fun vs H Q E h => ?_) (fun cdv A outer s H vs Q E hr h => ?_)
  · obtain ⟨l, qs, D0, M, k, rfl, _⟩ := h
    rfl
  obtain ⟨l, qs, D0, M, k, rfl, ⟨vs, e, al⟩, hl, hk, fz, q⟩ := h
  refine ⟨_, (pss_cons (ps_set (i := 1) sctotal.nd rfl (Or.inr rfl) (pe_op op_cat (pe_lst (pa_cons (pe_tup (pa_cons pe_int (pa_cons pe_int pa_nil))) pa_nil)) (pv 0)))
  (pss_cons (ps_while PassesOwn.never (pt_cmpR op_gt (pe_callB call_len_seq (by rfl) T.len PySem.boot_len (pa_cons (pv 1) pa_nil)) pe_int (nomark _))
  (pss_one (ps_set (i := 1) sctotal.nd rfl (Or.inr rfl) (pe_lc (own := [("k", 2)]) (g := gName 2) (tt := tYes) (by rfl) sctotal.nd (pi_range3 (by rfl) T.range (pa_cons pe_int (pa_cons (pe_callB call_len_seq (by rfl) T.len PySem.boot_len (pa_cons (pv 1) pa_nil)) (pa_cons pe_int pa_nil)))) (blkOk_by (own := [("k", 2)]) (N := ["pairs", "parts", "k"]) (sc := defScope stotal) (by decide +kernel)) (fun _ _ _ _ _ => pg_name (i := 2) sctotal.nd rfl (Or.inl rfl)) (fun _ _ _ _ _ => pts_nil) (fun _ _ _ _ _ => (pe_c T._joined G_joined (hr.mono (by decide)) (pa_cons (pe_slice (show SlR _ (rSlL K) from sl_list) (pv 1) (po_some (pv 2)) (po_some (pe_op op_add (pv 2) pe_int))) pa_nil)))))))
  (pss_one (ps_ret (pe_ix ix_list (pv 1) pe_int (fun _ _ => rfl)))))), ?_⟩
  have k9 : (2 : Nat) ^ k ≤ 4096 := Nat.pow_le_pow_right (n := 2) (j := 12) (by decide) hk
  have lv := al.len
  refine q_asg (op_in ?_)
  refine (show tLst _ _ _ _ from tup_one2 (l_tup (va_cons val_c (va_cons val_c va_nil)) (by decide) fun z hz => ⟨by decide, fun l1 hl1 => ?_⟩))
  have s1 := Same.new' (o := .tup [.int 0, .int 1]) hz
  have s2 := Same.new' (o := .lst [.ref z]) hl1
  refine val_var rfl _ ⟨l1, l, [.ref z], vs, rfl, rfl, upd_same, s2 _ _ (s1 _ _ e), by rw [lv]; exact Nat.le_trans (show 1 + qs.length ≤ 5000 by omega) (by decide), fun l2 hl2 => ?_⟩
  have s3 := Same.new' (o := .lst ([V.ref z] ++ vs)) hl2
  have s123 := (s1.trans s2).trans s3
  have st : LPq D0 M (upd (upd (upd H z (.tup [.int 0, .int 1])) l1 (.lst [.ref z])) l2 (.lst ([V.ref z] ++ vs))) l2 (0 :: qs) := ⟨_, upd_same, .cons (pq_zero (s3 _ _ (s2 _ _ upd_same))) (al.imp fun v q z => z.same s123)⟩
  have key : ∀ m : Nat, True := fun _ => trivial
  refine ⟨fun m σ H1 => L2.Same H H1 ∧ ∃ (l3 : Addr) (z3 : Option V) (ps : List Rat) (n3 : Nat), σ = [some (.ref l), some (.ref l3), z3] ∧ LPq D0 n3 H1 l3 ps ∧ ps.length ≤ 2 ^ m ∧ m ≤ 12 ∧ 2 ^ m * n3 = 2 ^ k * M ∧ 0 < ps.length ∧ ps.sum = qs.sum, ⟨k, s123, l2, none, 0 :: qs, M, rfl, st, by rw [List.length_cons]; exact hl, hk, rfl, by simp, by rw [List.sum_cons, Rat.zero_add]⟩, fun m σ H1 w => ?_⟩
  obtain ⟨s4, l3, z3, ps, n3, rfl, ⟨us, e3, al3⟩, hm, hm12, hm9, p0, esum⟩ := w
  have l3l := al3.len
  have m9 : (2 : Nat) ^ m ≤ 4096 := Nat.pow_le_pow_right (n := 2) (j := 12) (by decide) hm12
  have f3 : Fz D0 n3 := fz.le (by rw [← hm9]; exact Nat.le_mul_of_pos_left _ (Nat.two_pow_pos m))
  refine (a_I (i := (us.length : Int)) (j := 1) (v_len (xs := us) (val_var rfl) (.inl (SqL.of e3))) val_c) _ ?_
  by_cases h1 : 1 < us.length
  · rw [decide_eq_true (by omega : (1 : Int) < (us.length : Int))]
    obtain ⟨m', rfl⟩ : ∃ m', m = m' + 1 := ⟨m - 1, by
      rcases Nat.eq_zero_or_pos m with z | z
      · subst z
        simp at hm
        omega
      · omega⟩
    have pw : (2 : Nat) ^ (m' + 1) = 2 ^ m' * 2 := Nat.pow_succ 2 m'
    refine iteT ⟨fun σ' H2 => L2.Same H H2 ∧ ∃ (l3 : Addr) (z3 : Option V) (ps : List Rat) (n3 : Nat), σ' = [some (.ref l), some (.ref l3), z3] ∧ LPq D0 n3 H2 l3 ps ∧ ps.length ≤ 2 ^ m' ∧ m' ≤ 12 ∧ 2 ^ m' * n3 = 2 ^ k * M ∧ 0 < ps.length ∧ ps.sum = qs.sum, fun σ' H2 z => ⟨m', by omega, z⟩, ?_⟩
    refine s_asg (l_lcE2 (L := us.length) (R := fun i v H => ∃ q, (pairUp ps)[i]? = some q ∧ Pq D0 (n3 + n3) H v q) (fun i v H1 H2 s ⟨q, h1, h2⟩ => ⟨q, h1, h2.same s⟩) (fun i v H D ys zs ⟨q, h1, h2⟩ e => ⟨q, h1, h2.tu (tu_lst e)⟩) (va_cons val_c (va_cons (v_len (xs := us) (val_var rfl) (.inl (SqL.of e3))) (va_cons val_c va_nil))) (by omega) (fun i H2 hi s5 => turn_name rfl fun Q' q' => ?_) (fun l4 ys H2 s5 e4 r4 => ?_))
    · refine call_one (sl_both (i := ((2 * i : Nat) : Int)) (j := ((2 * i + 2 : Nat) : Int)) (val_var rfl) (val_var rfl) (Val.is (v_add (i := ((2 * i : Nat) : Int)) (j := 2) (val_var rfl) val_c) (by rfl)) ⟨l3, us, rfl, SqL.of (s5 _ _ e3), fun p hp => ?_⟩)
      have lt : 2 * i < us.length := by omega
      obtain ⟨x, hx, px⟩ := al3.get (List.getElem?_eq_getElem lt)
      rcases Nat.lt_or_ge (2 * i + 1) us.length with h2 | h2
      · obtain ⟨y, hy, py⟩ := al3.get (List.getElem?_eq_getElem h2)
        rw [cut_two h2]
        have s6 := Same.new' (o := .lst [us[2 * i], us[2 * i + 1]]) hp
        exact ⟨p, rfl, .inr ⟨_, _, D0, n3, n3, x, y, upd_same, (px.same s5).same s6, (py.same s5).same s6, f3, f3, fun v H3 s7 pv => q' v H3 (s6.trans s7) ⟨_, pairUp_two hx hy, pv⟩⟩⟩
      · rw [cut_one (by omega : 2 * i + 1 = us.length)]
        have s6 := Same.new' (o := .lst [us[2 * i]]) hp
        exact ⟨p, rfl, .inl ⟨_, upd_same, q' _ _ s6 ⟨x, pairUp_one hx (by omega), ((px.same s5).same s6).mono (by omega)⟩⟩⟩
    · refine ⟨s4.trans s5, l4, _, pairUp ps, n3 + n3, rfl, ⟨ys, e4, All2.mk (by rw [r4.2, pairUp_len, l3l]) fun i v q hv hq => ?_⟩, ?_, by omega, ?_, ?_, by rw [pairUp_sum, esum]⟩
      · obtain ⟨q', h1, h2⟩ := r4.1.get hv
        rw [Nat.zero_add, hq] at h1
        cases h1
        exact h2
      · rw [pairUp_len]
        omega
      · rw [pw, Nat.mul_assoc] at hm9
        rw [show n3 + n3 = 2 * n3 by omega]
        exact hm9
      · rw [pairUp_len]
        omega
  · rw [decide_eq_false (by omega : ¬ (1 : Int) < (us.length : Int))]
    refine iteF ?_
    obtain ⟨x, hx, px⟩ := al3.get (List.getElem?_eq_getElem (by omega : 0 < us.length))
    have eps : ps = [x] := List.ext_getElem? fun i => by
      cases i with
      | zero => exact hx
      | succ i => rw [List.getElem?_eq_none (by omega)]; rfl
    refine st_ret (v_ixL (n := 0) (v := us[0]) (val_var rfl) val_c (SqL.of e3) (List.getElem?_eq_getElem (by omega))) (q _ H1 s4 ?_)
    rw [eps, List.sum_cons, List.sum_nil, Rat.add_zero] at esum
    rw [← esum]
    exact px.mono (by rw [← hm9]; exact Nat.le_mul_of_pos_left _ (Nat.two_pow_pos m))
end
end LW


/-! dicts whose keys are pairs of ints: copied by dict(d), written as a display, walked -/
namespace L2
open PySem PySem.Spec PyProof.Rows
section
variable {X : Cx}
/-- a pair's hash -/
def pairH (i j : Int) : Int := reduceHash (Builtin.Tuple.tupleHashOf [hashInt i, hashInt j])
abbrev kP (i j : Int) : List Key := [Sum.inl i, Sum.inl j]
def rDictT : List V → Hp → VK → Prop := fun xs H Q => ∃ (a : Addr) (kvs : List (List Key × V)) (ps : List (Int × Int)), xs = [.ref a] ∧ Rd H a (.dT kvs) ∧ kvs.map (·.1) = ps.map (fun p => kP p.1 p.2) ∧ (ps.map fun p => pairH p.1 p.2).Nodup ∧
  ∀ p, H p = none → Q (.ref p) (upd H p (.dT kvs))
theorem cr_dictT (hu : X.A.units + 64 < cLine) : CallR X (.type "dict") rDictT := by
  intro pins s σ H xs us Q I r q
  obtain ⟨o, kvs, ps, rfl, hd, hks, hap, q⟩ := q
  obtain ⟨u, rfl, rx⟩ := r.one
  cases rx
  obtain ⟨z, hoS, more, rel, ho⟩ := dt_rd I.hok hd
  have hl : more.length ≤ sizeLine := by rw [← Paired.length rel]; exact z
  have ek : more.map (·.1) = ps.map (fun p => kP p.1 p.2) := by
    rw [← hks]
    clear hks hd ho z hl q
    induction rel with
    | nil => rfl
    | cons h t ih => rw [List.map_cons, List.map_cons, ih, h.1]
  have hn : (more.map (·.1)).Nodup := ho.nodup
  have hh : (more.map fun x => (tupleKind (mixKind X.prog X.w)).hash x.1).Nodup := by
    have e : (more.map fun x => (tupleKind (mixKind X.prog X.w)).hash x.1) = ps.map fun p => pairH p.1 p.2 := by
      have e1 := congrArg (List.map (tupleKind (mixKind X.prog X.w)).hash) ek
      rw [List.map_map, List.map_map] at e1
      exact e1
    rw [e]; exact hap
  refine callType_codes (Q₁ := fun obj s₁ => obj = .ref s.heap.objs.size ∧ s₁ = { s with heap := s.heap.push { cls := .type "dict", data := .dict #[] } }) F.kt_called_dict (F.kt_typeCall_dict_1 _) F.entry_dict_init (kt_code_dict_new _ ⟨rfl, rfl⟩) ?_
  rintro obj s₁ ⟨rfl, rfl⟩
  have hnew : (s.heap.push { cls := .type "dict", data := .dict #[] }).DictOfH (tupleKind (mixKind X.prog X.w)) s.heap.objs.size [] := Heap.DictOfH.new s.heap
  have hty0 : ∀ x ∈ more, (tupleKind (mixKind X.prog X.w)).is s.heap x.1 x.2.1 := by
    obtain ⟨_, _, _, _, _, _, _, his, _⟩ := id ho
    exact his
  have pk : ∀ b ob, s.heap.get? b = some ob → (s.heap.push { cls := .type "dict", data := .dict #[] }).get? b = some ob := fun b ob e => Heap.get?_push_of_some _ e
  have ho' : (s.heap.push { cls := .type "dict", data := .dict #[] }).DictOfH (tupleKind (mixKind X.prog X.w)) o more := by
    obtain ⟨oo, es, ep, h1, h2, h3, h4, h5, h6⟩ := id ho
    exact ⟨oo, es, ep, pk _ _ h1, h2, h3, h4, fun x hx => tupleKind_stays.stays (fun b ob _ _ e _ => pk b ob e) (h5 x hx), h6⟩
  have hdo : s.heap.objs.size ≠ o := by
    obtain ⟨_, _, _, hg, _⟩ := ho
    exact fun e => absurd (Heap.lt_size hg) (by rw [e]; exact Nat.lt_irrefl _)
  refine ⟨hnew.typeIs, F.args_dict_init_2 _ _, ?_⟩
  unfold Builtin.«dict.__init__»
  refine wpAny_bind ?_
  unfold Builtin.Dict.selfAndRest
  refine wpAny_bind (wpAny_notOrdered_dict hnew.typeIs ?_)
  show wpAny _ _ (pure (s.heap.objs.size, [Value.ref o])) _ _ _
  refine wpAny_pure ?_
  show wpAny _ _ (Builtin.Dict.updateFrom "dict.__init__" s.heap.objs.size (.ref o) [] .none) _ _ _
  refine updateFrom_dictH (knd := tupleKind (mixKind X.prog X.w)) .none (show X.A.in1.in1.units < cLine from by have : X.A.in1.in1.units = X.A.units + 2 := rfl; omega) hdo hoS hnew ho' (.inr ⟨fun x hx => ?_, hh⟩) (by rw [List.length_nil]; omega) (fun h' hd' _ hs' => ?_)
  · exact tupleKind_stays.tuple (s := { s with heap := s.heap.push { cls := .type "dict", data := .dict #[] } }) (tupleKind_stays.stays (fun b ob _ _ e _ => pk b ob e) (hty0 x hx))
  · rw [storedAllH_nil_of_nodup more hn] at hd'
    refine ⟨rfl, ?_⟩
    have hm : (s.heap.objs.size == sysModules) = false := beq_eq_false_iff_ne.mpr (Nat.ne_of_gt I.big)
    obtain ⟨oo, es, ep, h1, h2, h3, h4, h5, h6⟩ := id hd'
    have fr := I.hok.fresh (Nat.le_refl s.heap.objs.size)
    refine ⟨.ref s.heap.objs.size, upd H s.heap.objs.size (.dT kvs), I.laid (t' := s.toks) (fun b u e => (hs'.2 b (Nat.ne_of_lt (Heap.lt_size e))).trans (Heap.get?_push_of_some _ e)) (Nat.le_refl _)
      (show ObjOk X.prog X.w _ _ _ (.dT kvs) from ⟨z, hm, more, ?_, oo, es, ep, h1, h2, h3, h4, h6⟩), rfl, q _ fr⟩
    exact KT.keeps rel fun b ys e => by rw [upd_ne (ne_of_none e fr)]; exact e
end
end L2

namespace L2
open PySem PySem.Spec PyProof.Rows
section
def mergeT (kvs more : List (List Key × V)) : List (List Key × V) := more.foldl (fun acc kv => putK acc kv.1 kv.2) kvs
theorem KT.merge {H : Hp} : ∀ {more : List (List Key × V)} {rs : List (List Key × Addr × Value)} {kvs : List (List Key × V)} {vs : List (List Key × Addr × Value)}, KT H more rs → KT H kvs vs → KT H (mergeT kvs more) (storedAllH vs rs) := by
  intro more rs kvs vs r
  unfold KT at r
  induction r generalizing kvs vs with
  | nil => intro q; exact q
  | @cons p q ps qs h t ih =>
    intro r0
    have e : KT H (putK kvs p.1 p.2) (storedH vs q.1 q.2.1 q.2.2) := by
      have := r0.put p.1 h.2.1 h.2.2
      rw [← h.1]; exact this
    exact ih e
theorem length_mergeT : ∀ (more kvs : List (List Key × V)), (mergeT kvs more).length ≤ kvs.length + more.length
  | [], kvs => by show kvs.length ≤ kvs.length + 0; omega
  | p :: r, kvs => by
    have h1 := length_mergeT r (putK kvs p.1 p.2)
    have h2 := length_putK kvs p.1 p.2
    show (mergeT (putK kvs p.1 p.2) r).length ≤ _
    rw [List.length_cons]; omega
/-- a pair of values is a key and its value -/
def KeyOf (H : Hp) (q : V × V) (kv : List Key × V) : Prop := (∃ b, q.1 = .ref b ∧ H b = some (.tup (kv.1.map kV))) ∧ q.2 = kv.2
theorem carriesT_of {P : Program} {w : World} {H : Hp} {h : Heap} (ok : HOk P w H h) : ∀ {ps : List (V × V)} {kvs : List (List Key × V)} {ws : List (Value × Value)}, Paired (KeyOf H) ps kvs → VV ps ws → ∃ rs, CarriesH (tupleKind (mixKind P w)) h ws rs ∧ KT H kvs rs
  | _, _, _, .nil, r => by cases r; exact ⟨[], True.intro, .nil⟩
  | (_, _) :: _, (k, v) :: _, _, .cons ⟨⟨b, e1, e2⟩, e3⟩ t, r => by
    cases r with
    | @cons a c as bs h1 t1 =>
      obtain ⟨rs, cr, q⟩ := carriesT_of ok t t1
      obtain ⟨b1, b2⟩ := c
      obtain ⟨r1, r2⟩ := h1
      dsimp only at e1 e2 e3 r1 r2
      subst e1
      subst e3
      cases (show b1 = Value.ref b from r1)
      exact ⟨(k, b, b2) :: rs, ⟨rfl, rfl, key_of ok e2, cr⟩, .cons ⟨rfl, e2, r2⟩ q⟩
/-- {k: v, ..} with keys tuples; the new dict stands empty while the pairs are made -/
def tDispT (trs : List (TE × TE)) : TE := fun σ H Q => ∀ p, H p = none → tPairs trs σ (upd H p (.dT [])) fun ps H2 => H2 p = some (.dT []) ∧ ∃ kvs : List (List Key × V), Paired (KeyOf H2) ps kvs ∧ kvs.length ≤ 15 ∧ Q (.ref p) (upd H2 p (.dT (mergeT [] kvs)))
theorem pe_dispT {X : Cx} {pos : Pos} {keys : List (Option Expr)} {values : List Expr} {trs : List (TE × TE)} (hu : X.A.units + 64 < cLine) (h : PPs X pos keys values trs) (hall : keys.all (·.isSome) = true) (hl : keys.length = values.length) (h0 : keys ≠ [])
    (h15 : keys.length ≤ 15) : PE X (.Dict keys values pos) (tDispT trs) := by
  refine ⟨fun pins s σ H Q I q => ?_⟩
  have hn := I.hok.fresh (Nat.le_refl s.heap.objs.size)
  have I1 := I.laid (a := s.heap.objs.size) (o := .dT []) (h' := s.heap.push { cls := .type "dict", data := .dict #[] }) (t' := s.toks) (fun _ _ q => Heap.get?_push_of_some _ q) (Nat.le_refl _) (dt_empty s.heap I.big)
  have ln := pairTrees_length keys values X.env pos hall hl
  rw [arm_eval_Dict, zip_pairTrees keys values X.env pos hall hl, dictDisplay_pairs (pairTrees keys values X.env pos) (fun he => by
    rw [he] at ln
    exact h0 (List.length_eq_zero_iff.mp ln.symm)) (by omega)]
  refine wpAny_bind (wpAny_standAt (wpAny_bind (wpAny_subDictH (knd := tupleKind (mixKind X.prog X.w)) (show X.A.units < cLine by omega) (by omega)
    (thn (h.run pins _ σ _ _ I1 (q _ hn)) fun ws s2 ⟨ps, H2, I2, rel, e, kvs, pr, lk, q2⟩ => ?_))))
  obtain ⟨rs, c, rk⟩ := carriesT_of I2.hok pr rel
  obtain ⟨z, hd, vs0, r0, dd⟩ := dt_of I2.hok e
  cases r0
  refine ⟨rs, c, dd, fun h' tk dd' hs => wpAny_pure ⟨.ref s.heap.objs.size, _, ?_, rfl, q2⟩⟩
  have hz : (mergeT [] kvs).length ≤ sizeLine := by
    have h1 := length_mergeT kvs []
    rw [List.length_nil] at h1
    rw [sizeLine_eq]; omega
  obtain ⟨qo, es, ep, hq, h2, h3, h4, _, h5⟩ := dd'
  have J := d_write (t' := tk) I2 (ob := .dT (mergeT [] kvs)) (by rw [e]; exact True.intro) hs ⟨qo, hq⟩ ⟨hz, hd, _, (rk.merge .nil).keeps fun c ys ec => by
    rw [upd_ne (ne_of ec e (fun z => nomatch z))]
    exact ec, qo, es, ep, hq, h2, h3, h4, h5⟩
  exact J
end
end L2

namespace L2
open PySem PySem.Spec PyProof.Rows
/-- locked, or locked by the caller -/
def tLockO (t : TS) : TS := fun D σ H => tLock t D σ H ∨ t D σ H
theorem ps_lockO {X : Cx} {st : Stmt} {t : TS} (h : PS X st t) : PS X st (tLockO t) := ⟨fun pins s σ H D I hw => hw.elim (fun z => (ps_lock h).run pins s σ H D I z) fun z => h.run pins s σ H D I z⟩
section
variable {σ : L2.St} {H : Hp} {d : Addr} {kvs : List (List Key × V)} {i j : Nat} {tb : TS} {D : Ends} {u : TS}
theorem tkeys_walk {HL : Hp} {od : Obj} (hi : σ[i]? = some (some (.ref d))) (e : HL d = some (.frz od (.dT kvs))) (Pv : Nat → L2.St → Hp → Prop) (h0 : Pv 0 σ HL)
    (hq : ∀ i σ H', Pv i σ H' → H' d = HL d)
    (hs : ∀ i k v q σ H', kvs[i]? = some (k, v) → Pv i σ H' → H' q = some (.tup (k.map kV)) → ∀ D' : Ends, D'.nx = Pv (i + 1) → D'.ct = Pv (i + 1) → tb D' (σ.set j (some (.ref q))) H')
    (hd : ∀ σ H', Pv kvs.length σ H' → D.nx σ H') : tFor (iKeys (tVar i)) (gName j) tb D σ HL := by
  refine ⟨_, hi, d, od, rfl, .inr ⟨kvs, e, fun n m σ H' => m = kvs.length - n ∧ n ≤ kvs.length ∧ Pv n σ H', ⟨_, rfl, Nat.zero_le _, h0⟩, ?_⟩⟩
  rintro n m σ H' ⟨rfl, hn, p⟩
  have q := hq n σ H' p
  rw [e] at q
  rcases Nat.lt_or_ge n kvs.length with lt | ge
  · refine .inr ⟨⟨q, lt⟩, Pv (n + 1), fun σ' H2 p' => ⟨kvs.length - (n + 1), by omega, rfl, lt, p'⟩, ?_⟩
    rintro v H2 ⟨rfl, k, w, t, hk, rfl, ht⟩
    exact hs n k w t σ H2 hk p ht _ rfl rfl
  · obtain rfl : n = kvs.length := by omega
    exact .inl ⟨⟨q, Nat.le_refl _⟩, hd σ H' p⟩
/-- for k in d: .., d a dict whose keys are tuples -/
theorem q_keys (hi : σ[i]? = some (some (.ref d))) (hd : Rd H d (.dT kvs)) (Pv : Hp → Nat → L2.St → Hp → Prop)
    (h0 : ∀ HL, (∀ b, b ≠ d → HL b = H b) → Rd HL d (.dT kvs) → Pv HL 0 σ HL)
    (hq : ∀ HL i σ H', Pv HL i σ H' → H' d = HL d)
    (hs : ∀ HL i k v q σ H', Rd HL d (.dT kvs) → kvs[i]? = some (k, v) → Pv HL i σ H' → H' q = some (.tup (k.map kV)) → ∀ D' : Ends, D'.nx = Pv HL (i + 1) → D'.ct = Pv HL (i + 1) → tb D' (σ.set j (some (.ref q))) H')
    (he : ∀ HL σ H', Pv HL kvs.length σ H' → ∀ H'', (∀ b, b ≠ d → H'' b = H' b) → H'' d = H d → u D σ H'') :
    tSeq (tLockO (tFor (iKeys (tVar i)) (gName j) tb)) u D σ H := by
  rcases hd with hd | ⟨od, hd⟩
  · refine .inl ⟨d, _, hd, True.intro, fun od => ?_⟩
    have e : upd H d (.frz od (.dT kvs)) d = some (.frz od (.dT kvs)) := upd_same
    refine tkeys_walk hi e (Pv (upd H d (.frz od (.dT kvs)))) (h0 _ (fun b nb => upd_ne nb) (.inr ⟨od, e⟩)) (fun i σ H' p => hq _ i σ H' p) (fun i k v q σ H' hk p ht => hs _ i k v q σ H' (.inr ⟨od, e⟩) hk p ht) (fun σ H' p => ⟨?_, ?_⟩)
    · have z := hq _ _ σ H' p
      rw [e] at z
      exact z
    · exact he _ σ H' p _ (fun b nb => upd_ne nb) (by rw [upd_same, hd])
  · refine .inr ?_
    exact tkeys_walk (D := { D with nx := u D }) hi hd (Pv H) (h0 H (fun b nb => rfl) (.inr ⟨od, hd⟩)) (fun i σ H' p => hq _ i σ H' p) (fun i k v q σ H' hk p ht => hs _ i k v q σ H' (.inr ⟨od, hd⟩) hk p ht) (fun σ H' p => he H σ H' p H' (fun b nb => rfl) (hq _ _ σ H' p))
end
end L2

/-! sums of entries: polynomials of two letters as lists of powers and ratios -/
namespace LW
open PySem PySem.Spec PyProof.Rows L2 GL
abbrev En := (Nat × Nat) × Rat
def rs {α : Type} (f : α → Rat) : List α → Rat
  | [] => 0
  | a :: l => f a + rs f l
theorem rs_app {α : Type} (f : α → Rat) : ∀ (l m : List α), rs f (l ++ m) = rs f l + rs f m
  | [], m => by show rs f m = 0 + rs f m; grind
  | a :: l, m => by
    show f a + rs f (l ++ m) = f a + rs f l + rs f m
    rw [rs_app f l m]; grind
theorem rs_congr {α : Type} {f g : α → Rat} : ∀ {l : List α}, (∀ a ∈ l, f a = g a) → rs f l = rs g l
  | [], _ => rfl
  | a :: l, h => by
    show f a + rs f l = g a + rs g l
    rw [h a (List.mem_cons_self ..), rs_congr (l := l) fun b hb => h b (List.mem_cons_of_mem _ hb)]
theorem rs_add {α : Type} (f g : α → Rat) : ∀ (l : List α), rs (fun a => f a + g a) l = rs f l + rs g l
  | [] => by show (0 : Rat) = 0 + 0; grind
  | a :: l => by
    show f a + g a + rs _ l = f a + rs f l + (g a + rs g l)
    rw [rs_add f g l]; grind
theorem rs_mulL {α : Type} (c : Rat) (f : α → Rat) : ∀ (l : List α), rs (fun a => c * f a) l = c * rs f l
  | [] => by show (0 : Rat) = c * 0; grind
  | a :: l => by
    show c * f a + rs _ l = c * (f a + rs f l)
    rw [rs_mulL c f l]; grind
theorem rs_zero {α : Type} {f : α → Rat} : ∀ {l : List α}, (∀ a ∈ l, f a = 0) → rs f l = 0
  | [], _ => rfl
  | a :: l, h => by
    show f a + rs f l = 0
    rw [h a (List.mem_cons_self ..), rs_zero (l := l) fun b hb => h b (List.mem_cons_of_mem _ hb)]; grind
theorem rs_perm {α : Type} {f : α → Rat} {l m : List α} (h : l.Perm m) : rs f l = rs f m := by
  induction h with
  | nil => rfl
  | cons a _ ih => show f a + rs f _ = f a + rs f _; rw [ih]
  | swap a b l => show f b + (f a + rs f l) = f a + (f b + rs f l); grind
  | trans _ _ a b => exact a.trans b
theorem rs_map {α β : Type} (f : β → Rat) (g : α → β) : ∀ (l : List α), rs f (l.map g) = rs (fun a => f (g a)) l
  | [] => rfl
  | a :: l => by show f (g a) + rs f (l.map g) = _; rw [rs_map f g l]; rfl
/-- the coefficient at x ^ i y ^ j -/
def cf (L : List En) (i j : Nat) : Rat := rs (fun e => if e.1 = (i, j) then e.2 else 0) L
theorem cf_app {L M : List En} {i j : Nat} : cf (L ++ M) i j = cf L i j + cf M i j := rs_app _ _ _
theorem cf_one {k : Nat × Nat} {q : Rat} {i j : Nat} : cf [(k, q)] i j = if k = (i, j) then q else 0 := by
  show (if k = (i, j) then q else 0) + 0 = _
  grind
theorem cf_cons {e : En} {L : List En} {i j : Nat} : cf (e :: L) i j = (if e.1 = (i, j) then e.2 else 0) + cf L i j := rfl
theorem cf_out {L : List En} {i j : Nat} (h : (i, j) ∉ L.map (·.1)) : cf L i j = 0 := rs_zero fun a ha => by
  rw [if_neg]
  intro z
  exact h (List.mem_map.mpr ⟨a, ha, z⟩)
theorem cf_in {k : Nat × Nat} {q : Rat} : ∀ {L : List En}, (k, q) ∈ L → (L.map (·.1)).Nodup → cf L k.1 k.2 = q
  | [], h, _ => nomatch h
  | e :: L, h, nd => by
    rw [List.map_cons, List.nodup_cons] at nd
    rw [cf_cons]
    rcases List.mem_cons.mp h with rfl | h
    · rw [if_pos rfl, cf_out nd.1]; grind
    · have : e.1 ≠ k := fun z => nd.1 (by rw [z]; exact List.mem_map.mpr ⟨_, h, rfl⟩)
      rw [if_neg this, cf_in h nd.2]; grind
/-- an entry stored -/
def putE (L : List En) (k : Nat × Nat) (q : Rat) : List En := if L.any (fun e => decide (e.1 = k)) then L.map (fun e => if e.1 = k then (e.1, q) else e) else L ++ [(k, q)]
theorem keys_put {L : List En} {k : Nat × Nat} {q : Rat} : (putE L k q).map (·.1) = if k ∈ L.map (·.1) then L.map (·.1) else L.map (·.1) ++ [k] := by
  unfold putE
  by_cases h : k ∈ L.map (·.1)
  · have h2 : L.any (fun e => decide (e.1 = k)) = true := by
      rw [List.any_eq_true]
      obtain ⟨e, he, rfl⟩ := List.mem_map.mp h
      exact ⟨e, he, by simp⟩
    rw [if_pos h2, if_pos h, List.map_map]
    exact List.map_congr_left fun e _ => by
      show (if e.1 = k then (e.1, q) else e).1 = e.1
      split <;> rfl
  · have h2 : ¬ L.any (fun e => decide (e.1 = k)) = true := by
      intro z
      obtain ⟨e, he, hk⟩ := List.any_eq_true.mp z
      exact h (List.mem_map.mpr ⟨e, he, by simpa using hk⟩)
    rw [if_neg h2, if_neg h, List.map_append]
    rfl
theorem nodup_put {L : List En} {k : Nat × Nat} {q : Rat} (h : (L.map (·.1)).Nodup) : ((putE L k q).map (·.1)).Nodup := by
  rw [keys_put]
  split
  · exact h
  · rename_i z
    exact List.nodup_append.mpr ⟨h, by simp, fun a ha b hb => by
      rw [List.mem_singleton.mp hb]
      exact fun e => z (e ▸ ha)⟩
theorem cf_put {L : List En} {k : Nat × Nat} {q : Rat} {i j : Nat} (nd : (L.map (·.1)).Nodup) : cf (putE L k q) i j = if k = (i, j) then q else cf L i j := by
  by_cases h : k ∈ L.map (·.1)
  · by_cases e : k = (i, j)
    · subst e
      rw [if_pos rfl]
      have hm : ((i, j), q) ∈ putE L (i, j) q := by
        unfold putE
        have h2 : L.any (fun e => decide (e.1 = (i, j))) = true := by
          rw [List.any_eq_true]
          obtain ⟨e, he, z⟩ := List.mem_map.mp h
          exact ⟨e, he, by simpa using z⟩
        rw [if_pos h2]
        obtain ⟨e, he, z⟩ := List.mem_map.mp h
        exact List.mem_map.mpr ⟨e, he, by rw [if_pos z, z]⟩
      exact cf_in hm (nodup_put nd)
    · rw [if_neg e]
      unfold putE
      split
      · unfold cf
        rw [rs_map]
        refine rs_congr fun a _ => ?_
        by_cases z : a.1 = k
        · rw [if_pos z]
          show (if a.1 = (i, j) then q else 0) = _
          rw [if_neg (by rw [z]; exact e), if_neg (by rw [z]; exact e)]
        · rw [if_neg z]
      · rw [cf_app, cf_one, if_neg e]; grind
  · have h2 : ¬ L.any (fun e => decide (e.1 = k)) = true := by
      intro z
      obtain ⟨e, he, hk⟩ := List.any_eq_true.mp z
      exact h (List.mem_map.mpr ⟨e, he, by simpa using hk⟩)
    unfold putE
    rw [if_neg h2, cf_app, cf_one]
    split
    · rename_i z
      rw [cf_out (z ▸ h)]; grind
    · grind
theorem mem_put {L : List En} {k : Nat × Nat} {q : Rat} {e : En} (h : e ∈ putE L k q) : e = (k, q) ∨ e ∈ L := by
  unfold putE at h
  split at h
  · obtain ⟨a, ha, rfl⟩ := List.mem_map.mp h
    split
    · rename_i z
      exact .inl (by rw [z])
    · exact .inr ha
  · rcases List.mem_append.mp h with h | h
    · exact .inr h
    · exact .inl (List.mem_singleton.mp h)
theorem len_put {L : List En} {k : Nat × Nat} {q : Rat} : (putE L k q).length ≤ L.length + 1 := by
  unfold putE
  split
  · rw [List.length_map]; omega
  · rw [List.length_append]; exact Nat.le_refl _
/-- a sum over entries, taken by coefficients over a row of powers that holds all -/
theorem rs_box (g : Nat × Nat → Rat) {B : List (Nat × Nat)} (nb : B.Nodup) : ∀ {L : List En}, (∀ e ∈ L, g e.1 ≠ 0 → e.1 ∈ B) → rs (fun e => e.2 * g e.1) L = rs (fun p => cf L p.1 p.2 * g p) B
  | [], _ => (rs_zero fun p _ => by show (0 : Rat) * _ = 0; grind).symm
  | e :: L, h => by
    show e.2 * g e.1 + rs _ L = _
    rw [rs_box g nb (L := L) fun a ha => h a (List.mem_cons_of_mem _ ha)]
    have e1 : rs (fun p => cf (e :: L) p.1 p.2 * g p) B = rs (fun p => (if e.1 = p then e.2 else 0) * g p + cf L p.1 p.2 * g p) B := rs_congr fun p _ => by
      rw [cf_cons]
      grind
    rw [e1, rs_add]
    have e2 : rs (fun p => (if e.1 = p then e.2 else 0) * g p) B = e.2 * g e.1 := by
      by_cases z : g e.1 = 0
      · rw [z]
        refine (rs_zero fun p _ => ?_).trans (by grind)
        by_cases y : e.1 = p
        · rw [← y, z]; grind
        · rw [if_neg y]; grind
      · have hb := h e (List.mem_cons_self ..) z
        clear e1 h
        induction B with
        | nil => exact nomatch hb
        | cons b B ih =>
          rw [List.nodup_cons] at nb
          show (if e.1 = b then e.2 else 0) * g b + rs _ B = _
          by_cases y : e.1 = b
          · rw [if_pos y, rs_zero fun p hp => ?_]
            · rw [y]; grind
            · rw [if_neg (fun w => nb.1 (by rw [← y, w]; exact hp))]; grind
          · rw [if_neg y, ih nb.2 ((List.mem_cons.mp hb).resolve_left y)]; grind
    rw [e2]
/-- the product's coefficient, entry by entry -/
def tm1 (a : En) (M : List En) (i j : Nat) : Rat := rs (fun b => if (a.1.1 + b.1.1, a.1.2 + b.1.2) = (i, j) then a.2 * b.2 else 0) M
def tm (L M : List En) (i j : Nat) : Rat := rs (fun a => tm1 a M i j) L
def box (i j : Nat) : List (Nat × Nat) := (List.range (i + 1)).flatMap fun a => (List.range (j + 1)).map fun b => (a, b)
theorem mem_box {i j : Nat} {p : Nat × Nat} : p ∈ box i j ↔ p.1 ≤ i ∧ p.2 ≤ j := by
  unfold box
  rw [List.mem_flatMap]
  constructor
  · rintro ⟨a, ha, h⟩
    obtain ⟨b, hb, rfl⟩ := List.mem_map.mp h
    rw [List.mem_range] at ha hb
    exact ⟨by omega, by omega⟩
  · rintro ⟨h1, h2⟩
    exact ⟨p.1, List.mem_range.mpr (by omega), List.mem_map.mpr ⟨p.2, List.mem_range.mpr (by omega), rfl⟩⟩
theorem nodup_box (i j : Nat) : (box i j).Nodup := by
  unfold box
  rw [List.flatMap]
  show List.Pairwise _ _
  rw [List.pairwise_flatten]
  refine ⟨fun l hl => ?_, ?_⟩
  · obtain ⟨a, _, rfl⟩ := List.mem_map.mp hl
    show List.Pairwise _ _
    rw [List.pairwise_map]
    exact (List.nodup_range (n := j + 1)).imp fun ne e => ne (Prod.mk.inj e).2
  · rw [List.pairwise_map]
    refine List.Pairwise.imp_of_mem ?_ (List.nodup_range (n := i + 1))
    intro a b _ _ ne x hx y hy
    obtain ⟨_, _, rfl⟩ := List.mem_map.mp hx
    obtain ⟨_, _, rfl⟩ := List.mem_map.mp hy
    exact fun e => ne (Prod.mk.inj e).1
/-- .. is a sum over the powers below -/
theorem tm_box (L M : List En) (i j : Nat) : tm L M i j = rs (fun p => cf L p.1 p.2 * cf M (i - p.1) (j - p.2)) (box i j) := by
  have e1 : ∀ a : En, tm1 a M i j = a.2 * (if a.1.1 ≤ i ∧ a.1.2 ≤ j then cf M (i - a.1.1) (j - a.1.2) else 0) := fun a => by
    unfold tm1
    split
    · rename_i h
      unfold cf
      rw [← rs_mulL]
      refine rs_congr fun b _ => ?_
      by_cases z : b.1 = (i - a.1.1, j - a.1.2)
      · rw [if_pos z, if_pos (by rw [z]; simp; omega)]
      · rw [if_neg z, if_neg (fun w => z (by
          rw [Prod.mk.injEq] at w
          exact Prod.ext (by show b.1.1 = _; omega) (by show b.1.2 = _; omega)))]
        grind
    · rename_i h
      refine (rs_zero fun b _ => if_neg fun w => ?_).trans (by grind)
      rw [Prod.mk.injEq] at w
      omega
  unfold tm
  rw [rs_congr fun a _ => e1 a]
  rw [rs_box (fun p => if p.1 ≤ i ∧ p.2 ≤ j then cf M (i - p.1) (j - p.2) else 0) (nodup_box i j) (fun e _ h => mem_box.mpr (by
    by_cases z : e.1.1 ≤ i ∧ e.1.2 ≤ j
    · exact z
    · exact (h (if_neg z)).elim))]
  refine rs_congr fun p hp => ?_
  rw [if_pos (mem_box.mp hp)]
end LW

namespace LW
open PySem PySem.Spec PyProof.Rows L2 GL
section
variable {P : Program} {w : World} {K : PySem.W.Frag} {mg : Str → Option Value} {base : Heap}



/-! ### products of rows -/
theorem rs_range_succ (f : Nat → Rat) (n : Nat) : rs f (List.range (n + 1)) = rs f (List.range n) + f n := by
  rw [List.range_succ, rs_app]
  show _ + (f n + 0) = _
  grind
theorem rs_tail {f : Nat → Rat} {a b : Nat} (h : a ≤ b) (z : ∀ s, a ≤ s → s < b → f s = 0) : rs f (List.range b) = rs f (List.range a) := by
  induction b with
  | zero =>
    have : a = 0 := by omega
    rw [this]
  | succ b ih =>
    rcases Nat.lt_or_ge a (b + 1) with lt | ge
    · rw [rs_range_succ, ih (by omega) (fun s h1 h2 => z s h1 (by omega)), z b (by omega) (by omega)]
      grind
    · have : a = b + 1 := by omega
      rw [this]
theorem rs_shift {f : Nat → Rat} {lo : Nat} (z : ∀ s, s < lo → f s = 0) : ∀ n, rs (fun m => f (lo + m)) (List.range n) = rs f (List.range (lo + n))
  | 0 => by
    rw [Nat.add_zero]
    exact (rs_zero fun a ha => z a (List.mem_range.mp ha)).symm
  | n + 1 => by
    rw [rs_range_succ, rs_shift z n, show lo + (n + 1) = (lo + n) + 1 by omega, rs_range_succ]
theorem rs_flat {α β : Type} (f : β → Rat) (g : α → List β) : ∀ l : List α, rs f (l.flatMap g) = rs (fun a => rs f (g a)) l
  | [] => rfl
  | a :: l => by
    rw [List.flatMap_cons, rs_app, rs_flat f g l]
    rfl
def cvf (r o : List Rat) (j s : Nat) : Rat := co r s * co o (j - s)
def conv (r o : List Rat) (j : Nat) : Rat := rs (cvf r o j) (List.range (j + 1))
theorem cvf_lo {r o : List Rat} {j s : Nat} (h : s < j + 1 - o.length) : cvf r o j s = 0 := by
  unfold cvf
  rw [co_none (xs := o) (by omega), Rat.mul_zero]
theorem cvf_hi {r o : List Rat} {j s : Nat} (h : r.length ≤ s) : cvf r o j s = 0 := by
  unfold cvf
  rw [co_none (xs := r) h, Rat.zero_mul]
theorem conv_cut (r o : List Rat) (j : Nat) : rs (cvf r o j) (List.range (j + 1 - o.length + (min (j + 1) r.length - (j + 1 - o.length)))) = conv r o j := by
  refine (rs_tail (by omega) fun s h1 h2 => cvf_hi (by omega)).symm
theorem conv_nilL (o : List Rat) (j : Nat) : conv [] o j = 0 := rs_zero fun s _ => cvf_hi (Nat.zero_le s)
theorem conv_nilR (r : List Rat) (j : Nat) : conv r [] j = 0 := rs_zero fun s hs => cvf_lo (by have := List.mem_range.mp hs; simp; omega)
theorem conv_out {r o : List Rat} {j : Nat} (h : r.length + o.length ≤ j) : conv r o j = 0 := rs_zero fun s hs => by
  rcases Nat.lt_or_ge s r.length with lt | ge
  · exact cvf_lo (by have := List.mem_range.mp hs; omega)
  · exact cvf_hi ge
abbrev RoO := List Rat × List Rat
def crossS (F : List RoO) (j : Nat) : Rat := rs (fun p => conv p.1 p.2 j) F
def wideF (F : List RoO) : Nat := (F.map fun p => p.1.length + p.2.length).foldr max 0
theorem wide_mem : ∀ {F : List RoO} {p : RoO}, p ∈ F → p.1.length + p.2.length ≤ wideF F
  | _ :: _, _, .head _ => Nat.le_max_left _ _
  | _ :: _, _, .tail _ h => Nat.le_trans (wide_mem h) (Nat.le_max_right _ _)
theorem wide_in : ∀ {F : List RoO}, F ≠ [] → ∃ p ∈ F, wideF F = p.1.length + p.2.length
  | [], h => (h rfl).elim
  | p :: F, _ => by
    rcases Nat.le_total (wideF F) (p.1.length + p.2.length) with h | h
    · exact ⟨p, List.mem_cons_self .., Nat.max_eq_left h⟩
    · cases F with
      | nil =>
        refine ⟨p, List.mem_cons_self .., ?_⟩
        exact Nat.max_eq_left (Nat.zero_le _)
      | cons q F =>
        obtain ⟨x, hx, e⟩ := wide_in (F := q :: F) (by simp)
        exact ⟨x, List.mem_cons_of_mem _ hx, (Nat.max_eq_right h).trans e⟩
theorem cross_out {F : List RoO} {j : Nat} (h : wideF F ≤ j) : crossS F j = 0 := rs_zero fun p hp => conv_out (Nat.le_trans (wide_mem hp) h)
def prowF (F : List RoO) : List Rat := (List.range (wideF F)).map (crossS F)
theorem co_prowF (F : List RoO) (j : Nat) : co (prowF F) j = crossS F j := by
  unfold prowF
  rw [co_range]
  split
  · rfl
  · exact (cross_out (by omega)).symm
def facing (R S : List (List Rat)) (i : Nat) : List RoO := (List.range (min (i + 1) R.length - (i + 1 - S.length))).map fun m => (rowAt R (i + 1 - S.length + m), rowAt S (i - (i + 1 - S.length + m)))
theorem cross_facing (R S : List (List Rat)) (i j : Nat) : crossS (facing R S i) j = rs (fun a => conv (rowAt R a) (rowAt S (i - a)) j) (List.range (i + 1)) := by
  unfold crossS facing
  rw [rs_map]
  refine (rs_shift (f := fun a => conv (rowAt R a) (rowAt S (i - a)) j) (fun s h => ?_) _).trans ?_
  · show conv (rowAt R s) (rowAt S (i - s)) j = 0
    rw [rowAt_none (R := S) (by omega), conv_nilR]
  · refine (rs_tail (by omega) fun s h1 h2 => ?_).symm
    show conv (rowAt R s) (rowAt S (i - s)) j = 0
    rw [rowAt_none (R := R) (by omega), conv_nilL]
def planeMul (R S : List (List Rat)) : List (List Rat) := planeR ((List.range (R.length + S.length)).map fun i => prowF (facing R S i))
def pm (R S : List (List Rat)) (i j : Nat) : Rat := rs (fun p => cf2 R p.1 p.2 * cf2 S (i - p.1) (j - p.2)) (box i j)
theorem cf2_planeMul (R S : List (List Rat)) (i j : Nat) : cf2 (planeMul R S) i j = pm R S i j := by
  have e : pm R S i j = rs (fun a => conv (rowAt R a) (rowAt S (i - a)) j) (List.range (i + 1)) := by
    unfold pm box
    rw [rs_flat]
    refine rs_congr fun a _ => ?_
    rw [rs_map]
    rfl
  unfold planeMul
  rw [cf2_planeR, cf2_grid, e]
  split
  · rw [co_prowF, cross_facing]
  · refine (rs_zero fun a ha => ?_).symm
    rcases Nat.lt_or_ge a R.length with lt | ge
    · rw [rowAt_none (R := S) (by omega), conv_nilR]
    · rw [rowAt_none (R := R) ge, conv_nilL]

/-! ### rows that face one another -/
/-- a list of pairs of rows -/
def Fac (H : Hp) (l : Addr) (F : List RoO) : Prop := ∃ vs, H l = some (.lst vs) ∧ All2 (fun v (p : RoO) => ∃ t a b, v = V.ref t ∧ H t = some (.tup [.ref a, .ref b]) ∧ Los H a p.1 ∧ Los H b p.2) vs F
theorem Fac.same {H H' : Hp} {l : Addr} {F : List RoO} (h : Fac H l F) (s : L2.Same H H') : Fac H' l F := by
  obtain ⟨vs, e, al⟩ := h
  exact ⟨vs, s _ _ e, al.imp fun v p ⟨t, a, b, h1, h2, h3, h4⟩ => ⟨t, a, b, h1, s _ _ h2, h3.same s, h4.same s⟩⟩
def spFacing : Sp := fun vs H Q _ => ∃ (t u : Addr) (R S : List (List Rat)) (i : Nat), vs = [.ref t, .ref u, .int (i : Int)] ∧ Lss H t R ∧ Lss H u S ∧ i < R.length + S.length ∧ R.length ≤ 400 ∧ S.length ≤ 400 ∧ ∀ l H', L2.Same H H' → Fac H' l (facing R S i) → Q (.ref l) H'
theorem v_maxN {σ : L2.St} {H : Hp} {ta : TA} {i j : Int} {n : Nat} (h : VA ta σ H [.int i, .int j]) (e : max i j = (n : Int)) : Val (tCB (fun xs H Q => ∃ i j, xs = [.int i, .int j] ∧ Q (.int (if j > i then j else i)) H) ta) σ H (.int (n : Int)) := v_cb h fun Q' q' => ⟨i, j, rfl, by
  have z : (if j > i then j else i) = (n : Int) := by split <;> omega
  rw [z]
  exact q'⟩
theorem v_minN {σ : L2.St} {H : Hp} {ta : TA} {i j : Int} {n : Nat} (h : VA ta σ H [.int i, .int j]) (e : min i j = (n : Int)) : Val (tCB (fun xs H Q => ∃ i j, xs = [.int i, .int j] ∧ Q (.int (if j < i then j else i)) H) ta) σ H (.int (n : Int)) := v_cb h fun Q' q' => ⟨i, j, rfl, by
  have z : (if j < i then j else i) = (n : Int) := by split <;> omega
  rw [z]
  exact q'⟩
theorem ok_facing (T : Txt K mg) : FnOk P w K mg base CX0 1 (fA mg "_facing") (fDat K (fA mg "_facing")) ["rows", "others", "i"] spFacing := by
  refine T._facing.F.ok sc_facing (fun vs H Q E h => ?_) (fun cdv A outer s H vs Q E hr h => ?_)
  · obtain ⟨t, u, R, S, i, rfl, _⟩ := h
    rfl
  obtain ⟨t, u, R, S, i, rfl, lR, lS, hi, hR, hS, k⟩ := h
  refine ⟨_, (pss_one (ps_ret (pe_lc (own := [("k", 3)]) (g := gName 3) (tt := tYes) (by rfl) sc_facing.nd (pi_range2 (by rfl) T.range (pa_cons (pe_callB (call_max2 rfl) (by rfl) T.max (by decide +kernel) (pa_cons pe_int (pa_cons (pe_op op_sub (pe_op op_add (pv 2) pe_int) (pe_callB call_len_seq (by rfl) T.len PySem.boot_len (pa_cons (pv 1) pa_nil))) pa_nil))) (pa_cons (pe_callB (call_min2 rfl) (by rfl) T.min (by decide +kernel) (pa_cons (pe_op op_add (pv 2) pe_int) (pa_cons (pe_callB call_len_seq (by rfl) T.len PySem.boot_len (pa_cons (pv 0) pa_nil)) pa_nil))) pa_nil))) (blkOk_by (own := [("k", 3)]) (N := ["rows", "others", "i", "k"]) (sc := defScope s_facing) (by decide +kernel)) (fun _ _ _ _ _ => pg_name (i := 3) sc_facing.nd rfl (Or.inl rfl)) (fun _ _ _ _ _ => pts_nil) (fun _ _ _ _ _ => (pe_tup (pa_cons (pe_ix (show IxR _ (rIxT K) from ix_tup) (pv 0) (pv 3) (fun _ _ => rfl)) (pa_cons (pe_ix (show IxR _ (rIxT K) from ix_tup) (pv 1) (pe_op op_sub (pv 2) (pv 3)) (fun _ _ => rfl)) pa_nil))))))), ?_⟩
  obtain ⟨vs, ev, al⟩ := lR
  obtain ⟨us, eu, al'⟩ := lS
  have lR : Lss H t R := ⟨vs, ev, al⟩
  have lS : Lss H u S := ⟨us, eu, al'⟩
  have l1 := al.len
  have l2 := al'.len
  refine r_ret (l_lcR2 (lo := ((i + 1 - S.length : Nat) : Int)) (n := min (i + 1) R.length - (i + 1 - S.length)) (R := fun m v H => ∃ t a b, v = V.ref t ∧ H t = some (.tup [.ref a, .ref b]) ∧ Los H a (rowAt R (i + 1 - S.length + m)) ∧ Los H b (rowAt S (i - (i + 1 - S.length + m)))) (fun m v H1 H2 s ⟨t, a, b, h1, h2, h3, h4⟩ => ⟨t, a, b, h1, s _ _ h2, h3.same s, h4.same s⟩) (fun m v H D ys zs ⟨t, a, b, h1, h2, h3, h4⟩ e => ⟨t, a, b, h1, tu_lst e _ _ h2, h3.tu (tu_lst e), h4.tu (tu_lst e)⟩) (va_cons (v_maxN (i := 0) (j := (i : Int) + 1 - (S.length : Int)) (va_cons val_c (va_cons (v_sub (v_add (i := (i : Int)) (val_var rfl) val_c) (v_lenS (val_var rfl) lS)) va_nil)) (by omega)) (va_cons (Val.is (v_minN (i := (i : Int) + 1) (j := (R.length : Int)) (n := min (i + 1) R.length) (va_cons (v_add (i := (i : Int)) (val_var rfl) val_c) (va_cons (v_lenS (val_var rfl) lR) va_nil)) (by omega)) (by congr 1; omega)) va_nil)) (by omega) (by omega) (by omega) (fun m H1 hm s1 => turn_name rfl ?_) (fun l zs H1 s1 e1 r1 => ?_))
  · obtain ⟨x, hx, a, ea, la⟩ := al.get (List.getElem?_eq_getElem (by omega : i + 1 - S.length + m < vs.length))
    obtain ⟨y, hy, b, eb, lb⟩ := al'.get (List.getElem?_eq_getElem (by omega : i - (i + 1 - S.length + m) < us.length))
    refine fun Q q => l_tup (va_cons (v_ixT (n := i + 1 - S.length + m) (v := .ref a) (val_var rfl) (Val.is (val_var rfl) (by congr 1)) (SqT.of (s1 _ _ ev)) (by rw [List.getElem?_eq_getElem (by omega : i + 1 - S.length + m < vs.length), ea])) (va_cons (v_ixT (n := i - (i + 1 - S.length + m)) (v := .ref b) (val_var rfl) (Val.is (v_sub (i := (i : Int)) (val_var rfl) (val_var rfl)) (by congr 1; omega)) (SqT.of (s1 _ _ eu)) (by rw [List.getElem?_eq_getElem (by omega : i - (i + 1 - S.length + m) < us.length), eb])) va_nil)) (by show 2 ≤ 100000; decide) fun p hp => q _ _ (Same.new' hp) ⟨p, a, b, rfl, upd_same, ?_, ?_⟩
    · rw [rowAt_some hx]
      exact (la.same s1).same (Same.new' hp)
    · rw [rowAt_some hy]
      exact (lb.same s1).same (Same.new' hp)
  · refine k l H1 s1 ⟨zs, e1, All2.mk (by unfold facing; rw [r1.2, List.length_map, List.length_range]) fun m v p hv hp => ?_⟩
    have hm : m < min (i + 1) R.length - (i + 1 - S.length) := by rw [← r1.2]; exact (List.getElem?_eq_some_iff.mp hv).1
    have z := r1.1.get hv
    rw [Nat.zero_add] at z
    unfold facing at hp
    rw [List.getElem?_map, List.getElem?_range hm] at hp
    cases hp
    exact z
end
end LW

namespace LW
open PySem PySem.Spec PyProof.Rows L2 GL
section
variable {P : Program} {w : World} {K : PySem.W.Frag} {mg : Str → Option Value} {base : Heap}




/-! ### comprehensions over a list, then over a range -/
theorem t_yes {σ : L2.St} {H : Hp} {Q : Bool → Hp → Prop} (h : Q true H) : tYes σ H Q := h
theorem l_lc2G {ti te : TE} {g g1 : TG} {tt1 : TT} {ta : TA} {vs vs1 : List Nat} {σ : L2.St} {H : Hp} {a : Addr} {rows : List V} {Q : VK} (P1 : Addr → Nat → Hp → Prop) (h : Val ti σ H (.ref a)) (hx : SqL K H a rows) (h0 : ∀ D, H D = none → P1 D 0 (upd H D (.lst [])))
    (hl : ∀ D i H1, H D = none → P1 D i H1 → SqL K H1 a rows)
    (turn : ∀ D i v H1, H D = none → rows[i]? = some v → P1 D i H1 → ∀ K' : L2.St → Hp → Prop, (∀ σ2 H2, (wipe σ2 vs = wipe σ vs ∧ ∃ (lo hi : Int) (P2 : Nat → Hp → Prop), VA ta σ2 H2 [.int lo, .int hi] ∧ (0 ≤ lo ∧ lo ≤ 10000 ∧ 0 ≤ hi ∧ hi ≤ 10000) ∧ P2 0 H2 ∧
      (∀ k H3, k < (hi - lo).toNat → P2 k H3 → g1 (.int (lo + (k : Int))) (wipe σ2 vs1) H3 fun σ3 H5 => wipe σ3 vs1 = wipe σ2 vs1 ∧ tt1 σ3 H5 fun b H6 => if b = true then te σ3 H6 fun y H7 => ∃ acc, H7 D = some (.lst acc) ∧ acc.length < sizeLine ∧ P2 (k + 1) (upd H7 D (.lst (acc ++ [y]))) else P2 (k + 1) H6) ∧ ∀ H3, P2 (hi - lo).toNat H3 → P1 D (i + 1) H3) → K' σ2 H2) → g v (wipe σ vs) H1 K')
    (hd : ∀ D H1, H D = none → P1 D rows.length H1 → Q (.ref D) H1) : tLc2 (iList K ti) g tYes (iRng2 ta) g1 tt1 te vs vs1 σ H Q := by
  refine h _ ⟨a, rfl, ⟨rows, hx⟩, fun D hD => ?_⟩
  refine ⟨fun i m H' => m = rows.length - i ∧ i ≤ rows.length ∧ P1 D i H', ⟨rows.length, by simp, Nat.zero_le _, h0 D hD⟩, ?_⟩
  rintro i m H1 ⟨rfl, hi, p⟩
  have sq := hl D i H1 hD p
  by_cases hlt : i < rows.length
  · have e1 : rows[i]? = some rows[i] := List.getElem?_eq_getElem hlt
    refine .inr ⟨⟨rows, _, sq, e1⟩, fun H2 => P1 D (i + 1) H2, fun H' p' => ⟨rows.length - (i + 1), by omega, rfl, hlt, p'⟩, fun x H' y => ?_⟩
    obtain ⟨e, y⟩ := y
    subst e
    have := y rows sq
    rw [e1] at this
    cases this
    refine turn D i _ H' hD e1 p _ fun σ2 H2 ⟨w2, lo, hi', P2, va, ⟨b1, b2, b3, b4⟩, p0, step, fin⟩ => ⟨w2, t_yes ?_⟩
    refine iteT (va _ ⟨lo, hi', rfl, ⟨by omega, by omega, by omega, by omega⟩, ?_⟩)
    refine ⟨fun k m H3 => m = (hi' - lo).toNat - k ∧ k ≤ (hi' - lo).toNat ∧ P2 k H3, ⟨_, rfl, Nat.zero_le _, p0⟩, ?_⟩
    rintro k m H3 ⟨rfl, hk, p2⟩
    by_cases hk2 : k < (hi' - lo).toNat
    · refine .inr ⟨hk2, fun H4 => P2 (k + 1) H4, fun H' p' => ⟨(hi' - lo).toNat - (k + 1), by omega, rfl, hk2, p'⟩, fun x H' y => ?_⟩
      obtain ⟨e, y⟩ := y
      subst e y
      exact step k _ hk2 p2
    · have ek : k = (hi' - lo).toNat := by omega
      subst ek
      exact .inl ⟨Nat.le_refl _, fin H3 p2⟩
  · have e : i = rows.length := by omega
    subst e
    exact .inl ⟨⟨rows, sq, Nat.le_refl _⟩, hd D H1 hD p⟩
theorem v_top {σ : L2.St} {H : Hp} {te tk : TE} {t : Addr} {k : Nat} {r : List Rat} {q : Rat} (h : Val te σ H (.ref t)) (hk : Val tk σ H (.int (k : Int))) (los : Los H t r) (hq : r[k]? = some q) :
    Val (tOp (rIxT K) (tOp (rIxT K) te tk) (tC (.int 0))) σ H (.int q.num) ∧ Val (tOp (rIxT K) (tOp (rIxT K) te tk) (tC (.int 1))) σ H (.int (q.den : Int)) := by
  obtain ⟨vs, e, al⟩ := los
  have lk : k < vs.length := by rw [al.len]; exact (List.getElem?_eq_some_iff.mp hq).1
  obtain ⟨q', h1, p, h2, lo⟩ := al.get (List.getElem?_eq_getElem lk)
  rw [hq] at h1
  cases h1
  have v1 := v_ixT (K := K) (n := k) (v := .ref p) h hk (SqT.of e) (by rw [List.getElem?_eq_getElem lk, h2])
  exact ⟨v_ixT (n := 0) v1 val_c (SqT.of lo) rfl, v_ixT (n := 1) v1 val_c (SqT.of lo) rfl⟩
theorem ans_neI {σ : L2.St} {H : Hp} {ta tb : TE} {i j : Int} (h : Val ta σ H (.int i)) (k : Val tb σ H (.int j)) : Ans (tTest (tOp rNe ta tb)) σ H (!decide (i = j)) := fun Q q => h _ (k _ ⟨rfl, ⟨_, by rw [show decide (V.int i = V.int j) = decide (i = j) by simp], q⟩⟩)
def spCross : Sp := fun vs H Q _ => ∃ (l : Addr) (F : List RoO) (j D M E' N k : Nat), vs = [.ref l, .int (j : Int)] ∧ Fac H l F ∧ (∀ p ∈ F, Bds D M p.1 ∧ Bds E' N p.2 ∧ p.1.length ≤ k ∧ p.2.length ≤ 400) ∧ Fz D M ∧ Fz E' N ∧ k ≤ 400 ∧ j ≤ 1000 ∧ F.length * k ≤ 5000 ∧
  ∀ l' H' qs, L2.Same H H' → LPq (D * E') (M * N) H' l' qs → qs.length ≤ F.length * k → qs.sum = crossS F j → Q (.ref l') H'
theorem ok_crossed (T : Txt K mg) : FnOk P w K mg base CX0 1 (fA mg "_crossed_pairs") (fDat K (fA mg "_crossed_pairs")) ["facing", "j"] spCross := by
  refine T._crossed_pairs.F.ok sc_crossed_pairs (fun vs H Q E h => ?_) (fun cdv A outer s H vs Q E hr h => ?_)
  · obtain ⟨l, F, j, D0, M, E0, N, k, rfl, _⟩ := h
    rfl
  obtain ⟨l, F, j, D0, M, E0, N, k, rfl, fac, bd, fD, fE, hk, hj, hF, q⟩ := h
  refine ⟨_, (pss_one (ps_ret (pe_lc2 (own := [("row", 2), ("other", 3), ("k", 4)]) (vs1 := [4]) (g := gTup K 2 (gCons (gName 2) (gCons (gName 3) gNil))) (g1 := gName 4) (tt := tYes) (by rfl) sc_crossed_pairs.nd (pi_list (pv 0)) (blkOk_by (own := [("row", 2), ("other", 3), ("k", 4)]) (N := ["facing", "j", "row", "other", "k"]) (sc := defScope s_crossed_pairs) (by decide +kernel)) (by decide) (fun _ _ _ _ _ => pg_tup rfl (pgs_cons (pg_name (i := 2) sc_crossed_pairs.nd rfl (Or.inl rfl)) (pgs_cons (pg_name (i := 3) sc_crossed_pairs.nd rfl (Or.inl rfl)) pgs_nil))) (fun _ _ _ _ _ => pts_nil) (fun _ _ _ _ _ => (pi_range2 (by rfl) T.range (pa_cons (pe_callB (call_max2 rfl) (by rfl) T.max (by decide +kernel) (pa_cons pe_int (pa_cons (pe_op op_sub (pe_op op_add (pv 1) pe_int) (pe_callB (show CallR _ (.builtin "len") (fun xs H Q => ∃ p ys, xs = [.ref p] ∧ (SqL K H p ys ∨ SqT K H p ys) ∧ Q (.int ys.length) H) from call_len_seq) (by rfl) T.len PySem.boot_len (pa_cons (pv 3) pa_nil))) pa_nil))) (pa_cons (pe_callB (call_min2 rfl) (by rfl) T.min (by decide +kernel) (pa_cons (pe_op op_add (pv 1) pe_int) (pa_cons (pe_callB (show CallR _ (.builtin "len") (fun xs H Q => ∃ p ys, xs = [.ref p] ∧ (SqL K H p ys ∨ SqT K H p ys) ∧ Q (.int ys.length) H) from call_len_seq) (by rfl) T.len PySem.boot_len (pa_cons (pv 2) pa_nil)) pa_nil))) pa_nil)))) (fun _ _ _ _ _ => pg_name (i := 4) sc_crossed_pairs.nd rfl (Or.inl rfl)) (fun _ _ _ _ _ => pts_one (PW.pt (pw_and (pt_cmpR op_ne (pe_ix (show IxR _ (rIxT K) from ix_tup) (pe_ix (show IxR _ (rIxT K) from ix_tup) (pv 2) (pv 4) (fun _ _ => rfl)) pe_int (fun _ _ => rfl)) pe_int (nomark _)) (pw_and1 (pt_cmpR op_ne (pe_ix (show IxR _ (rIxT K) from ix_tup) (pe_ix (show IxR _ (rIxT K) from ix_tup) (pv 3) (pe_op op_sub (pv 1) (pv 4)) (fun _ _ => rfl)) pe_int (fun _ _ => rfl)) pe_int (nomark _)))))) (fun _ _ _ _ _ => (pe_tup (pa_cons (pe_op op_mulW (pe_ix (show IxR _ (rIxT K) from ix_tup) (pe_ix (show IxR _ (rIxT K) from ix_tup) (pv 2) (pv 4) (fun _ _ => rfl)) pe_int (fun _ _ => rfl)) (pe_ix (show IxR _ (rIxT K) from ix_tup) (pe_ix (show IxR _ (rIxT K) from ix_tup) (pv 3) (pe_op op_sub (pv 1) (pv 4)) (fun _ _ => rfl)) pe_int (fun _ _ => rfl))) (pa_cons (pe_op op_mulW (pe_ix (show IxR _ (rIxT K) from ix_tup) (pe_ix (show IxR _ (rIxT K) from ix_tup) (pv 2) (pv 4) (fun _ _ => rfl)) pe_int (fun _ _ => rfl)) (pe_ix (show IxR _ (rIxT K) from ix_tup) (pe_ix (show IxR _ (rIxT K) from ix_tup) (pv 3) (pe_op op_sub (pv 1) (pv 4)) (fun _ _ => rfl)) pe_int (fun _ _ => rfl))) pa_nil))))))), ?_⟩
  obtain ⟨vs, ev, al⟩ := fac
  have fac : Fac H l F := ⟨vs, ev, al⟩
  have lF := al.len
  refine r_ret (l_lc2G (rows := vs) (fun D i H1 => ∃ us qs, L2.Same H H1 ∧ H1 D = some (.lst us) ∧ All2 (Pq (D0 * E0) (M * N) H1) us qs ∧ qs.length ≤ i * k ∧ qs.sum = crossS (F.take i) j) (val_var rfl) (SqL.of ev) (fun D hD => ⟨[], [], Same.new' hD, upd_same, .nil, Nat.zero_le _, rfl⟩) (fun D i H1 _ ⟨us, qs, s, _⟩ => SqL.of (s _ _ ev)) (fun D i v H1 hD hv p => ?_) (fun D H1 hD ⟨us, qs, s1, e1, al1, len, sum⟩ => q D H1 qs s1 ⟨us, e1, al1⟩ (by rw [lF] at len; exact len) (by rw [lF, List.take_length] at sum; exact sum)))
  obtain ⟨us, qs, s1, e1, al1, len, sum⟩ := p
  obtain ⟨pr, hpr, t, a, b, rfl, et, la, lb⟩ := al.get hv
  obtain ⟨sa, sb, ka, kb⟩ := bd pr (get_mem hpr)
  have iF : i < F.length := (List.getElem?_eq_some_iff.mp hpr).1
  have ikF : (i + 1) * k ≤ F.length * k := Nat.mul_le_mul_right _ iF
  have ik : (i + 1) * k = i * k + k := Nat.succ_mul i k
  intro K' kk
  refine g_two (SqT.of (s1 _ _ et)) (kk _ _ ⟨rfl, ((j + 1 - pr.2.length : Nat) : Int), ((min (j + 1) pr.1.length : Nat) : Int), fun m H2 => ∃ us qs, L2.Same H H2 ∧ H2 D = some (.lst us) ∧ All2 (Pq (D0 * E0) (M * N) H2) us qs ∧ qs.length ≤ i * k + m ∧ qs.sum = crossS (F.take i) j + rs (cvf pr.1 pr.2 j) (List.range (j + 1 - pr.2.length + m)), ?_, by omega, ?_, ?_, ?_⟩)
  · exact va_cons (v_maxN (i := 0) (j := (j : Int) + 1 - (pr.2.length : Int)) (va_cons val_c (va_cons (v_sub (v_add (i := (j : Int)) (val_var rfl) val_c) (v_lenL (val_var rfl) (lb.same s1))) va_nil)) (by omega)) (va_cons (v_minN (i := (j : Int) + 1) (j := (pr.1.length : Int)) (va_cons (v_add (i := (j : Int)) (val_var rfl) val_c) (va_cons (v_lenL (val_var rfl) (la.same s1)) va_nil)) (by omega)) va_nil)
  · refine ⟨us, qs, s1, e1, al1, by omega, ?_⟩
    rw [sum, Nat.add_zero, rs_zero (l := List.range _) fun s hs => cvf_lo (List.mem_range.mp hs)]
    grind
  · intro m H3 hm ⟨us, qs, s3, e3, al3, len3, sum3⟩
    have hm2 : j + 1 - pr.2.length + m < min (j + 1) pr.1.length := by omega
    have lu := al3.len
    obtain ⟨x, hx⟩ : ∃ x, pr.1[j + 1 - pr.2.length + m]? = some x := ⟨_, List.getElem?_eq_getElem (by omega)⟩
    obtain ⟨y, hy⟩ : ∃ y, pr.2[j - (j + 1 - pr.2.length + m)]? = some y := ⟨_, List.getElem?_eq_getElem (by omega)⟩
    have ecv : cvf pr.1 pr.2 j (j + 1 - pr.2.length + m) = x * y := by
      unfold cvf
      rw [co_some hx, co_some hy]
    have esum : rs (cvf pr.1 pr.2 j) (List.range (j + 1 - pr.2.length + (m + 1))) = rs (cvf pr.1 pr.2 j) (List.range (j + 1 - pr.2.length + m)) + x * y := by
      rw [← ecv, ← rs_range_succ]
      rfl
    refine g_name ⟨rfl, ?_⟩
    have ex : ∀ {σ : L2.St} {te tk : TE}, Val te σ H3 (.ref a) → Val tk σ H3 (.int (((j + 1 - pr.2.length : Nat) : Int) + (m : Int))) → _ := fun {σ te tk} h1 h2 => v_top (K := K) h1 (Val.is h2 (by congr 1)) (la.same s3) hx
    have ey : ∀ {σ : L2.St} {te tj tk : TE}, Val te σ H3 (.ref b) → Val tj σ H3 (.int (j : Int)) → Val tk σ H3 (.int (((j + 1 - pr.2.length : Nat) : Int) + (m : Int))) → _ := fun {σ te tj tk} h1 h3 h2 => v_top (K := K) (tk := tOp (rI0 fun i j => .int (i - j)) tj tk) h1 (Val.is (v_sub h3 h2) (by congr 1; omega)) (lb.same s3) hy
    have sx := sa x (get_mem hx)
    have sy := sb y (get_mem hy)
    refine (ans_neI (ex (val_var rfl) (val_var rfl)).1 val_c) _ ?_
    by_cases x0 : x.num = 0
    · rw [decide_eq_true x0]
      refine iteF (iteF ⟨us, qs, s3, e3, al3, by omega, ?_⟩)
      rw [esum, sum3, Rat.num_eq_zero.mp x0, Rat.zero_mul, Rat.add_zero]
    rw [decide_eq_false x0]
    refine iteT ((ans_neI (ey (val_var rfl) (val_var rfl) (val_var rfl)).1 val_c) _ ?_)
    by_cases y0 : y.num = 0
    · rw [decide_eq_true y0]
      refine iteF ⟨us, qs, s3, e3, al3, by omega, ?_⟩
      rw [esum, sum3, Rat.num_eq_zero.mp y0, Rat.mul_zero, Rat.add_zero]
    rw [decide_eq_false y0]
    have fx := ((sx.sm fD).fit (by decide)).1
    have fy := ((sy.sm fE).fit (by decide)).1
    have gx := ((sx.sm fD).fit (by decide)).2
    have gy := ((sy.sm fE).fit (by decide)).2
    refine iteT (l_tup (va_cons (v_mul (ex (val_var rfl) (val_var rfl)).1 (ey (val_var rfl) (val_var rfl) (val_var rfl)).1 (fit_mul fx fy)) (va_cons (v_mul (ex (val_var rfl) (val_var rfl)).2 (ey (val_var rfl) (val_var rfl) (val_var rfl)).2 (fit_mul gx gy)) va_nil)) (by show 2 ≤ 100000; decide) fun p hp => ?_)
    have s4 := Same.new' (o := .tup [.int (x.num * y.num), .int ((x.den : Int) * (y.den : Int))]) hp
    have e4 := s4 _ _ e3
    refine ⟨us, e4, by rw [lu]; exact Nat.lt_of_le_of_lt (show qs.length ≤ 5000 by omega) (by decide), us ++ [.ref p], qs ++ [x * y], ?_, upd_same, ?_, by rw [List.length_append]; show qs.length + 1 ≤ _; omega, ?_⟩
    · intro c o z
      rw [upd_ne (ne_of_none z hD)]
      exact s4 _ _ (s3 _ _ z)
    · refine (al3.imp fun v q z => (z.same s4).tu (tu_lst e4)).append (.cons ?_ .nil)
      have dx := x.den_pos
      have dy := y.den_pos
      refine ⟨p, x.num * y.num, x.den * y.den, rfl, tu_lst e4 _ _ (by rw [Int.natCast_mul]; exact upd_same), Nat.mul_pos dx dy, Nat.mul_dvd_mul sx.1 sy.1, ?_, ?_⟩
      · rw [Int.natAbs_mul, show M * N * (x.den * y.den) = (M * x.den) * (N * y.den) by simp only [Nat.mul_assoc, Nat.mul_left_comm, Nat.mul_comm]]
        exact Nat.mul_le_mul sx.2 sy.2
      · rw [Rat.mul_def', ← Rat.divInt_ofNat]
    · rw [esum, List.sum_append, sum3, List.sum_cons, List.sum_nil, Rat.add_zero]
      grind
  · intro H3 ⟨us, qs, s3, e3, al3, len3, sum3⟩
    refine ⟨us, qs, s3, e3, al3, by omega, ?_⟩
    rw [sum3, show ((((min (j + 1) pr.1.length : Nat) : Int) - ((j + 1 - pr.2.length : Nat) : Int)).toNat) = min (j + 1) pr.1.length - (j + 1 - pr.2.length) by omega, conv_cut]
    unfold crossS
    rw [List.take_add_one, hpr, rs_app]
    show _ + _ = _ + (conv pr.1 pr.2 j + 0)
    grind
end
end LW

namespace LW
open PySem PySem.Spec PyProof.Rows L2 GL
section
variable {P : Program} {w : World} {K : PySem.W.Frag} {mg : Str → Option Value} {base : Heap}




/-! ### products -/
theorem LPq.tu {D M : Nat} {H H' : Hp} {l : Addr} {qs : List Rat} {vs : List V} (e : H' l = some (.lst vs)) (al : All2 (Pq D M H) vs qs) (s : ∀ b ys, H b = some (.tup ys) → H' b = some (.tup ys)) : LPq D M H' l qs := ⟨vs, e, al.imp fun v q z => z.tu s⟩
theorem wide_eq {F : List RoO} {m : Int} (h : m ∈ F.map fun p => ((p.1.length : Int) + (p.2.length : Int))) (k : ∀ y ∈ F.map fun p => ((p.1.length : Int) + (p.2.length : Int)), y ≤ m) : m = (wideF F : Int) := by
  obtain ⟨p, hp, rfl⟩ := List.mem_map.mp h
  have h1 := wide_mem hp
  obtain ⟨q, hq, e⟩ := wide_in (F := F) (List.ne_nil_of_mem hp)
  have h2 := k _ (List.mem_map.mpr ⟨q, hq, rfl⟩)
  omega
theorem wide_le {F : List RoO} {k l : Nat} (h : ∀ p ∈ F, p.1.length ≤ k ∧ p.2.length ≤ l) : wideF F ≤ k + l := by
  by_cases e : F = []
  · subst e
    exact Nat.zero_le _
  · obtain ⟨q, hq, e⟩ := wide_in e
    have := h q hq
    omega
theorem kw_one {r : List V → List V → Hp → VK → Prop} {te tf : TE} {σ : L2.St} {H : Hp} {Q : VK} (h : te σ H fun v H1 => tf σ H1 fun u H2 => r [v] [u] H2 Q) : tCKw r (tCons te tNil) (tCons tf tNil) σ H Q := h
def spPrRow : Sp := fun vs H Q _ => ∃ (l : Addr) (F : List RoO) (D M E' N k n : Nat), vs = [.ref l] ∧ Fac H l F ∧ (∀ p ∈ F, Bds D M p.1 ∧ Bds E' N p.2 ∧ p.1.length ≤ k ∧ p.2.length ≤ 400) ∧ F.length ≤ 400 ∧ Fz D M ∧ Fz E' N ∧ k ≤ 400 ∧ F.length * k + 1 ≤ 2 ^ n ∧ n ≤ 12 ∧ Fz (D * E') (2 ^ n * (M * N)) ∧
  ∀ l' H', L2.Same H H' → H l' = none → LPq (D * E') (2 ^ n * (M * N)) H' l' (prowF F) → Q (.ref l') H'
theorem ok_product_row (T : Txt K mg) : FnOk P w K mg base CX0 3 (fA mg "_product_row") (fDat K (fA mg "_product_row")) ["facing"] spPrRow := by
  have Gtotal := ok_total (P := P) (w := w) (base := base) T
  have G_crossed_pairs := ok_crossed (P := P) (w := w) (base := base) T
  refine T._product_row.F.ok sc_product_row (fun vs H Q E h => ?_) (fun cdv A outer s H vs Q E hr h => ?_)
  · obtain ⟨l, F, D0, M, E0, N, k, n, rfl, _⟩ := h
    rfl
  obtain ⟨l, F, D0, M, E0, N, k, n, rfl, fac, bd, lF, fD, fE, hk, hN, hn, fz, q⟩ := h
  refine ⟨_, (pss_cons (ps_set (i := 1) sc_product_row.nd rfl (Or.inl rfl) (pe_callBK (cr_maxDef rfl) (by rfl) T.max (by decide +kernel) (pa_cons (pe_lc (own := [("row", 2), ("other", 3)]) (g := gTup K 2 (gCons (gName 2) (gCons (gName 3) gNil))) (tt := tYes) (by rfl) sc_product_row.nd (pi_list (pv 0)) (blkOk_by (own := [("row", 2), ("other", 3)]) (N := ["facing", "wide", "row", "other", "j"]) (sc := defScope s_product_row) (by decide +kernel)) (fun _ _ _ _ _ => pg_tup rfl (pgs_cons (pg_name (i := 2) sc_product_row.nd rfl (Or.inl rfl)) (pgs_cons (pg_name (i := 3) sc_product_row.nd rfl (Or.inl rfl)) pgs_nil))) (fun _ _ _ _ _ => pts_nil) (fun _ _ _ _ _ => (pe_op op_add (pe_callB (show CallR _ (.builtin "len") (fun xs H Q => ∃ p ys, xs = [.ref p] ∧ (SqL K H p ys ∨ SqT K H p ys) ∧ Q (.int ys.length) H) from call_len_seq) (by rfl) T.len PySem.boot_len (pa_cons (pv 2) pa_nil)) (pe_callB (show CallR _ (.builtin "len") (fun xs H Q => ∃ p ys, xs = [.ref p] ∧ (SqL K H p ys ∨ SqT K H p ys) ∧ Q (.int ys.length) H) from call_len_seq) (by rfl) T.len PySem.boot_len (pa_cons (pv 3) pa_nil))))) pa_nil) (pk_cons pe_int pk_nil)))
  (pss_one (ps_ret (pe_lc (own := [("j", 4)]) (g := gName 4) (tt := tYes) (by rfl) sc_product_row.nd (pi_range1 (by rfl) T.range (pa_cons (pv 1) pa_nil)) (blkOk_by (own := [("j", 4)]) (N := ["facing", "wide", "row", "other", "j"]) (sc := defScope s_product_row) (by decide +kernel)) (fun _ _ _ _ _ => pg_name (i := 4) sc_product_row.nd rfl (Or.inl rfl)) (fun _ _ _ _ _ => pts_nil) (fun _ _ _ _ _ => (pe_c T.total Gtotal (hr.mono (by decide)) (pa_cons (pe_c T._crossed_pairs G_crossed_pairs (hr.mono (by decide)) (pa_cons (pv 0) (pa_cons (pv 4) pa_nil))) pa_nil))))))), ?_⟩
  obtain ⟨vs, ev, al⟩ := fac
  have fac : Fac H l F := ⟨vs, ev, al⟩
  have lv := al.len
  have wd := wide_le fun p hp => (bd p hp).2.2
  have N9 : 2 ^ n ≤ 4096 := Nat.pow_le_pow_right (n := 2) (j := 12) (by decide) hn
  have fin : ∀ H1, L2.Same H H1 → ∀ {tb : TS} {D : Ends}, (tb { D with nx := fun _ _ => False } [] H1 ∨ True) := fun _ _ _ _ => .inr trivial
  refine q_asg (kw_one (l_lcL (R := fun i v _ => ∃ b, (F.map fun p => ((p.1.length : Int) + (p.2.length : Int)))[i]? = some b ∧ v = V.int b) (fun _ _ _ _ _ h => h) (fun _ _ _ _ _ _ h _ => h) (val_var rfl) (SqL.of ev) (by omega) (fun i v H1 hv s1 => ?_) (fun l1 ns H1 s1 e1 r1 => ?_)))
  · obtain ⟨p, hp, t, a, b, rfl, et, la, lb⟩ := al.get hv
    exact turn_two (SqT.of (s1 _ _ et)) rfl (em_val (v_add (v_lenL (val_var rfl) (la.same s1)) (v_lenL (val_var rfl) (lb.same s1))) ⟨_, by rw [List.getElem?_map, hp]; rfl, rfl⟩)
  rw [lv] at r1
  have en := rows_map r1 (List.length_map _)
  refine val_c _ ⟨l1, F.map fun p => ((p.1.length : Int) + (p.2.length : Int)), .int 0, rfl, rfl, by rw [← en]; exact SqL.of e1, fun z => ?_, fun m hm hmax => ?_⟩
  · have ez : F = [] := List.map_eq_nil_iff.mp z
    have w0 : wideF F = 0 := by rw [ez]; rfl
    refine r_ret (d_lcR (n := 0) (R := fun _ j v H => Pq (D0 * E0) (2 ^ n * (M * N)) H v (crossS F j)) (fun D i v H1 H2 s h => h.same s) (fun D i v H ys zs h e => h.tu (tu_lst e)) (va_cons (val_var rfl) va_nil) (by omega) (fun D j H2 hj => absurd hj (Nat.not_lt_zero _)) (fun l2 zs H2 s2 nl e2 r2 => q l2 H2 (s1.trans s2) (s1.free nl) ⟨zs, e2, ?_⟩))
    unfold prowF
    rw [w0, List.eq_nil_of_length_eq_zero r2.2]
    exact .nil
  · obtain rfl := wide_eq hm hmax
    refine r_ret (d_lcR (n := wideF F) (R := fun _ j v H => Pq (D0 * E0) (2 ^ n * (M * N)) H v (crossS F j)) (fun D i v H1 H2 s h => h.same s) (fun D i v H ys zs h e => h.tu (tu_lst e)) (va_cons (val_var rfl) va_nil) (by omega) (fun D j H2 hj s2 eD => turn_name rfl fun Q' q' => ?_) (fun l2 zs H2 s2 nl e2 r2 => q l2 H2 (s1.trans s2) (s1.free nl) ⟨zs, e2, All2.mk (by unfold prowF; rw [r2.2, List.length_map, List.length_range]) fun j v x hv hx => ?_⟩))
    · refine call_one (c_call (va_cons (val_var rfl) (va_cons (val_var rfl) va_nil)) ⟨l, F, j, D0, M, E0, N, k, rfl, (fac.same s1).same s2, bd, fD, fE, hk, by omega, by omega, fun l3 H3 qs s3 lp len sum => ?_⟩)
      exact ⟨l3, qs, D0 * E0, M * N, n, rfl, lp, by omega, hn, fz, fun v H4 s4 pv => q' v H4 (s3.trans s4) (by rw [← sum]; exact pv)⟩
    · have hj : j < wideF F := by rw [← r2.2]; exact (List.getElem?_eq_some_iff.mp hv).1
      have z := r2.1.get hv
      rw [Nat.zero_add] at z
      unfold prowF at hx
      rw [List.getElem?_map, List.getElem?_range hj] at hx
      cases hx
      exact z
def BMul (D M d E' N e : Nat) : Prop := Fz D M ∧ Fz E' N ∧ d ≤ 60 ∧ e ≤ 300 ∧ ∃ n, (d + 1) * (d + 1) + 1 ≤ 2 ^ n ∧ n ≤ 12 ∧ Fz (D * E') (2 ^ n * (M * N))
theorem LPq.rowR {H : Hp} {l : Addr} {xs : List Rat} {D M : Nat} (h : LPq D M H l xs) (hN : Fz D M) (hl : xs.length ≤ 1000) : RowR H (.ref l) xs := by
  obtain ⟨vs, ev, al⟩ := h
  exact ⟨l, vs, rfl, .inl ev, by rw [al.len]; exact hl, al.imp fun v q z => z.rq hN⟩
theorem ok_plane_product (T : Txt K mg) (TP : PlaneT K mg) : FnOk P w K mg base CX0 10 (fA mg "_plane_product") (fDat K (fA mg "_plane_product")) ["one", "other"] (spTwoPl mg BMul planeMul) := by
  have GPlane_init := ok_Plane_init (P := P) (w := w) (base := base) T TP
  have G_facing := ok_facing (P := P) (w := w) (base := base) T
  have G_product_row := ok_product_row (P := P) (w := w) (base := base) T
  refine T._plane_product.F.ok sc_plane_product (fun vs H Q E h => ?_) (fun cdv A outer s H vs Q E hr h => ?_)
  · obtain ⟨a, b, R, S, D0, M, d0, E0, N, e0, rfl, _⟩ := h
    rfl
  obtain ⟨a, b, R, S, D0, M, d0, E0, N, e0, rfl, ⟨dx, t, e, los, cR⟩, ⟨dy, t', e', los', cS⟩, nR, nS, ⟨fD, fE, hd, he, n, hN, hn, fz⟩, q⟩ := h
  refine ⟨_, (pss_cons (ps_set (i := 2) sc_plane_product.nd rfl (Or.inl rfl) (pe_op op_add (pe_callB call_len_seq (by rfl) T.len PySem.boot_len (pa_cons (pe_fld (pv 0) (by rfl)) pa_nil)) (pe_callB call_len_seq (by rfl) T.len PySem.boot_len (pa_cons (pe_fld (pv 1) (by rfl)) pa_nil))))
  (pss_one (ps_ret (pe_make TP.mkc GPlane_init (hr.mono (by decide)) (by rfl) TP.g TP.m_init.b .nil passL (pa_cons (pe_lc (own := [("i", 3)]) (g := gName 3) (tt := tYes) (by rfl) sc_plane_product.nd (pi_range1 (by rfl) T.range (pa_cons (pv 2) pa_nil)) (blkOk_by (own := [("i", 3)]) (N := ["one", "other", "many", "i"]) (sc := defScope s_plane_product) (by decide +kernel)) (fun _ _ _ _ _ => pg_name (i := 3) sc_plane_product.nd rfl (Or.inl rfl)) (fun _ _ _ _ _ => pts_nil) (fun _ _ _ _ _ => (pe_c T._product_row G_product_row (hr.mono (by decide)) (pa_cons (pe_c T._facing G_facing (hr.mono (by decide)) (pa_cons (show PE _ _ (tFld K (tVar 0) "rows") from pe_fld (pv 0) (by rfl)) (pa_cons (show PE _ _ (tFld K (tVar 1) "rows") from pe_fld (pv 1) (by rfl)) (pa_cons (pv 3) pa_nil)))) pa_nil)))) pa_nil))))), ?_⟩
  have N9 : 2 ^ n ≤ 4096 := Nat.pow_le_pow_right (n := 2) (j := 12) (by decide) hn
  have lR := nR.lenR cR
  have lS := nS.lenR cS
  have bd : ∀ i, ∀ p ∈ facing R S i, Bds D0 M p.1 ∧ Bds E0 N p.2 ∧ p.1.length ≤ d0 + 1 ∧ p.2.length ≤ 400 := fun i p hp => by
    obtain ⟨m, _, rfl⟩ := List.mem_map.mp hp
    exact ⟨nR.row _, nS.row _, nR.len cR _, Nat.le_trans (nS.len cS _) (by omega)⟩
  have fl : ∀ i, (facing R S i).length ≤ d0 + 1 := fun i => by
    unfold facing
    rw [List.length_map, List.length_range]
    omega
  refine q_set (v := .int ((R.length + S.length : Nat) : Int)) (Val.is (v_add (v_lenS (v_rows TP (val_var rfl) e) los) (v_lenS (v_rows TP (val_var rfl) e') los')) (by rw [Int.natCast_add])) ?_
  refine r_ret (va_1 (d_lcR (n := R.length + S.length) (R := fun D i v H => ∃ l, v = V.ref l ∧ l ≠ D ∧ LPq (D0 * E0) (2 ^ n * (M * N)) H l (prowF (facing R S i))) (fun D i v H1 H2 s ⟨l, h1, h2, h3⟩ => ⟨l, h1, h2, h3.same s⟩) (fun D i v H ys zs ⟨l, h1, h2, us, eu, al⟩ e => ⟨l, h1, h2, LPq.tu (by rw [upd_ne h2]; exact eu) al (tu_lst e)⟩) (va_cons (val_var rfl) va_nil) (by omega) (fun D i H1 hi s1 eD => turn_name rfl fun Q' q' => ?_) (fun l zs H1 s1 nl e1 r1 => ?_)))
  · refine call_one (c_call (va_cons (v_rows TP (val_var rfl) (s1 _ _ e)) (va_cons (v_rows TP (val_var rfl) (s1 _ _ e')) (va_cons (val_var rfl) va_nil))) ⟨t, t', R, S, i, rfl, los.same s1, los'.same s1, hi, by omega, by omega, fun l2 H2 s2 fac => ?_⟩)
    have flk : (facing R S i).length * (d0 + 1) ≤ (d0 + 1) * (d0 + 1) := Nat.mul_le_mul_right _ (fl i)
    have f0 := fl i
    obtain ⟨ys, eD⟩ := eD
    exact ⟨l2, facing R S i, D0, M, E0, N, d0 + 1, n, rfl, fac, bd i, by omega, fD, fE, by omega, by omega, hn, fz, fun l3 H3 s3 n3 lp => q' _ H3 (s2.trans s3) ⟨l3, rfl, ne_of_some (s2 _ _ eD) n3, lp⟩⟩
  · have wl : ∀ i, (prowF (facing R S i)).length ≤ 1000 := fun i => by
      have := wide_le fun p hp => (bd i p hp).2.2
      unfold prowF
      rw [List.length_map, List.length_range]
      omega
    refine made_plane ⟨l, zs, rfl, .inl e1, by rw [r1.2]; omega, All2.mk (by rw [r1.2, List.length_map, List.length_range]) fun i v x hv hx => ?_⟩ fun c H' s' pc _ => q c H' (s1.trans s') pc
    have hi : i < R.length + S.length := by rw [← r1.2]; exact (List.getElem?_eq_some_iff.mp hv).1
    obtain ⟨l3, rfl, _, lp⟩ := r1.1.get hv
    rw [Nat.zero_add] at lp
    rw [List.getElem?_map, List.getElem?_range hi] at hx
    cases hx
    exact lp.rowR fz (wl i)
theorem rs_bd {D M K : Nat} {f : Nat → Rat} (h : ∀ s, Bd D M (f s)) (z : ∀ s, K ≤ s → f s = 0) : ∀ n, Bd D (K * M) (rs f (List.range n)) := fun n => by
  have base : ∀ n, Bd D (n * M) (rs f (List.range n)) := fun n => by
    induction n with
    | zero => exact Bd.zero
    | succ n ih =>
      rw [rs_range_succ, Nat.succ_mul]
      exact ih.add (h n)
  rcases Nat.lt_or_ge n K with lt | ge
  · exact (base n).le (Nat.mul_le_mul_right _ (Nat.le_of_lt lt))
  · rw [rs_tail ge fun s h1 _ => z s h1]
    exact base K
theorem rs_null {f : Nat → Rat} {n : Nat} (h : ∀ s, f s = 0) : rs f (List.range n) = 0 := rs_zero fun s _ => h s
theorem Nice.mul {D M d E' N e : Nat} {R S : List (List Rat)} (h : Nice D M d R) (k : Nice E' N e S) : Nice (D * E') ((d + 1) * ((d + 1) * (M * N))) (d + e) (planeMul R S) := by
  have ex : ∀ i j, cf2 (planeMul R S) i j = rs (fun a => conv (rowAt R a) (rowAt S (i - a)) j) (List.range (i + 1)) := fun i j => by
    rw [cf2_planeMul]
    unfold pm box
    rw [rs_flat]
    refine rs_congr fun a _ => ?_
    rw [rs_map]
    rfl
  refine ⟨fun i j => ?_, fun i j l => ?_⟩
  · rw [ex]
    refine rs_bd (fun a => ?_) (fun a ha => ?_) _
    · refine rs_bd (fun s => (h.bd a s).mul (k.bd (i - a) (j - s))) (fun s hs => ?_) _
      show cf2 R a s * _ = 0
      rw [h.dg a s (by omega), Rat.zero_mul]
    · refine rs_null fun s => ?_
      show cf2 R a s * _ = 0
      rw [h.dg a s (by omega), Rat.zero_mul]
  · rw [ex]
    refine rs_zero fun a ha => rs_zero fun s hs => ?_
    have a1 := List.mem_range.mp ha
    have s1 := List.mem_range.mp hs
    show cf2 R a s * cf2 S (i - a) (j - s) = 0
    rcases Nat.lt_or_ge d (a + s) with lt | ge
    · rw [h.dg a s lt, Rat.zero_mul]
    · rw [k.dg (i - a) (j - s) (by omega), Rat.mul_zero]
end
end LW

/-! enumerate of a tuple. -/
namespace GL
open PySem PySem.Spec PyProof.Rows L2
open AutoSeq1 (wpAny_loadPart')
def tupIt (t : Addr) : Obj := { cls := .type "tuple_iterator", data := .fields #[.ref t, .int 0 0] }
def enumO (i : Addr) : Obj := { cls := .type "enumerate", data := .fields #[.none, .bool false, .ref i, rawInt 0, .none, .none] }
theorem meets_enumT (t : Addr) (items : Array Value) (n : Nat) (dd : Option Addr) (sl : Array (Option Value)) :
    Meets (Builtin.«enumerate.__new__» ⟨[.type "enumerate", .ref t], []⟩) (fun _ R s => s.heap.get? t = some { cls := .type "tuple", dict := dd, data := .seq items n, slots := sl } ∧
      R (.ok (.ret (.ref (s.heap.push (tupIt t)).objs.size))) { s with heap := (s.heap.push (tupIt t)).push (enumO s.heap.objs.size) }) :=
  .of_wp fun P w A R s h => by
    obtain ⟨hh, g, d, tk, os⟩ := s
    obtain ⟨ht, h⟩ := h
    have sub := sub_enumerate
    have hT : Heap.IsTuple (Shared.heap ⟨hh, g, d, tk, os⟩) t items := ⟨_, ht, rfl, n, rfl⟩
    wp_walk using wpAny_loadPart' ht
    refine wpAny_stack_any (fun stk => wpAny_pure ?_)
    split
    · rename_i c _ _ _ _ _
      cases (c == Value.type "enumerate") <;> (wp_walk using wpAny_loadPart' ht, wpAny_pyIter_tuple hT) <;> exact ⟨_, rfl, h⟩
    · (wp_walk using wpAny_loadPart' ht, wpAny_pyIter_tuple hT)
      exact ⟨_, rfl, h⟩
theorem call_enumT {P : Program} {w : World} {A : Around} {E : Value → Shared → Prop} {s : Shared} {t : Addr} {items : Array Value} {Q : Value → Shared → Prop} (hT : s.heap.IsTuple t items)
    (h : ∀ h', IsEnum h' (s.heap.objs.size + 1) s.heap.objs.size 0 .none → h'.IsTupleIter s.heap.objs.size t 0 → (∀ b o, s.heap.get? b = some o → h'.get? b = some o) → Q (.ref (s.heap.objs.size + 1)) { s with heap := h' }) :
    wpAny (model P w) A (call (.type "enumerate") [.ref t]) Q E s := by
  obtain ⟨⟨c, dd, dt, sl⟩, ht, hc, n, hd⟩ := hT
  have e1 : c = .type "tuple" := hc
  have e2 : dt = .seq items n := hd
  subst e1 e2
  refine callType_new F.called_enumerate (by decide) (F.typeCall_enumerate_1 _) (F.newCall_enumerate_1 _) (fun ob => F.args_object_init_2 ob _) F.entry_enumerate_new (meets_enumT t items n dd sl) ⟨ht, ?_⟩
  have z : (s.heap.push (tupIt t)).objs.size = s.heap.objs.size + 1 := Heap.size_push ..
  show _ ∧ _
  rw [z]
  have he : IsEnum ((s.heap.push (tupIt t)).push (enumO s.heap.objs.size)) (s.heap.objs.size + 1) s.heap.objs.size 0 .none := by
    have q := Heap.get?_push_size (s.heap.push (tupIt t)) (o := enumO s.heap.objs.size) rfl
    rw [z] at q
    exact q
  exact ⟨⟨_, he, rfl⟩, h _ he ⟨_, Heap.get?_push_of_some _ (Heap.get?_push_size _ rfl), rfl, rfl⟩ fun b o x => Heap.get?_push_of_some _ (Heap.get?_push_of_some _ x)⟩
/-- the tuple at a, each item in a new pair -/
def IteT (K : PySem.W.Frag) (a : Addr) : It :=
  ⟨fun i H => ∃ (xs : List V) (x : V), SqT K H a xs ∧ xs[i]? = some x, fun i H v H' => ∃ T x, v = .ref T ∧ H T = none ∧ H' = upd H T (.tup [.int (i : Nat), x]) ∧ ∀ xs, SqT K H a xs → xs[i]? = some x, fun i H => ∃ xs : List V, SqT K H a xs ∧ xs.length = i⟩
theorem turn_enumT {P : Program} {w : World} {K : PySem.W.Frag} {elts : List Expr} {kk : Nat} {tpos : Pos} (a e it : Addr) :
    Turn P w K (.Tuple elts kk tpos) (IteT K a) [e, it] e (fun i h => (∃ old, IsEnum h e it ((i : Nat) : Int) old) ∧ h.IsTupleIter it a i ∧ e ≠ it) where
  mem := by simp
  obj := fun i h st b hb => by
    obtain ⟨⟨old, he⟩, ⟨o, ho, hc, hd⟩, _⟩ := st
    rcases (show b = e ∨ b = it by simpa using hb) with z | z
    · rw [z]; exact ⟨_, he, fun v q => nomatch q⟩
    · rw [z]; exact ⟨o, ho, fun v q => by rw [hd] at q; cases q⟩
  keep := fun i h h' st k => by
    obtain ⟨⟨old, he⟩, hi, hne⟩ := st
    exact ⟨⟨old, k e (by simp) _ he⟩, hi.at (fun o q => k it (by simp) o q), hne⟩
  item := by
    intro X hP hw hK hc i pins s σ H E I hf st hg
    subst hP hw hK
    obtain ⟨⟨old, he⟩, hit, hne⟩ := st
    obtain ⟨xs, x, hq, hx⟩ := hg
    obtain ⟨its, rv, p, hz⟩ := I.tuple hq
    have hh := I.ok.hd hc
    obtain ⟨u, hu, ru⟩ := rv.get hx
    have le : e < s.heap.objs.size := Heap.lt_size he
    have li : it < s.heap.objs.size := by obtain ⟨_, q, _⟩ := hit; exact Heap.lt_size q
    have ai : a ≠ it := fun z => by
      obtain ⟨o1, h1, c1, _⟩ := p
      obtain ⟨o2, h2, c2, _⟩ := hit
      rw [z, h2] at h1
      cases h1
      rw [c1] at c2
      exact absurd (Value.type.inj c2) (by decide)
    have ae : a ≠ e := fun z => by
      obtain ⟨o1, h1, c1, _⟩ := p
      rw [z] at h1
      have h2 := he.symm.trans h1
      cases h2
      exact absurd (Value.type.inj c1) (by decide)
    have lt : i < its.toArray.size := by
      have := (List.getElem?_eq_some_iff.mp hu).1
      simpa using this
    refine wpAny_pyNext_enum_itemD (Draws.tuple (prog := X.prog) (w := X.w) (A := X.A.in1) hh it a ai its.toArray) he ⟨hit, p⟩ lt hne (by simp [hne, Ne.symm ae]) fun y h' tk hy ho hst hT hsz hk => ?_
    have ey : y = u := by
      have e1 : its.toArray[i]? = some u := by simpa using hu
      rw [e1] at hy
      cases hy
      rfl
    subst ey
    refine ⟨_, rfl, wpAny_letOwnedTupleGo_enum (s := { s with heap := h', toks := tk + 1 }) ho (fun h2 he' sb => ?_)⟩
    have t2 : h2.get? s.heap.objs.size = some { cls := .type "tuple", data := .seq #[.int i tk, y] } := (sb.2 _ (Nat.ne_of_gt le)).trans hT
    have new : ObjOk X.prog X.w (upd H s.heap.objs.size (.tup [.int (i : Nat), x])) h2 s.heap.objs.size (.tup [.int (i : Nat), x]) :=
      ⟨by show 2 ≤ sizeLine; decide, [.int i tk, y], .cons ⟨_, rfl⟩ (.cons ru .nil), ⟨_, t2, rfl, _, rfl⟩⟩
    have I1 : Inv X pins σ (upd H s.heap.objs.size (.tup [.int (i : Nat), x])) { s with heap := h2, toks := tk + 1 } :=
      I.turnedNew (ch := [e, it]) (fun b ob hb q => (sb.2 b (fun z => hb (by simp [z]))).trans (hk b ob (fun z => hb (by simp [z])) (fun z => hb (by simp [z])) q)) hf (Nat.le_refl _) new
    refine ⟨.ref s.heap.objs.size, _, I1, rfl, ⟨_, x, rfl, I.hok.fresh (Nat.le_refl _), rfl, fun ys hy2 => ?_⟩, ⟨⟨y, ?_⟩, hst.1.at (fun o q => (sb.2 it (Ne.symm hne)).trans q), hne⟩, fun b hb => ?_⟩
    · obtain ⟨its2, rv2, p2, _⟩ := I.tuple hy2
      have e3 : ys = xs := I.tuple_inj hy2 hq
      rw [e3]; exact hx
    · have e1 : ((i + 1 : Nat) : Int) = (i : Int) + 1 := by omega
      rw [e1]; exact he'
    · have lb : b < s.heap.objs.size := by
        rcases (show b = e ∨ b = it by simpa using hb) with z | z
        · rw [z]; exact le
        · rw [z]; exact li
      rw [upd_ne (Nat.ne_of_lt lb)]
      exact (hf b hb).1
  done := by
    intro X hP hw hK hc i pins s σ H E I hf st hg
    subst hP hw hK
    obtain ⟨⟨old, he⟩, hit, hne⟩ := st
    obtain ⟨xs, hq, hx⟩ := hg
    obtain ⟨its, rv, p, hz⟩ := I.tuple hq
    obtain ⟨f0, f1, f2, f3, f4, f5⟩ := hf it (by simp)
    have hh := I.ok.hd hc
    have ai : a ≠ it := fun z => by
      obtain ⟨o1, h1, c1, _⟩ := p
      obtain ⟨o2, h2, c2, _⟩ := hit
      rw [z, h2] at h1
      cases h1
      rw [c1] at c2
      exact absurd (Value.type.inj c2) (by decide)
    have ei : i = its.toArray.size := by
      rw [List.size_toArray, ← rv.length]
      exact hx.symm
    subst ei
    exact wpAny_pyNext_enum_endD (Draws.tuple (prog := X.prog) (w := X.w) (A := X.A.in1) hh it a ai its.toArray) he ⟨hit, p⟩ fun h' eb => ⟨rfl, I.turned (t' := s.toks) (fun b o hb q => eb b o hb q) f0 f1 f3 f4 f5⟩
  self := fun A i s Q E st h => by
    obtain ⟨⟨_, he⟩, _⟩ := st
    exact wpAny_pyIter_enum he h
def iEnumT (K : PySem.W.Frag) (ta : TA) : TI := fun σ H R => ta σ H fun vs H1 => ∃ a xs, vs = [.ref a] ∧ SqT K H1 a xs ∧ R (IteT K a) H1
theorem pi_enumT {X : Cx} {e : Expr} {ta : TA} {p pos tpos : Pos} {elts : List Expr} {kk : Nat} (hg : Gl X "enumerate") (hm : X.mg "enumerate" = none) (ha : PA X [e] ta) (hs : starEach [e] X.env = [(false, eval e X.env)] := by rfl) :
    PI X (.Tuple elts kk tpos) (.Call (.Name "enumerate" p) [e] [] pos) (iEnumT X.K ta) := by
  refine ⟨fun pins s σ H R I h => Call_ (ld_blt I hg hm boot_enumerate (PyProof.Rows.callWith_type1 (thn (ha.run pos pins s σ H _ I h) fun us s1 ⟨vs, H1, I1, r1, q1⟩ => ?_) hs rfl))⟩
  obtain ⟨a, xs, rfl, hq, q⟩ := q1
  cases r1 with
  | cons r rr =>
    cases rr
    cases r
    obtain ⟨its, rv, p', hz⟩ := I1.tuple hq
    refine call_enumT p' fun h' he hit hk => wpAny_pyIter_enum he ?_
    have I2 : Inv X pins σ H1 { s1 with heap := h' } := I1.kept (t' := s1.toks) hk
    refine ⟨s1.heap.objs.size + 1, [s1.heap.objs.size + 1, s1.heap.objs.size], _, _, H1, rfl, I2, turn_enumT a (s1.heap.objs.size + 1) s1.heap.objs.size, ⟨⟨.none, he⟩, hit, Nat.succ_ne_self _⟩, fun b hb => ?_, q⟩
    have lb : s1.heap.objs.size ≤ b := by
      rcases (show b = s1.heap.objs.size + 1 ∨ b = s1.heap.objs.size by simpa using hb) with z | z
      · rw [z]; exact Nat.le_add_right _ _
      · rw [z]; exact Nat.le_refl _
    exact I1.fpOk lb (I1.hok.fresh lb)
end GL

namespace LW
open PySem PySem.Spec PyProof.Rows L2 GL
section
variable {P : Program} {w : World} {K : PySem.W.Frag} {mg : Str → Option Value} {base : Heap}




/-! ### enumerate of a tuple, in a comprehension -/
theorem l_lcEG {σ : L2.St} {H : Hp} {g : TG} {tt : TT} {te : TE} {ta : TA} {vs : List Nat} {Q : VK} {a : Addr} {xs : List V} (Pv : Addr → Nat → Hp → Prop) (h : VA ta σ H [.ref a]) (hx : SqT K H a xs) (h0 : ∀ D, H D = none → Pv D 0 (upd H D (.lst []))) (hl : ∀ D i H1, H D = none → Pv D i H1 → SqT K H1 a xs) (grow : ∀ D i H1 H2, Pv D i H1 → L2.Same H1 H2 → Pv D i H2)
    (hs : ∀ D (i : Nat) x T H1, H D = none → xs[i]? = some x → Pv D i H1 → H1 T = some (.tup [.int (i : Int), x]) → g (.ref T) (wipe σ vs) H1 fun σ2 H2 => wipe σ2 vs = wipe σ vs ∧ tt σ2 H2 fun b H3 => if b = true then te σ2 H3 fun y H4 => ∃ acc, H4 D = some (.lst acc) ∧ acc.length < sizeLine ∧ Pv D (i + 1) (upd H4 D (.lst (acc ++ [y]))) else Pv D (i + 1) H3)
    (hd : ∀ D H1, H D = none → Pv D xs.length H1 → Q (.ref D) H1) : tLc (iEnumT K ta) g tt te vs σ H Q := by
  refine h _ ⟨a, xs, rfl, hx, fun D hD => ⟨fun i m H1 => m = xs.length - i ∧ i ≤ xs.length ∧ Pv D i H1, ⟨_, rfl, Nat.zero_le _, h0 D hD⟩, ?_⟩⟩
  rintro i m H1 ⟨rfl, hi, p⟩
  have q1 := hl D i H1 hD p
  rcases Nat.lt_or_ge i xs.length with lt | ge
  · have e : xs[i]? = some xs[i] := List.getElem?_eq_getElem lt
    refine .inr ⟨⟨xs, xs[i], q1, e⟩, Pv D (i + 1), fun H' p' => ⟨xs.length - (i + 1), by omega, rfl, lt, p'⟩, ?_⟩
    rintro v H' ⟨T, x, rfl, hT, rfl, f⟩
    have ex : x = xs[i] := by
      have := f xs q1
      rw [e] at this
      exact (Option.some.inj this).symm
    subst ex
    exact hs D i _ T _ hD e (grow D i _ _ p (Same.new' (o := .tup [.int ((i : Nat) : Int), xs[i]]) hT)) upd_same
  · obtain rfl : i = xs.length := by omega
    exact .inl ⟨⟨xs, q1, rfl⟩, hd D H1 hD p⟩
theorem d_lcE {σ : L2.St} {H : Hp} {g : TG} {te : TE} {ta : TA} {vs : List Nat} {Q : VK} {a : Addr} {xs : List V} {R : Addr → Nat → V → Hp → Prop} (st : ∀ D k, Stays (R D k)) (of : OffL R) (h : VA ta σ H [.ref a]) (hx : SqT K H a xs) (hn : xs.length ≤ 10000)
    (hs : ∀ D (i : Nat) x T H1, xs[i]? = some x → L2.Same H H1 → (∃ ys, H1 D = some (.lst ys)) → H1 T = some (.tup [.int (i : Int), x]) → Turn1 g te vs σ (.ref T) H1 (R D i))
    (q : ∀ p ys H', L2.Same H H' → H p = none → H' p = some (.lst ys) → Rows (R p) 0 xs.length ys H' → Q (.ref p) H') : tLc (iEnumT K ta) g tYes te vs σ H Q :=
  l_lcEG (fun D i H1 => LcD R H D i H1) h hx (fun D hD => ⟨[], Same.new' hD, upd_same, hD, trivial, rfl⟩) (fun D i H1 _ p => sqt_same p.choose_spec.1 hx) (fun D i H1 H2 ⟨ys, s, e, n, r⟩ s2 => ⟨ys, s.trans s2, s2 _ _ e, n, Rows.stays (st D) ys _ _ s2 r⟩)
    (fun D i x T H1 hD e p eT => lcD_step st of p (by
      have := (List.getElem?_eq_some_iff.mp e).1
      omega) fun s eD => hs D i x T H1 e s eD eT) (fun D H1 _ ⟨ys, s, e, n, r⟩ => q D ys H1 s n e r)
def pr (x y : Int) : PyData := .tuple [.int x, .int y]

def polyD (xs : List Rat) : PyData := .tuple (xs.map fun q => pr q.num (q.den : Int))
theorem lo_dp {H : Hp} {p : Addr} {q : Rat} (h : Lo H p q) : Dp K H (.ref p) (pr q.num (q.den : Int)) := .tup (SqT.of h) (.cons (.int _) (.cons (.int _) .nil))
theorem polyD_shaped (xs : List Rat) : SeqAt.shaped (polyD xs) = true := by
  have h : ∀ xs : List Rat, PyData.canLayAll0 (xs.map fun q => pr q.num (q.den : Int)) = true ∧ PyData.depthAll (xs.map fun q => pr q.num (q.den : Int)) ≤ 2 := fun xs => by
    induction xs with
    | nil => exact ⟨rfl, by simp [PyData.depthAll]⟩
    | cons x xs ih =>
      rw [List.map_cons]
      refine ⟨?_, ?_⟩
      · simp only [PyData.canLayAll0, ih.1, Bool.and_true]
        rfl
      · have : (pr x.num (x.den : Int)).depth ≤ 2 := by simp [pr, PyData.depth, PyData.depthAll]
        simp only [PyData.depthAll]
        omega
  have h2 := (h xs).2
  refine Bool.and_eq_true_iff.mpr ⟨(h xs).1, decide_eq_true ?_⟩
  have e : (polyD xs).depth = 1 + PyData.depthAll (xs.map fun q => pr q.num (q.den : Int)) := by unfold polyD; simp [PyData.depth]; omega
  rw [e]
  omega

/-- what stands beside a plane -/
def OpdP (mg : Str → Option Value) (H : Hp) (v : V) (S : List (List Rat)) : Prop := (∃ b, v = .ref b ∧ PnAt (pnA mg) H b S) ∨ ∃ q, Bes H v q ∧ S = planeR [[q]]
/-! ### minus -/
def negL (r : List Rat) : List Rat := r.map fun q => -q
def planeNeg (R : List (List Rat)) : List (List Rat) := planeR ((List.range R.length).map fun i => negL (rowAt R i))
theorem bds_neg {D M : Nat} {r : List Rat} (h : Bds D M r) : Bds D M (negL r) := fun q hq => by
  obtain ⟨x, hx, rfl⟩ := List.mem_map.mp hq
  exact (h x hx).neg
def spNegPl (mg : Str → Option Value) : Sp := fun vs H Q _ => ∃ (a : Addr) (R : List (List Rat)) (D M d : Nat), vs = [.ref a] ∧ PnAt (pnA mg) H a R ∧ Nice D M d R ∧ Fz D M ∧ d ≤ 300 ∧ ∀ c H', L2.Same H H' → PnAt (pnA mg) H' c (planeNeg R) → Q (.ref c) H'
theorem losL_of {f : Nat → Rat} {n : Nat} {D : Addr} {H : Hp} {vs : List V} {xs : List Rat} (e : H D = some (.lst vs)) (r : Rows (fun i v H => ∃ p q, v = V.ref p ∧ xs[i]? = some q ∧ Lo H p q) 0 n vs H) (hn : n = xs.length) : LosL H D xs :=
  ⟨vs, e, All2.mk (by rw [r.2, hn]) fun i v q hv hq => by
    obtain ⟨p, q', rfl, h2, lo⟩ := r.1.get hv
    rw [Nat.zero_add, hq] at h2
    cases h2
    exact ⟨p, rfl, lo⟩⟩
/-- items that are told ratios of a row -/
def Itm (xs : List Rat) : Addr → Nat → V → Hp → Prop := fun _ i v H => ∃ p q, v = V.ref p ∧ xs[i]? = some q ∧ Lo H p q
theorem itm_st (xs : List Rat) : ∀ D k, Stays (Itm xs D k) := fun D k v H1 H2 s ⟨p, q, h1, h2, lo⟩ => ⟨p, q, h1, h2, lo.same s⟩
theorem itm_off (xs : List Rat) : OffL (Itm xs) := fun D k v H ys zs ⟨p, q, h1, h2, lo⟩ e => ⟨p, q, h1, h2, tu_lst e _ _ lo⟩
theorem itm_los {xs : List Rat} {D : Addr} {H : Hp} {vs : List V} {n : Nat} (e : H D = some (.lst vs)) (r : Rows (Itm xs D) 0 n vs H) (hn : n = xs.length) : LosL H D xs := losL_of (f := fun _ => 0) e r hn
theorem ok_Plane_neg (T : Txt K mg) (TP : PlaneT K mg) : FnOk P w K mg base CX0 10 (mA K (pnA mg) "__neg__") (fDat K (mA K (pnA mg) "__neg__")) ["self"] (spNegPl mg) := by
  have GPlane_init := ok_Plane_init (P := P) (w := w) (base := base) T TP
  refine TP.m_neg.F.ok scPlane_neg (fun vs H Q E h => ?_) (fun cdv A outer s H vs Q E hr h => ?_)
  · obtain ⟨a, R, D0, M, d0, rfl, _⟩ := h
    rfl
  obtain ⟨a, R, D0, M, d0, rfl, ⟨dx, t, e, ⟨vs, ev, al⟩, cR⟩, nR, fz, hd, q⟩ := h
  refine ⟨_, (pss_one (ps_ret (pe_make TP.mkc GPlane_init (hr.mono (by decide)) (by rfl) TP.g TP.m_init.b .nil passL (pa_cons (pe_lc (own := [("row", 3)]) (g := gName 3) (tt := tYes) (by rfl) scPlane_neg.nd (pi_tup (pe_fld (pv 0) (by rfl))) (blkOk_by (own := [("row", 3)]) (N := ["self", "top", "bottom", "row"]) (sc := defScope sPlane_neg) (by decide +kernel)) (fun _ _ _ _ _ => pg_name (i := 3) scPlane_neg.nd rfl (Or.inl rfl)) (fun _ _ _ _ _ => pts_nil) (fun _ _ _ _ _ => (pe_lc (own := [("top", 1), ("bottom", 2)]) (g := gTup K 2 (gCons (gName 1) (gCons (gName 2) gNil))) (tt := tYes) (by rfl) scPlane_neg.nd (show PI _ _ _ (iTup K (tVar 3)) from (pi_tup (pv 3))) (blkOk_in (own := [("top", 1), ("bottom", 2)]) (N := ["self", "top", "bottom", "row"]) (defScope sPlane_neg) rfl (by decide +kernel)) (fun _ _ _ _ _ => pg_tup rfl (pgs_cons (pg_name (i := 1) scPlane_neg.nd rfl (Or.inl rfl)) (pgs_cons (pg_name (i := 2) scPlane_neg.nd rfl (Or.inl rfl)) pgs_nil))) (fun _ _ _ _ _ => pts_nil) (fun _ _ _ _ _ => (pe_tup (pa_cons (pe_un un_neg (pv 1)) (pa_cons (pv 2) pa_nil))))))) pa_nil)))), ?_⟩
  have lv := al.len
  have lR := nR.lenR cR
  refine r_ret (va_1 (d_lcT (R := RwL fun i => negL (rowAt R i)) (rwl_st _) (rwl_off _) (v_rows TP (val_var rfl) e) (SqT.of ev) (by omega) (fun D i v H1 hv s1 eD => turn_name rfl fun Q q => ?_) (fun l zs H1 s1 nl e1 r1 => ?_)))
  · obtain ⟨r, hr2, p, rfl, us, eu, al2⟩ := al.get hv
    have er := rowAt_some hr2
    obtain ⟨ys, eD⟩ := eD
    have lr : r.length ≤ d0 + 1 := by rw [← er]; exact nR.len cR i
    refine d_lcT (R := Itm (negL r)) (itm_st _) (itm_off _) (val_var rfl) (SqT.of (s1 _ _ eu)) (by rw [al2.len]; omega) (fun D2 j u H2 hu s2 _ => ?_) (fun l2 ws H2 s2 n2 e2 r2 => q _ H2 s2 ⟨l2, rfl, ne_of_some eD n2, by show LosL H2 l2 (negL (rowAt R i)); rw [er]; exact itm_los e2 r2 (by rw [al2.len]; unfold negL; rw [List.length_map])⟩)
    obtain ⟨x, hx, p2, rfl, lo⟩ := al2.get hu
    exact turn_two (SqT.of ((lo.same s1).same s2)) rfl (em_tup (va_cons (v_neg (val_var rfl)) (va_cons (val_var rfl) va_nil)) (by show 2 ≤ 100000; decide) fun p3 H' e3 => ⟨p3, -x, rfl, by unfold negL; rw [List.getElem?_map, hx]; rfl, e3⟩)
  · rw [lv] at r1
    exact made_plane (rwl_rws e1 r1 (N := 1000) (fun i _ => (bds_neg (nR.row i)).sm fz) (by decide) (fun i _ => by unfold negL; rw [List.length_map]; have := nR.len cR i; omega) (by omega)) fun c H' s' pc _ => q c H' (s1.trans s') pc

/-! ### slopes -/
def mulL (c : Nat) (r : List Rat) : List Rat := r.map fun q => ((c : Nat) : Rat) * q
def planeSx (R : List (List Rat)) : List (List Rat) := planeR ((List.range (R.length - 1)).map fun i => mulL (i + 1) (rowAt R (i + 1)))
theorem co_mulL (c : Nat) (r : List Rat) (j : Nat) : co (mulL c r) j = ((c : Nat) : Rat) * co r j := by
  unfold mulL
  rcases Nat.lt_or_ge j r.length with lt | ge
  · have e : r[j]? = some r[j] := List.getElem?_eq_getElem lt
    rw [co_some e]
    exact co_some (by rw [List.getElem?_map, e]; rfl)
  · rw [co_none ge, co_none (by rw [List.length_map]; exact ge), Rat.mul_zero]
theorem cf2_planeSx (R : List (List Rat)) (i j : Nat) : cf2 (planeSx R) i j = ((i + 1 : Nat) : Rat) * cf2 R (i + 1) j := by
  unfold planeSx
  rw [cf2_planeR, cf2_grid]
  unfold cf2
  split
  · exact co_mulL _ _ j
  · rw [rowAt_none (by omega), co_none (Nat.zero_le _), Rat.mul_zero]
theorem rq_nat {H : Hp} {i : Nat} (li : i < 400) : Rq H (.int (i : Int)) ((i : Nat) : Rat) := ⟨(i : Int), 1, .int _, ⟨by rw [Int.natAbs_natCast]; exact Nat.lt_of_lt_of_le li (Nat.le_trans (m := 2 ^ 9) (by decide) (Nat.pow_le_pow_right (by decide) (by decide))), Nat.one_lt_two_pow (by decide)⟩, by
  rw [Rat.divInt_eq_div]
  show ((i : Nat) : Rat) = ((i : Int) : Rat) / ((1 : Int) : Rat)
  rw [Rat.intCast_one]
  have := Rat.mul_div_cancel (a := ((i : Int) : Rat)) (b := 1) (by decide)
  rw [Rat.mul_one] at this
  rw [this]
  rfl⟩
theorem Bd.scale {D M c k : Nat} {q : Rat} (h : Bd D M q) (l : c ≤ k) : Bd D (k * M) (((c : Nat) : Rat) * q) := by
  have := (Bd.nat (D := 1) c).mul h
  rw [Nat.one_mul] at this
  exact this.le (Nat.mul_le_mul_right _ l)
theorem bds_mulL {D M c k : Nat} {r : List Rat} (hc : c ≤ k) (h : Bds D M r) : Bds D (k * M) (mulL c r) := fun q hq => by
  obtain ⟨x, hx, rfl⟩ := List.mem_map.mp hq
  exact (h x hx).scale hc
theorem Nice.sx {D M d : Nat} {R : List (List Rat)} (h : Nice D M d R) : Nice D (d * M) (d - 1) (planeSx R) := ⟨fun i j => by
  rw [cf2_planeSx]
  rcases Nat.lt_or_ge d (i + 1 + j) with lt | ge
  · rw [h.dg _ _ lt, Rat.mul_zero]
    exact Bd.zero
  · exact (h.bd _ _).scale (by omega), fun i j l => by
  rw [cf2_planeSx, h.dg _ _ (by omega), Rat.mul_zero]⟩
theorem cut_tail (ys : List V) : cutV ys (some 1) none = ys.drop 1 := cut_from ys 1
theorem sl_gen {te t : TE} {σ : L2.St} {H : Hp} {Q : VK} {r : V → Option Int → Option Int → Hp → VK → Prop} (h : te σ H fun v H1 => t σ H1 fun x H2 => ∃ i, x = .int i ∧ r v (some i) none H2 Q) : tSl r te (tPart t) tNoPart σ H Q := h
def spSlopePl (mg : Str → Option Value) (f : List (List Rat) → List (List Rat)) : Sp := fun vs H Q _ => ∃ (a : Addr) (R : List (List Rat)) (D M d : Nat), vs = [.ref a] ∧ PnAt (pnA mg) H a R ∧ Nice D M d R ∧ Fz D M ∧ Fz D (d * M) ∧ d ≤ 300 ∧ ∀ c H', L2.Same H H' → PnAt (pnA mg) H' c (f R) → Q (.ref c) H'
theorem ok_Plane_slope_x (T : Txt K mg) (TP : PlaneT K mg) : FnOk P w K mg base CX0 10 (mA K (pnA mg) "slope_x") (fDat K (mA K (pnA mg) "slope_x")) ["self"] (spSlopePl mg planeSx) := by
  have GPlane_init := ok_Plane_init (P := P) (w := w) (base := base) T TP
  have Gtimes := ok_times (P := P) (w := w) (base := base) T
  refine TP.m_slope_x.F.ok scPlane_slope_x (fun vs H Q E h => ?_) (fun cdv A outer s H vs Q E hr h => ?_)
  · obtain ⟨a, R, D0, M, d0, rfl, _⟩ := h
    rfl
  obtain ⟨a, R, D0, M, d0, rfl, ⟨dx, t, e, ⟨vs, ev, al⟩, cR⟩, nR, fz, fz2, hd, q⟩ := h
  refine ⟨_, (pss_one (ps_ret (pe_make TP.mkc GPlane_init (hr.mono (by decide)) (by rfl) TP.g TP.m_init.b .nil passL (pa_cons (pe_slice (show SlR _ (rSlL K) from sl_list) (pe_lc (own := [("i", 2), ("row", 3)]) (g := gTup K 2 (gCons (gName 2) (gCons (gName 3) gNil))) (tt := tYes) (by rfl) scPlane_slope_x.nd (pi_enumT (by rfl) T.enumerate (pa_cons (pe_fld (pv 0) (by rfl)) pa_nil)) (blkOk_by (own := [("i", 2), ("row", 3)]) (N := ["self", "number", "i", "row"]) (sc := defScope sPlane_slope_x) (by decide +kernel)) (fun _ _ _ _ _ => pg_tup rfl (pgs_cons (pg_name (i := 2) scPlane_slope_x.nd rfl (Or.inr rfl)) (pgs_cons (pg_name (i := 3) scPlane_slope_x.nd rfl (Or.inl rfl)) pgs_nil))) (fun _ _ _ _ _ => pts_nil) (fun _ _ _ _ _ => (pe_lc (own := [("number", 1)]) (g := gName 1) (tt := tYes) (by rfl) scPlane_slope_x.nd (show PI _ _ _ (iTup K (tVar 3)) from (pi_tup (pv 3))) (blkOk_in (own := [("number", 1)]) (N := ["self", "number", "i", "row"]) (defScope sPlane_slope_x) rfl (by decide +kernel)) (fun _ _ _ _ _ => pg_name (i := 1) scPlane_slope_x.nd rfl (Or.inl rfl)) (fun _ _ _ _ _ => pts_nil) (fun _ _ _ _ _ => (pe_call Gtimes (hr.mono (by decide)) (by rfl) T.times.g T.times.F.kp T.times.b .nil passL (pa_cons (pv 2) (pa_cons (pv 1) pa_nil))))))) (po_some pe_int) po_none) pa_nil)))), ?_⟩
  have lv := al.len
  have lR := nR.lenR cR
  refine r_ret (va_1 (sl_gen (d_lcE (R := RwL fun i => mulL i (rowAt R i)) (rwl_st _) (rwl_off _) (va_cons (v_rows TP (val_var rfl) e) va_nil) (SqT.of ev) (by omega) (fun D i v U H1 hv s1 eD eU => turn_two (SqT.of eU) rfl fun Q q => ?_) (fun l zs H1 s1 nl e1 r1 => val_c _ ⟨1, rfl, l, zs, rfl, SqL.of e1, fun p hp => ?_⟩))))
  · obtain ⟨r, hr2, p, rfl, us, eu, al2⟩ := al.get hv
    have er := rowAt_some hr2
    obtain ⟨ys, eD⟩ := eD
    have lr : r.length ≤ d0 + 1 := by rw [← er]; exact nR.len cR i
    have li : i < 400 := by have := (List.getElem?_eq_some_iff.mp hr2).1; omega
    have sr : Sms 1000 r := by rw [← er]; exact (nR.row i).sm fz
    refine d_lcT (R := Itm (mulL i r)) (itm_st _) (itm_off _) (val_var rfl) (SqT.of (s1 _ _ eu)) (by rw [al2.len]; omega) (fun D2 j u H2 hu s2 _ => turn_name rfl fun Q2 q2 => ?_) (fun l2 ws H2 s2 n2 e2 r2 => q _ H2 s2 ⟨l2, rfl, ne_of_some eD n2, by show LosL H2 l2 (mulL i (rowAt R i)); rw [er]; exact itm_los e2 r2 (by rw [al2.len]; unfold mulL; rw [List.length_map])⟩)
    obtain ⟨x, hx, p2, rfl, lo⟩ := al2.get hu
    exact c_times (va_cons (val_var rfl) (va_cons (val_var rfl) va_nil)) (rq_nat li) (((lo.same s1).same s2).rq (sr x (get_mem hx)) (by decide)) fun p3 H3 s3 lo3 => q2 _ H3 s3 ⟨p3, ((i : Nat) : Rat) * x, rfl, by unfold mulL; rw [List.getElem?_map, hx]; rfl, lo3⟩
  · rw [lv] at r1
    rw [cut_tail]
    have s2 := Same.new' (o := .lst (zs.drop 1)) hp
    have hlen : (zs.drop 1).length = R.length - 1 := by rw [List.length_drop, r1.2]
    refine made_plane ⟨p, zs.drop 1, rfl, .inl upd_same, by rw [hlen]; omega, All2.mk (by rw [hlen, List.length_map, List.length_range]) fun i v x hv hx => ?_⟩ fun c H' s' pc _ => q c H' ((s1.trans s2).trans s') pc
    have hi : i < R.length - 1 := by rw [← hlen]; exact (List.getElem?_eq_some_iff.mp hv).1
    rw [List.getElem?_drop, Nat.add_comm] at hv
    obtain ⟨l3, rfl, _, lz⟩ := r1.1.get hv
    rw [Nat.zero_add] at lz
    rw [List.getElem?_map, List.getElem?_range hi] at hx
    cases hx
    exact (LosL.same lz s2).rowR ((bds_mulL (k := d0) (by omega) (nR.row (i + 1))).sm fz2) (by decide) (by unfold mulL; rw [List.length_map]; have := nR.len cR (i + 1); omega)
def mulX (r : List Rat) : List Rat := (List.range (r.length - 1)).map fun j => ((j + 1 : Nat) : Rat) * co r (j + 1)
def planeSy (R : List (List Rat)) : List (List Rat) := planeR ((List.range R.length).map fun i => mulX (rowAt R i))
theorem co_mulX (r : List Rat) (j : Nat) : co (mulX r) j = ((j + 1 : Nat) : Rat) * co r (j + 1) := by
  unfold mulX
  rw [co_range]
  split
  · rfl
  · rw [co_none (by omega), Rat.mul_zero]
theorem cf2_planeSy (R : List (List Rat)) (i j : Nat) : cf2 (planeSy R) i j = ((j + 1 : Nat) : Rat) * cf2 R i (j + 1) := by
  unfold planeSy
  rw [cf2_planeR, cf2_grid]
  unfold cf2
  split
  · exact co_mulX _ j
  · rw [rowAt_none (by omega), co_none (Nat.zero_le _), Rat.mul_zero]
theorem bds_mulX {D M k : Nat} {r : List Rat} (hc : r.length ≤ k + 1) (h : Bds D M r) : Bds D (k * M) (mulX r) := fun q hq => by
  obtain ⟨x, hx, rfl⟩ := List.mem_map.mp hq
  have := List.mem_range.mp hx
  exact (h.co _).scale (by omega)
theorem Nice.sy {D M d : Nat} {R : List (List Rat)} (h : Nice D M d R) : Nice D (d * M) (d - 1) (planeSy R) := ⟨fun i j => by
  rw [cf2_planeSy]
  rcases Nat.lt_or_ge d (i + (j + 1)) with lt | ge
  · rw [h.dg _ _ lt, Rat.mul_zero]
    exact Bd.zero
  · exact (h.bd _ _).scale (by omega), fun i j l => by
  rw [cf2_planeSy, h.dg _ _ (by omega), Rat.mul_zero]⟩
theorem ok_Plane_slope_y (T : Txt K mg) (TP : PlaneT K mg) : FnOk P w K mg base CX0 10 (mA K (pnA mg) "slope_y") (fDat K (mA K (pnA mg) "slope_y")) ["self"] (spSlopePl mg planeSy) := by
  have GPlane_init := ok_Plane_init (P := P) (w := w) (base := base) T TP
  have Gtimes := ok_times (P := P) (w := w) (base := base) T
  refine TP.m_slope_y.F.ok scPlane_slope_y (fun vs H Q E h => ?_) (fun cdv A outer s H vs Q E hr h => ?_)
  · obtain ⟨a, R, D0, M, d0, rfl, _⟩ := h
    rfl
  obtain ⟨a, R, D0, M, d0, rfl, ⟨dx, t, e, ⟨vs, ev, al⟩, cR⟩, nR, fz, fz2, hd, q⟩ := h
  refine ⟨_, (pss_one (ps_ret (pe_make TP.mkc GPlane_init (hr.mono (by decide)) (by rfl) TP.g TP.m_init.b .nil passL (pa_cons (pe_lc (own := [("row", 3)]) (g := gName 3) (tt := tYes) (by rfl) scPlane_slope_y.nd (pi_tup (pe_fld (pv 0) (by rfl))) (blkOk_by (own := [("row", 3)]) (N := ["self", "j", "number", "row"]) (sc := defScope sPlane_slope_y) (by decide +kernel)) (fun _ _ _ _ _ => pg_name (i := 3) scPlane_slope_y.nd rfl (Or.inl rfl)) (fun _ _ _ _ _ => pts_nil) (fun _ _ _ _ _ => (pe_slice (show SlR _ (rSlL K) from sl_list) (pe_lc (own := [("j", 1), ("number", 2)]) (g := gTup K 2 (gCons (gName 1) (gCons (gName 2) gNil))) (tt := tYes) (by rfl) scPlane_slope_y.nd (show PI _ _ _ (iEnumT K (tCons (tVar 3) tNil)) from pi_enumT (by rfl) T.enumerate (pa_cons (pv 3) pa_nil)) (blkOk_in (own := [("j", 1), ("number", 2)]) (N := ["self", "j", "number", "row"]) (defScope sPlane_slope_y) rfl (by decide +kernel)) (fun _ _ _ _ _ => pg_tup rfl (pgs_cons (pg_name (i := 1) scPlane_slope_y.nd rfl (Or.inl rfl)) (pgs_cons (pg_name (i := 2) scPlane_slope_y.nd rfl (Or.inl rfl)) pgs_nil))) (fun _ _ _ _ _ => pts_nil) (fun _ _ _ _ _ => (pe_call Gtimes (hr.mono (by decide)) (by rfl) T.times.g T.times.F.kp T.times.b .nil passL (pa_cons (pv 1) (pa_cons (pv 2) pa_nil))))) (po_some pe_int) po_none))) pa_nil)))), ?_⟩
  have lv := al.len
  have lR := nR.lenR cR
  refine r_ret (va_1 (d_lcT (R := RwL fun i => mulX (rowAt R i)) (rwl_st _) (rwl_off _) (v_rows TP (val_var rfl) e) (SqT.of ev) (by omega) (fun D i v H1 hv s1 eD => turn_name rfl fun Q q => ?_) (fun l zs H1 s1 nl e1 r1 => ?_)))
  · obtain ⟨r, hr2, p, rfl, us, eu, al2⟩ := al.get hv
    have er := rowAt_some hr2
    obtain ⟨ys, eD⟩ := eD
    have lr : r.length ≤ d0 + 1 := by rw [← er]; exact nR.len cR i
    have sr : Sms 1000 r := by rw [← er]; exact (nR.row i).sm fz
    have lu := al2.len
    refine sl_gen (d_lcE (R := fun _ j v H => ∃ p q, v = V.ref p ∧ r[j]? = some q ∧ Lo H p (((j : Nat) : Rat) * q)) (fun D k v H1 H2 s ⟨p, q, h1, h2, lo⟩ => ⟨p, q, h1, h2, lo.same s⟩) (fun D k v H ys zs ⟨p, q, h1, h2, lo⟩ e => ⟨p, q, h1, h2, tu_lst e _ _ lo⟩) (va_cons (val_var rfl) va_nil) (SqT.of (s1 _ _ eu)) (by omega) (fun D2 j u U H2 hu s2 _ eU => turn_two (SqT.of eU) rfl fun Q2 q2 => ?_) (fun l2 ws H2 s2 n2 e2 r2 => val_c _ ⟨1, rfl, l2, ws, rfl, SqL.of e2, fun p2 hp2 => ?_⟩))
    · obtain ⟨x, hx, p2, rfl, lo⟩ := al2.get hu
      have li : j < 400 := by have := (List.getElem?_eq_some_iff.mp hx).1; omega
      exact c_times (va_cons (val_var rfl) (va_cons (val_var rfl) va_nil)) (rq_nat li) (((lo.same s1).same s2).rq (sr x (get_mem hx)) (by decide)) fun p3 H3 s3 lo3 => q2 _ H3 s3 ⟨p3, x, rfl, hx, lo3⟩
    · rw [cut_tail]
      have s3 := Same.new' (o := .lst (ws.drop 1)) hp2
      have hlen : (ws.drop 1).length = r.length - 1 := by rw [List.length_drop, r2.2, lu]
      refine q _ _ (s2.trans s3) ⟨p2, rfl, ne_of_some (s2 _ _ eD) hp2, ws.drop 1, upd_same, All2.mk (by rw [hlen]; show _ = (mulX (rowAt R i)).length; unfold mulX; rw [List.length_map, List.length_range, er]) fun j v x hv hx => ?_⟩
      have hj : j < r.length - 1 := by rw [← hlen]; exact (List.getElem?_eq_some_iff.mp hv).1
      rw [List.getElem?_drop, Nat.add_comm] at hv
      obtain ⟨p3, y, rfl, hy, lo⟩ := r2.1.get hv
      rw [Nat.zero_add] at hy lo
      have hx2 : (mulX (rowAt R i))[j]? = some x := hx
      unfold mulX at hx2
      rw [er, List.getElem?_map, List.getElem?_range hj] at hx2
      cases hx2
      exact ⟨p3, rfl, by show Lo _ p3 (((j + 1 : Nat) : Rat) * co r (j + 1)); rw [co_some hy]; exact lo.same s3⟩
  · rw [lv] at r1
    exact made_plane (rwl_rws e1 r1 (N := 1000) (fun i _ => (bds_mulX (k := d0) (nR.len cR i) (nR.row i)).sm fz2) (by decide) (fun i _ => by unfold mulX; rw [List.length_map, List.length_range]; have := nR.len cR i; omega) (by omega)) fun c H' s' pc _ => q c H' (s1.trans s') pc

/-! ### the signs -/
theorem c_pbeside {σ : L2.St} {H : Hp} {ta : TA} {v : V} {S : List (List Rat)} {Q : VK} {E : XK} (h : VA ta σ H [v]) (o : OpdP mg H v S) (k : ∀ b H', L2.Same H H' → PnAt (pnA mg) H' b S → Q (.ref b) H') : tCall (spBesideP mg) [] E ta σ H Q := by
  refine c_call h ⟨v, rfl, ?_⟩
  rcases o with ⟨b, rfl, pb⟩ | ⟨q, bes, rfl⟩
  · exact .inl ⟨b, S, rfl, pb, k b H (Same.refl H) pb⟩
  · exact .inr ⟨q, bes, k⟩
def spBinP (mg : Str → Option Value) (B : Nat → Nat → Nat → Nat → Nat → Nat → Prop) (f : List (List Rat) → List (List Rat) → List (List Rat)) : Sp := fun vs H Q _ => ∃ (a : Addr) (v : V) (R S : List (List Rat)) (D M d E' N e : Nat), vs = [.ref a, v] ∧ PnAt (pnA mg) H a R ∧ OpdP mg H v S ∧ Nice D M d R ∧ Nice E' N e S ∧ B D M d E' N e ∧
  ∀ c H', L2.Same H H' → PnAt (pnA mg) H' c (f R S) → Q (.ref c) H'
def BRev (B : Nat → Nat → Nat → Nat → Nat → Nat → Prop) : Nat → Nat → Nat → Nat → Nat → Nat → Prop := fun D M d E' N e => B E' N e D M d
theorem ok_Plane_add (T : Txt K mg) (TP : PlaneT K mg) : FnOk P w K mg base CX0 12 (mA K (pnA mg) "__add__") (fDat K (mA K (pnA mg) "__add__")) ["self", "other"] (spBinP mg BSum fun R S => planeSum R S) := by
  have G_plane_beside := ok_plane_beside (P := P) (w := w) (base := base) T TP
  have GPlane_neg := ok_Plane_neg (P := P) (w := w) (base := base) T TP
  have G_plane_sum := ok_plane_sum (P := P) (w := w) (base := base) T TP
  have G_plane_product := ok_plane_product (P := P) (w := w) (base := base) T TP
  refine TP.m_add.F.ok scPlane_add (fun vs H Q E h => ?_) (fun cdv A outer s H vs Q E hr h => ?_)
  · obtain ⟨a, v, R, S, D0, M, d0, E0, N, e0, rfl, _⟩ := h
    rfl
  obtain ⟨a, v, R, S, D0, M, d0, E0, N, e0, rfl, pa, od, nR, nS, hB, q⟩ := h
  refine ⟨_, (pss_cons (ps_set (i := 2) scPlane_add.nd rfl (Or.inl rfl) (pe_c T._plane_beside G_plane_beside (hr.mono (by decide)) (pa_cons (pv 1) pa_nil)))
  (pss_cons (ps_if (pt_cmpR op_isN (pv 2) pe_non (nomark _)) (pss_one (ps_ret pe_never)) pss_nil)
  (pss_one (ps_ret (pe_c T._plane_sum G_plane_sum (hr.mono (by decide)) (pa_cons (pv 0) (pa_cons (pv 2) pa_nil))))))), ?_⟩
  refine q_asg (c_pbeside (va_cons (val_var rfl) va_nil) od fun b H1 s1 pb => ?_)
  refine q_unless (ans_isN (val_var rfl) rfl) ?_
  have pa1 := pa.same s1
  exact r_ret (te := tCall _ _ _ _) (c_call (va_cons (val_var rfl) (va_cons (val_var rfl) va_nil)) ⟨a, b, R, S, D0, M, d0, E0, N, e0, rfl, pa1, pb, nR, nS, hB, fun c H' s' pc => q c H' (s1.trans s') pc⟩)

theorem ok_Plane_mul (T : Txt K mg) (TP : PlaneT K mg) : FnOk P w K mg base CX0 12 (mA K (pnA mg) "__mul__") (fDat K (mA K (pnA mg) "__mul__")) ["self", "other"] (spBinP mg BMul fun R S => planeMul R S) := by
  have G_plane_beside := ok_plane_beside (P := P) (w := w) (base := base) T TP
  have GPlane_neg := ok_Plane_neg (P := P) (w := w) (base := base) T TP
  have G_plane_sum := ok_plane_sum (P := P) (w := w) (base := base) T TP
  have G_plane_product := ok_plane_product (P := P) (w := w) (base := base) T TP
  refine TP.m_mul.F.ok scPlane_mul (fun vs H Q E h => ?_) (fun cdv A outer s H vs Q E hr h => ?_)
  · obtain ⟨a, v, R, S, D0, M, d0, E0, N, e0, rfl, _⟩ := h
    rfl
  obtain ⟨a, v, R, S, D0, M, d0, E0, N, e0, rfl, pa, od, nR, nS, hB, q⟩ := h
  refine ⟨_, (pss_cons (ps_set (i := 2) scPlane_mul.nd rfl (Or.inl rfl) (pe_c T._plane_beside G_plane_beside (hr.mono (by decide)) (pa_cons (pv 1) pa_nil)))
  (pss_cons (ps_if (pt_cmpR op_isN (pv 2) pe_non (nomark _)) (pss_one (ps_ret pe_never)) pss_nil)
  (pss_one (ps_ret (pe_c T._plane_product G_plane_product (hr.mono (by decide)) (pa_cons (pv 0) (pa_cons (pv 2) pa_nil))))))), ?_⟩
  refine q_asg (c_pbeside (va_cons (val_var rfl) va_nil) od fun b H1 s1 pb => ?_)
  refine q_unless (ans_isN (val_var rfl) rfl) ?_
  have pa1 := pa.same s1
  exact r_ret (te := tCall _ _ _ _) (c_call (va_cons (val_var rfl) (va_cons (val_var rfl) va_nil)) ⟨a, b, R, S, D0, M, d0, E0, N, e0, rfl, pa1, pb, nR, nS, hB, fun c H' s' pc => q c H' (s1.trans s') pc⟩)

theorem ok_Plane_rmul (T : Txt K mg) (TP : PlaneT K mg) : FnOk P w K mg base CX0 12 (mA K (pnA mg) "__rmul__") (fDat K (mA K (pnA mg) "__rmul__")) ["self", "other"] (spBinP mg (BRev BMul) fun R S => planeMul S R) := by
  have G_plane_beside := ok_plane_beside (P := P) (w := w) (base := base) T TP
  have GPlane_neg := ok_Plane_neg (P := P) (w := w) (base := base) T TP
  have G_plane_sum := ok_plane_sum (P := P) (w := w) (base := base) T TP
  have G_plane_product := ok_plane_product (P := P) (w := w) (base := base) T TP
  refine TP.m_rmul.F.ok scPlane_rmul (fun vs H Q E h => ?_) (fun cdv A outer s H vs Q E hr h => ?_)
  · obtain ⟨a, v, R, S, D0, M, d0, E0, N, e0, rfl, _⟩ := h
    rfl
  obtain ⟨a, v, R, S, D0, M, d0, E0, N, e0, rfl, pa, od, nR, nS, hB, q⟩ := h
  refine ⟨_, (pss_cons (ps_set (i := 2) scPlane_rmul.nd rfl (Or.inl rfl) (pe_c T._plane_beside G_plane_beside (hr.mono (by decide)) (pa_cons (pv 1) pa_nil)))
  (pss_cons (ps_if (pt_cmpR op_isN (pv 2) pe_non (nomark _)) (pss_one (ps_ret pe_never)) pss_nil)
  (pss_one (ps_ret (pe_c T._plane_product G_plane_product (hr.mono (by decide)) (pa_cons (pv 2) (pa_cons (pv 0) pa_nil))))))), ?_⟩
  refine q_asg (c_pbeside (va_cons (val_var rfl) va_nil) od fun b H1 s1 pb => ?_)
  refine q_unless (ans_isN (val_var rfl) rfl) ?_
  have pa1 := pa.same s1
  exact r_ret (te := tCall _ _ _ _) (c_call (va_cons (val_var rfl) (va_cons (val_var rfl) va_nil)) ⟨b, a, S, R, E0, N, e0, D0, M, d0, rfl, pb, pa1, nS, nR, hB, fun c H' s' pc => q c H' (s1.trans s') pc⟩)

end
end LW

namespace LW
open PySem PySem.Spec PyProof.Rows L2 GL
section
variable {P : Program} {w : World} {K : PySem.W.Frag} {mg : Str → Option Value} {base : Heap}



theorem q_two {te : TE} {i j : Nat} {tz : TS} {D : Ends} {σ : L2.St} {H : Hp} (h : te σ H fun v H1 => gTup K 2 (gCons (gName i) (gCons (gName j) gNil)) v σ H1 fun σ2 H2 => tz D σ2 H2) : tSeq (tAsg te (gTup K 2 (gCons (gName i) (gCons (gName j) gNil)))) tz D σ H := h
theorem q_par {ta : TA} {tz : TS} {D : Ends} {σ : L2.St} {H : Hp} {i j : Nat} (h : ta σ H fun vs H1 => ∃ v w, vs = [v, w] ∧ tz D ((σ.set i (some v)).set j (some w)) H1) : tSeq (tPar i j ta) tz D σ H := h

def peval : List Rat → Rat → Rat
  | [], _ => 0
  | x :: r, q => x + q * peval r q

/-! ### values of rows of whole numbers -/
theorem q_forRm {g : TG} {tb tz : TS} {D : Ends} {σ : L2.St} {H : Hp} {ta : TA} {m : Int} (h : VA ta σ H [.int m]) (hm : -1000 ≤ m ∧ m ≤ 100000) (Pv : Nat → L2.St → Hp → Prop) (h0 : Pv 0 σ H)
    (hs : ∀ i σ H, i < m.toNat → Pv i σ H → g (.int (i : Int)) σ H fun σ2 H2 => tb { D with nx := Pv (i + 1), ct := Pv (i + 1), bk := tz D } σ2 H2) (hd : ∀ σ H, Pv m.toNat σ H → tz D σ H) : tSeq (tFor (iRng1 ta) g tb) tz D σ H :=
  h _ ⟨m, rfl, by omega, by omega, for_range (lo := 0) (n := m.toNat) (D := { D with nx := tz D }) Pv h0 (fun i σ H hi p => by
    rw [Int.zero_add]
    exact hs i σ H hi p) hd⟩
end
end LW

namespace LW
open PySem PySem.Spec PyProof.Rows L2 GL
section
variable {P : Program} {w : World} {K : PySem.W.Frag} {mg : Str → Option Value} {base : Heap}



/-! ### whole numbers over one bottom, row by row -/
end
end LW

namespace LW
open PySem PySem.Spec PyProof.Rows L2 GL
section
variable {P : Program} {w : World} {K : PySem.W.Frag} {mg : Str → Option Value} {base : Heap}



/-! ### values -/
def rp (x : Rat) : Nat → Rat
  | 0 => 1
  | n + 1 => rp x n * x
theorem rp_add (x : Rat) (m : Nat) : ∀ n, rp x (m + n) = rp x m * rp x n
  | 0 => by rw [Nat.add_zero, rp, Rat.mul_one]
  | n + 1 => by rw [← Nat.add_assoc, rp, rp_add x m n, rp, Rat.mul_assoc]
theorem rs_zero_succ (f : Nat → Rat) (n : Nat) : rs f (List.range (n + 1)) = f 0 + rs (fun j => f (j + 1)) (List.range n) := by
  rw [List.range_succ_eq_map]
  show f 0 + rs f ((List.range n).map Nat.succ) = _
  rw [rs_map]
theorem peval_rs (x : Rat) : ∀ (xs : List Rat) (N : Nat), xs.length ≤ N → peval xs x = rs (fun j => co xs j * rp x j) (List.range N)
  | [], N, _ => by
    rw [peval]
    exact (rs_zero fun j _ => by rw [co_none (Nat.zero_le j), Rat.zero_mul]).symm
  | a :: r, 0, h => absurd h (by show ¬ r.length + 1 ≤ 0; omega)
  | a :: r, N + 1, h => by
    have ih := peval_rs x r N (by have h2 : r.length + 1 ≤ N + 1 := h; omega)
    rw [peval, ih, rs_zero_succ, ← rs_mulL]
    have e : (fun j => co (a :: r) (j + 1) * rp x (j + 1)) = fun j => x * (co r j * rp x j) := funext fun j => by
      show co r j * (rp x j * x) = _
      grind
    rw [e]
    show a + _ = a * 1 + _
    rw [Rat.mul_one]
def ev2 (N : Nat) (f : Nat → Nat → Rat) (x y : Rat) : Rat := rs (fun p => f p.1 p.2 * (rp x p.1 * rp y p.2)) (box N N)
theorem peval_mul (c x : Rat) : ∀ xs : List Rat, peval (xs.map fun q => c * q) x = c * peval xs x
  | [] => by
    rw [List.map_nil, peval, Rat.mul_zero]
  | a :: r => by
    rw [List.map_cons, peval, peval_mul c x r, peval]
    grind
end
end LW

namespace LW
open PySem PySem.Spec PyProof.Rows L2 GL
section
variable {P : Program} {w : World} {K : PySem.W.Frag} {mg : Str → Option Value} {base : Heap}



end
end LW

/-! sorted(d), d a dict whose keys are pairs of ints: a list of the keys, in some order. -/
namespace L2
open PySem PySem.Spec PyProof.Rows
section
variable {X : Cx}
def rSortDT : List V → Hp → VK → Prop := fun xs H Q => ∃ (d : Addr) (kvs : List (List Key × V)), xs = [V.ref d] ∧ Rd H d (.dT kvs) ∧ (∀ p ∈ kvs, ∃ i j : Int, p.1 = [Sum.inl i, Sum.inl j]) ∧ ∀ (p : Addr) (bs cs : List Addr), H p = none → IsKeys H kvs cs → bs.Perm cs → Q (.ref p) (upd H p (.lst (bs.map V.ref)))
theorem cr_sortedDT (hc : X.calm = true) : CallR X (.builtin "sorted") rSortDT := by
  intro pins s σ H xs us Q I r h
  obtain ⟨d, kvs, rfl, hd, hk2, q⟩ := h
  obtain ⟨u, rfl, rx⟩ := r.one
  cases rx
  have there : ObjOk X.prog X.w H s.heap d (.dT kvs) := hd.ok I.hok
  obtain ⟨z, hs, ks, pr, o, es, ep, ho, hx, hdt, he, _⟩ := there
  have len := Paired.length pr
  have kk := isKeys_of pr
  refine Calls.call_function_entry PyProof.Rows.kind_sorted PyProof.Rows.plain_sorted PyProof.Rows.entry_sorted (PyProof.Rows.args_sorted1 _) ?_
  unfold Builtin.«sorted»
  refine wpAny_bind (m := checkCount "sorted" 1 1 _) (wpAny_pure ?_)
  refine wpAny_bind (PySem.W.kdu_collect (A := X.A.in1) (kdl_raw hs hx hdt) (I.ok.hd hc) ho (by rw [size_of_entries he]; omega) fun h' tk acc' kp it => ?_)
  have eb : acc'.toList = (ks.map fun x => x.2.1).map Value.ref := List.ext_getElem? fun j => by
    have same : acc'.toList.length = ks.length := by rw [Array.length_toList, it.1, size_of_entries he]
    rcases Nat.lt_or_ge j ks.length with lt | ge
    · have la : j < acc'.toList.length := by omega
      have got : acc'[j]? = some acc'.toList[j] := by rw [← Array.getElem?_toList, List.getElem?_eq_getElem la]
      obtain ⟨en, there, is⟩ := it.2 j _ got
      have here := entry_at he j
      rw [there, List.getElem?_eq_getElem lt] at here
      rw [List.getElem?_eq_getElem la, is, Option.some.inj here, List.getElem?_map, List.getElem?_map, List.getElem?_eq_getElem lt]
      rfl
    · rw [List.getElem?_eq_none (by omega), List.getElem?_eq_none (by rw [List.length_map, List.length_map]; exact ge)]
  have I1 : Inv X pins σ H { s with heap := h', toks := tk } := I.kept kp
  have ll : acc'.toList.length ≤ sizeLine := by rw [eb, List.length_map, List.length_map]; omega
  refine wpAny_bind (wpAny_newList ?_ ll)
  have hoL : (h'.push (seqObj "list" acc'.toList.toArray 0)).get? h'.objs.size = some (seqObj "list" acc'.toList.toArray 0) := Heap.get?_push_size _ rfl
  show wpAny _ _ _ _ _ { s with heap := h'.push (seqObj "list" acc'.toList.toArray 0), toks := tk }
  have key : ∀ {kvs : List (List Key × V)} {cs : List Addr}, IsKeys H kvs cs → (∀ p ∈ kvs, ∃ i j : Int, p.1 = [Sum.inl i, Sum.inl j]) → ∀ b ∈ cs, ∃ i j : Int, H b = some (.tup [.int i, .int j]) := fun {kvs cs} ik hp => by
    unfold IsKeys at ik
    induction ik with
    | nil => exact fun b hb => nomatch hb
    | @cons p b ps bs h t ih =>
      intro c hc
      rcases List.mem_cons.mp hc with rfl | hc
      · obtain ⟨i, j, e⟩ := hp p (List.mem_cons_self ..)
        rw [e] at h
        exact ⟨i, j, h⟩
      · exact ih (fun p hm => hp p (List.mem_cons_of_mem _ hm)) c hc
  have pairs : ∀ v ∈ acc'.toList, ∃ x y, Srt.IsPair (h'.push (seqObj "list" acc'.toList.toArray 0)) v x y := fun v hv => by
    rw [eb] at hv
    obtain ⟨b, hb, rfl⟩ := List.mem_map.mp hv
    obtain ⟨i, j, e⟩ := key kk hk2 b hb
    obtain ⟨_, its2, r2, o, ho, hc, n, hd⟩ := I1.hok _ _ e
    obtain ⟨u1, u2, rfl, ri, rj⟩ := vals2 r2
    obtain ⟨t1, rfl⟩ := ri
    obtain ⟨t2, rfl⟩ := rj
    exact ⟨i, j, b, o, t1, t2, n, rfl, Heap.get?_push_of_some _ ho, hc, hd⟩
  refine wpAny_bind (wpAny_holding (wpAny_call_entry slot_list_sort ⟨_, hoL, rfl⟩ entry_list_sort (Srt.list_sort_any (s := { s with heap := h'.push (seqObj "list" acc'.toList.toArray 0), toks := tk }) hoL ll (fun h2 => Srt.pairs_sortable (by omega) pairs fun o e => ?_) fun out hp => ⟨_, rfl, ?_⟩) (args_list_sort _)))
  · have e' : some o = some (seqObj "list" acc'.toList.toArray 0) := e.symm.trans hoL
    cases e'
    intro c
    exact absurd (Value.type.inj c) (by decide)
  · let f : Value → Addr := fun v => match v with
      | .ref a => a
      | _ => 0
    have ff : ∀ cs : List Addr, (cs.map Value.ref).map f = cs := fun cs => by
      induction cs with
      | nil => rfl
      | cons c r ih => rw [List.map_cons, List.map_cons, ih]
    have hp2 : (out.map f).Perm (ks.map fun x => x.2.1) := by
      have := hp.map f
      rwa [eb, ff] at this
    have refs : ∀ u ∈ out, ∃ a, u = Value.ref a := fun u hu => by
      have := hp.mem_iff.mp hu
      rw [eb] at this
      obtain ⟨b, _, rfl⟩ := List.mem_map.mp this
      exact ⟨b, rfl⟩
    have eo : ∀ {us : List Value}, (∀ u ∈ us, ∃ a, u = Value.ref a) → us = (us.map f).map Value.ref := fun {us} h => by
      induction us with
      | nil => rfl
      | cons u r ih =>
        obtain ⟨a, rfl⟩ := h u (List.mem_cons_self ..)
        rw [List.map_cons, List.map_cons, ← ih fun x hx => h x (List.mem_cons_of_mem _ hx)]
    have rv : Vals ((out.map f).map V.ref) out := by
      have e := eo refs
      exact Eq.mp (by rw [← e]) (vals_refs (out.map f))
    obtain ⟨e', he'⟩ := PyProof.Rows.sortedHeap_at (vs := acc'.toList) (out := out.toArray) hoL
    have hlen : ((out.map f).map V.ref).length ≤ sizeLine := by
      rw [List.length_map, List.length_map, hp.length_eq]
      exact ll
    refine wpAny_pure ⟨_, rfl, .ref h'.objs.size, upd H h'.objs.size (.lst ((out.map f).map V.ref)), I1.laid (t' := tk) (fun b u e => ?_) (Nat.le_refl _)
      (show ObjOk X.prog X.w _ _ _ (.lst ((out.map f).map V.ref)) from ⟨hlen, out, e', rv, he'⟩), rfl, q _ _ _ (I1.hok.fresh (Nat.le_refl _)) kk hp2⟩
    have before := Heap.lt_size e
    have old := PyProof.Rows.sortedHeap_old (h := h'.push (seqObj "list" acc'.toList.toArray 0)) (vs := acc'.toList) (out := out.toArray) (Nat.ne_of_lt before) (by rw [size_push']; exact Nat.le_succ_of_le before)
    exact old.trans (Heap.get?_push_of_some _ e)
end
end L2

/-! dicts that hold polynomials of two letters -/
namespace LW
open PySem PySem.Spec PyProof.Rows L2 GL
section
variable {P : Program} {w : World} {K : PySem.W.Frag} {mg : Str → Option Value} {base : Heap}
/-- tuples stay -/
def Tu (H H' : Hp) : Prop := ∀ b xs, H b = some (.tup xs) → H' b = some (.tup xs)
theorem Tu.trans {H H1 H2 : Hp} (a : Tu H H1) (b : Tu H1 H2) : Tu H H2 := fun c xs e => b c xs (a c xs e)
theorem Tu.of {H H' : Hp} (s : L2.Same H H') : Tu H H' := fun b xs e => s _ _ e
theorem Tu.putT {H : Hp} {d : Addr} {kvs kvs' : List (List Key × V)} (e : H d = some (.dT kvs)) : Tu H (upd H d (.dT kvs')) := fun b xs eb => by
  rw [upd_ne (ne_of eb e (by intro z; cases z))]; exact eb
theorem Lo.tu {H H' : Hp} {t : Addr} {q : Rat} (h : Lo H t q) (s : Tu H H') : Lo H' t q := s _ _ h
abbrev kN (k : Nat × Nat) : List Key := kP (k.1 : Int) (k.2 : Int)
theorem kN_inj {k l : Nat × Nat} (e : kN k = kN l) : k = l := by
  have e1 := List.cons.inj e
  have e2 := List.cons.inj e1.2
  exact Prod.ext (Int.ofNat.inj (Sum.inl.inj e1.1)) (Int.ofNat.inj (Sum.inl.inj e2.1))
def EnOk (H : Hp) (kv : List Key × V) (e : En) : Prop := kv.1 = kN e.1 ∧ ∃ t, kv.2 = .ref t ∧ Lo H t e.2
def DE (H : Hp) (kvs : List (List Key × V)) (L : List En) : Prop := All2 (EnOk H) kvs L ∧ (L.map (·.1)).Nodup
/-- d holds the polynomial L, to be read -/
def DP (H : Hp) (d : Addr) (L : List En) : Prop := ∃ kvs, Rd H d (.dT kvs) ∧ DE H kvs L
/-- .. to be written -/
def DW (H : Hp) (d : Addr) (L : List En) : Prop := ∃ kvs, H d = some (.dT kvs) ∧ DE H kvs L
theorem DW.dp {H : Hp} {d : Addr} {L : List En} (h : DW H d L) : DP H d L := h.imp fun _ z => ⟨.inl z.1, z.2⟩
theorem DE.tu {H H' : Hp} {kvs : List (List Key × V)} {L : List En} (h : DE H kvs L) (s : Tu H H') : DE H' kvs L := ⟨h.1.imp fun _ _ ⟨a, t, b, lo⟩ => ⟨a, t, b, lo.tu s⟩, h.2⟩
theorem Rd.same {H H' : Hp} {d : Addr} {u : HO} (h : Rd H d u) (s : L2.Same H H') : Rd H' d u := h.elim (fun z => .inl (s _ _ z)) fun ⟨o, z⟩ => .inr ⟨o, s _ _ z⟩
theorem DP.same {H H' : Hp} {d : Addr} {L : List En} (h : DP H d L) (s : L2.Same H H') : DP H' d L := h.imp fun _ z => ⟨Rd.same z.1 s, z.2.tu (Tu.of s)⟩
theorem DW.same {H H' : Hp} {d : Addr} {L : List En} (h : DW H d L) (s : L2.Same H H') : DW H' d L := h.imp fun _ z => ⟨s _ _ z.1, z.2.tu (Tu.of s)⟩
theorem DE.val {H : Hp} {kvs : List (List Key × V)} {L : List En} (h : All2 (EnOk H) kvs L) (k : Nat × Nat) : (valV kvs (kN k) = none ∧ k ∉ L.map (·.1)) ∨ ∃ t q, valV kvs (kN k) = some (.ref t) ∧ Lo H t q ∧ (k, q) ∈ L := by
  induction h with
  | nil => exact .inl ⟨rfl, by simp⟩
  | @cons kv e as bs r _ ih =>
    obtain ⟨e1, t, e2, lo⟩ := r
    by_cases z : e.1 = k
    · exact .inr ⟨t, e.2, by rw [valV_pos (by rw [e1, z]), e2], lo, by rw [← z]; exact List.mem_cons_self ..⟩
    · have n : ¬ kv.1 = kN k := fun y => z (kN_inj (e1.symm.trans y))
      rw [valV_neg n]
      rcases ih with ⟨a, b⟩ | ⟨t, q, a, b, c⟩
      · exact .inl ⟨a, fun y => by
          rw [List.map_cons] at y
          exact (List.mem_cons.mp y).elim (fun w => z w.symm) b⟩
      · exact .inr ⟨t, q, a, b, List.mem_cons_of_mem _ c⟩
theorem All2.app {α β : Type} {R : α → β → Prop} {as as' : List α} {bs bs' : List β} (h : All2 R as bs) (g : All2 R as' bs') : All2 R (as ++ as') (bs ++ bs') := by
  induction h with
  | nil => exact g
  | cons r _ ih => exact .cons r ih
theorem all2_putany {H : Hp} {kvs : List (List Key × V)} {L : List En} (h : All2 (EnOk H) kvs L) (k : Nat × Nat) : (kvs.any fun kv => decide (kv.1 = kN k)) = L.any (fun e => decide (e.1 = k)) := by
  induction h with
  | nil => rfl
  | @cons kv e as bs r _ ih =>
    rw [List.any_cons, List.any_cons, ih]
    have : decide (kv.1 = kN k) = decide (e.1 = k) := decide_eq_decide.mpr ⟨fun y => kN_inj (r.1.symm.trans y), fun y => by rw [r.1, y]⟩
    rw [this]
theorem all2_putmap {H : Hp} {kvs : List (List Key × V)} {L : List En} (h : All2 (EnOk H) kvs L) {k : Nat × Nat} {t : Addr} {q : Rat} (lo : Lo H t q) :
    All2 (EnOk H) (kvs.map fun kv => if kv.1 = kN k then (kv.1, .ref t) else kv) (L.map fun e => if e.1 = k then (e.1, q) else e) := by
  induction h with
  | nil => exact .nil
  | @cons kv e as bs r _ ih =>
    rw [List.map_cons, List.map_cons]
    refine .cons ?_ ih
    by_cases z : e.1 = k
    · rw [if_pos z, if_pos (by rw [r.1, z])]
      exact ⟨r.1, t, rfl, lo⟩
    · rw [if_neg z, if_neg (fun y => z (kN_inj (r.1.symm.trans y)))]
      exact r
theorem DE.put {H : Hp} {kvs : List (List Key × V)} {L : List En} (h : DE H kvs L) {k : Nat × Nat} {t : Addr} {q : Rat} (lo : Lo H t q) : DE H (putK kvs (kN k) (.ref t)) (putE L k q) := by
  refine ⟨?_, nodup_put h.2⟩
  unfold putK putE
  rw [all2_putany h.1 k]
  split
  · exact all2_putmap h.1 lo
  · exact h.1.app (.cons ⟨rfl, t, rfl, lo⟩ .nil)
theorem DE.len {H : Hp} {kvs : List (List Key × V)} {L : List En} (h : DE H kvs L) : kvs.length = L.length := h.1.len
theorem perm_all2 {α β : Type} {R : α → β → Prop} {as bs : List α} (p : as.Perm bs) : ∀ {L : List β}, All2 R bs L → ∃ M, M.Perm L ∧ All2 R as M := by
  induction p with
  | nil => intro L h; exact ⟨L, .refl _, h⟩
  | cons a _ ih =>
    intro L h
    cases h with
    | cons r t =>
      obtain ⟨M, pm, am⟩ := ih t
      exact ⟨_ :: M, pm.cons _, .cons r am⟩
  | swap a b l =>
    intro L h
    cases h with
    | cons r t =>
      cases t with
      | cons r2 t => exact ⟨_, .swap _ _ _, .cons r2 (.cons r t)⟩
  | trans _ _ ih1 ih2 =>
    intro L h
    obtain ⟨M, pm, am⟩ := ih2 h
    obtain ⟨N, pn, an⟩ := ih1 am
    exact ⟨N, pn.trans pm, an⟩
theorem DE.keysAt {H : Hp} {kvs : List (List Key × V)} {L : List En} (h : All2 (EnOk H) kvs L) : ∀ {cs : List Addr}, IsKeys H kvs cs → All2 (fun b (e : En) => H b = some (.tup [.int (e.1.1 : Int), .int (e.1.2 : Int)])) cs L := by
  induction h with
  | nil => intro cs ik; cases ik; exact .nil
  | @cons kv e as bs r _ ih =>
    intro cs ik
    cases ik with
    | cons h1 t1 =>
      rw [r.1] at h1
      exact .cons h1 (ih t1)
theorem DE.pairs {H : Hp} {kvs : List (List Key × V)} {L : List En} (h : All2 (EnOk H) kvs L) : ∀ p ∈ kvs, ∃ i j : Int, p.1 = [Sum.inl i, Sum.inl j] := by
  induction h with
  | nil => exact fun p hp => nomatch hp
  | @cons kv e as bs r _ ih =>
    intro p hp
    rcases List.mem_cons.mp hp with rfl | hp
    · exact ⟨_, _, r.1⟩
    · exact ih p hp
theorem v_dgetT {td ty : TE} {σ : L2.St} {H : Hp} {d b : Addr} {kvs : List (List Key × V)} {k : List Key} {v : V} (h1 : Val td σ H (.ref d)) (h2 : Val ty σ H (.ref b)) (hd : Rd H d (.dT kvs)) (hb : H b = some (.tup (k.map kV))) (e : valV kvs k = some v) :
    Val (tDGet td ty) σ H v := fun Q q => h1 _ (h2 _ ⟨d, v, rfl, .inr ⟨kvs, k, b, hd, rfl, hb, e.symm⟩, q⟩)
end
end LW

/-! the law's own polynomials of two letters -/
namespace LW
open PySem PySem.Spec PyProof.Rows L2 GL
section
variable {P : Program} {w : World} {K : PySem.W.Frag} {mg : Str → Option Value} {base : Heap}

def spVPlain : Sp := fun vs H Q _ => ∃ (d : Addr) (L : List En), vs = [.ref d] ∧ DP H d L ∧ L.length ≤ 900 ∧ ∀ (p : Addr) (H' : Hp) (M : List En), L2.Same H H' → H p = none → DW H' p M → (∀ i j, cf M i j = cf L i j) → (∀ e ∈ M, e ∈ L ∧ e.2 ≠ 0) → M.length ≤ L.length → Q (.ref p) H'
theorem ok_law_v_plain (T : Txt K mg) : FnOk P w K mg base CX0 1 (fA mg "_law_v_plain") (fDat K (fA mg "_law_v_plain")) ["_law_plane"] spVPlain := by
  refine T._law_v_plain.F.ok sc_law_v_plain (fun vs H Q E h => ?_) (fun cdv A outer s H vs Q E hr h => ?_)
  · obtain ⟨d, L, rfl, _⟩ := h
    rfl
  obtain ⟨d, L, rfl, ⟨kvs, rd, de⟩, hl, k⟩ := h
  refine ⟨_, (pss_cons (ps_set (i := 1) sc_law_v_plain.nd rfl (Or.inl rfl) pe_dnewT)
  (pss_cons (ps_for PassesOwn.never rfl (pi_list (pe_callB (cr_sortedDT rfl) (by rfl) T.sorted (by decide +kernel) (pa_cons (pv 0) pa_nil))) (pg_name (i := 2) sc_law_v_plain.nd rfl (Or.inl rfl))
  (pss_one (ps_if (pt_cmpR op_ne (pe_ix ix_tup (pe_dget (hu_of hr) (pv 0) (pv 2) (fun _ _ => rfl)) pe_int (fun _ _ => rfl)) pe_int (nomark _)) (pss_one (ps_dput (hu_of hr) (pv 1) (pv 2) (pe_dget (hu_of hr) (pv 0) (pv 2) (fun _ _ => rfl)) rfl)) pss_nil)))
  (pss_one (ps_ret (pv 1))))), ?_⟩
  refine q_asg fun f hf => ?_
  have sf := Same.new' (o := .dT []) hf
  have rd1 := Rd.same rd sf
  have de1 := de.tu (Tu.of sf)
  show tFor (iList K (tCB rSortDT (tCons (tVar 0) tNil))) (gName 2) _ _ _ _
  refine (val_var rfl) _ ⟨d, kvs, rfl, rd1, DE.pairs de.1, fun l bs cs hlN ik pm => ?_⟩
  obtain ⟨Lp, pL, all⟩ := perm_all2 pm (DE.keysAt de1.1 ik)
  have sl := Same.new' (o := .lst (bs.map V.ref)) hlN
  have S0 := sf.trans sl
  have nf : f ≠ l := ne_of_none upd_same hlN
  have ndp : (Lp.map (·.1)).Nodup := (pL.map (·.1)).nodup_iff.mpr de.2
  have lp : Lp.length = L.length := pL.length_eq
  have lb : bs.length = L.length := by rw [all.len, lp]
  refine ⟨l, rfl, ⟨_, SqL.of upd_same⟩, for_list (K := K) (a := l) (xs := bs.map V.ref) (fun m σ H' => ∃ (c : Option V) (F : List En), σ = [some (.ref d), some (.ref f), c] ∧ L2.Same H H' ∧ H' l = some (.lst (bs.map V.ref)) ∧ (∀ b ∈ bs, ∀ o, (upd (upd H f (.dT [])) l (.lst (bs.map V.ref))) b = some o → b ≠ f → H' b = some o) ∧ DW H' f F ∧ (∀ i j, cf F i j = cf (Lp.take m) i j) ∧ (∀ e ∈ F, e ∈ L ∧ e.2 ≠ 0) ∧ F.length ≤ m)
    ⟨none, [], rfl, S0, upd_same, fun b _ o e _ => e, ⟨[], by rw [upd_ne nf, upd_same], .nil, by simp⟩, fun i j => rfl, (fun e he => nomatch he), Nat.le_refl _⟩ (fun i σ H' _ ⟨_, _, _, _, e, _⟩ => SqL.of e) ?_ ?_⟩
  · rintro m x σ H' hm ⟨c, F, rfl, sH, eL, keysT, ⟨fk, ef, df⟩, hcf, hmem, hln⟩
    obtain ⟨b, hb, rfl⟩ : ∃ b, bs[m]? = some b ∧ x = .ref b := by
      rw [List.getElem?_map] at hm
      cases e : bs[m]? with
      | none => rw [e] at hm; cases hm
      | some z => rw [e] at hm; exact ⟨z, rfl, (Option.some.inj hm).symm⟩
    obtain ⟨e, he, eb⟩ := all.get hb
    have mlt : m < L.length := by
      have := (List.getElem?_eq_some_iff.mp hb).1
      omega
    have eb' : H' b = some (.tup ((kN e.1).map kV)) := by
      have e0 : (upd (upd H f (.dT [])) l (.lst (bs.map V.ref))) b = some (.tup ((kN e.1).map kV)) := sl _ _ eb
      refine keysT b (List.mem_of_getElem? hb) _ e0 (fun z => ?_)
      rw [z, upd_same] at eb
      cases eb
    have rdH := Rd.same rd sH
    have deH := de.tu (Tu.of sH)
    have eL' : e ∈ L := pL.mem_iff.mp (List.mem_of_getElem? he)
    obtain ⟨t, q, ev, lo, hq⟩ : ∃ t q, valV kvs (kN e.1) = some (.ref t) ∧ Lo H' t q ∧ (e.1, q) ∈ L := by
      rcases DE.val deH.1 e.1 with ⟨_, n⟩ | z
      · exact (n (List.mem_map.mpr ⟨e, eL', rfl⟩)).elim
      · exact z
    have eq : q = e.2 := by
      have a1 := cf_in hq de.2
      have a2 := cf_in (k := e.1) (q := e.2) eL' de.2
      exact a1.symm.trans a2
    subst eq
    have tk : ∀ i j, cf (Lp.take (m + 1)) i j = cf (Lp.take m) i j + (if e.1 = (i, j) then e.2 else 0) := fun i j => by
      rw [List.take_succ, he, cf_app]
      show _ + cf [e] i j = _
      rw [show e = (e.1, e.2) from rfl, cf_one]
    have fresh : cf (Lp.take m) e.1.1 e.1.2 = 0 := cf_out fun z => by
      have nd2 : ((Lp.take m ++ Lp.drop m).map (·.1)).Nodup := by rw [List.take_append_drop]; exact ndp
      rw [List.map_append, List.nodup_append] at nd2
      have h2 : e ∈ Lp.drop m := by
        have hh : (Lp.drop m)[0]? = some e := by rw [List.getElem?_drop]; exact he
        exact List.mem_of_getElem? hh
      exact nd2.2.2 _ z _ (List.mem_map.mpr ⟨e, h2, rfl⟩) rfl
    refine g_name ?_
    have get : ∀ {σ : L2.St}, σ[0]? = some (some (V.ref d)) → σ[2]? = some (some (V.ref b)) → Val (tDGet (tVar 0) (tVar 2)) σ H' (.ref t) := fun h1 h2 => v_dgetT (val_var h1) (val_var h2) rdH eb' ev
    refine t_op ((v_ixT (n := 0) (get rfl rfl) val_c (SqT.of lo) rfl) _ (val_c _ ⟨rfl, _, rfl, ?_⟩))
    by_cases z0 : e.2.num = 0
    · rw [if_neg (by rw [decide_eq_true (by rw [z0])]; decide)]
      refine ⟨_, F, rfl, sH, eL, keysT, ⟨fk, ef, df⟩, fun i j => ?_, hmem, by omega⟩
      rw [hcf, tk, Rat.num_eq_zero.mp z0]
      split <;> grind
    · rw [if_pos (by rw [decide_eq_false (fun e => z0 (V.int.inj e))]; rfl)]
      refine (get rfl rfl) _ ((val_var rfl) _ ((val_var rfl) _ ⟨f, _, rfl, DPut.t ef eb' (Nat.lt_of_le_of_lt (show fk.length ≤ 1000 by have := df.len; omega) (by decide)), ?_⟩))
      have tu : Tu H' (upd H' f (.dT (putK fk (kN e.1) (.ref t)))) := Tu.putT ef
      refine ⟨_, putE F e.1 e.2, rfl, fun b o eb => ?_, ?_, fun b hb o eo nb => ?_, ⟨_, upd_same, (df.put lo).tu tu⟩, fun i j => ?_, fun e' he' => ?_, Nat.le_trans len_put (by omega)⟩
      · rw [upd_ne (ne_of_none eb hf)]
        exact sH _ _ eb
      · rw [upd_ne (Ne.symm nf)]
        exact eL
      · rw [upd_ne nb]
        exact keysT b hb o eo nb
      · rw [cf_put df.2, hcf, tk]
        split
        · rename_i z
          have := congrArg Prod.fst z
          have h1 : i = e.1.1 := by rw [z]
          have h2 : j = e.1.2 := by rw [z]
          rw [h1, h2, fresh]; grind
        · grind
      · rcases mem_put he' with rfl | h
        · exact ⟨eL', fun z => z0 (by rw [show e.2 = 0 from z]; rfl)⟩
        · exact hmem _ h
  · rintro σ H' ⟨c, F, rfl, sH, eL, keysT, dw, hcf, hmem, hln⟩
    have h3 := hln
    rw [List.length_map, lb] at h3
    refine r_ret ((val_var rfl) _ (k f H' F sH hf dw (fun i j => ?_) hmem h3))
    rw [hcf, List.length_map, List.take_of_length_le (by omega)]
    exact rs_perm pL

/-! ### keys of a box have hashes of their own -/
def bxN : Nat := 16
def boxP : List (Nat × Nat) := (List.range bxN).flatMap fun i => (List.range bxN).map fun j => (i, j)
def boxH : List Int := boxP.map fun p => pairH (p.1 : Int) (p.2 : Int)
theorem boxH_nodup : boxH.Nodup := by decide +kernel
theorem map_inj {α β : Type} {f : α → β} : ∀ {l : List α}, (l.map f).Nodup → ∀ {a b : α}, a ∈ l → b ∈ l → f a = f b → a = b
  | [], _, _, _, h, _, _ => nomatch h
  | x :: l, nd, a, b, ha, hb, e => by
    rw [List.map_cons, List.nodup_cons] at nd
    rcases List.mem_cons.mp ha with h1 | h1
    · rcases List.mem_cons.mp hb with h2 | h2
      · rw [h1, h2]
      · exact (nd.1 (List.mem_map.mpr ⟨b, h2, by rw [← e, h1]⟩)).elim
    · rcases List.mem_cons.mp hb with h2 | h2
      · exact (nd.1 (List.mem_map.mpr ⟨a, h1, by rw [e, h2]⟩)).elim
      · exact map_inj nd.2 h1 h2 e
def Bx (N : Nat) (L : List En) : Prop := ∀ e ∈ L, e.1.1 < N ∧ e.1.2 < N
theorem pairH_inj {p q : Nat × Nat} (hp : p.1 < bxN ∧ p.2 < bxN) (hq : q.1 < bxN ∧ q.2 < bxN) (e : pairH (p.1 : Int) (p.2 : Int) = pairH (q.1 : Int) (q.2 : Int)) : p = q := by
  have nd := boxH_nodup
  unfold boxH at nd
  have mem : ∀ {p : Nat × Nat}, p.1 < bxN ∧ p.2 < bxN → p ∈ boxP := fun {p} h =>
    List.mem_flatMap.mpr ⟨p.1, List.mem_range.mpr h.1, List.mem_map.mpr ⟨p.2, List.mem_range.mpr h.2, rfl⟩⟩
  exact map_inj nd (mem hp) (mem hq) e
theorem apart : ∀ {L : List En}, Bx bxN L → (L.map (·.1)).Nodup → (L.map fun e => pairH (e.1.1 : Int) (e.1.2 : Int)).Nodup
  | [], _, _ => by simp
  | e :: L, b, nd => by
    rw [List.map_cons, List.nodup_cons] at nd ⊢
    refine ⟨fun h => ?_, apart (fun a ha => b a (List.mem_cons_of_mem _ ha)) nd.2⟩
    obtain ⟨a, ha, z⟩ := List.mem_map.mp h
    exact nd.1 (List.mem_map.mpr ⟨a, ha, pairH_inj (b a (List.mem_cons_of_mem _ ha)) (b e (List.mem_cons_self ..)) z⟩)
theorem DE.kvs {H : Hp} {kvs : List (List Key × V)} {L : List En} (h : All2 (EnOk H) kvs L) : kvs.map (·.1) = (L.map fun e => ((e.1.1 : Int), (e.1.2 : Int))).map fun p => kP p.1 p.2 := by
  induction h with
  | nil => rfl
  | cons r _ ih => rw [List.map_cons, List.map_cons, List.map_cons, ih, r.1]
/-! ### while a dict is walked -/
structure Wk (H0 HL : Hp) (d f : Addr) (kvs : List (List Key × V)) (H' : Hp) : Prop where
  off : ∀ b, b ≠ d → HL b = H0 b
  rd : Rd HL d (.dT kvs)
  but : But f HL H'
  ne : d ≠ f
theorem Wk.at {H0 HL H' : Hp} {d f : Addr} {kvs : List (List Key × V)} (w : Wk H0 HL d f kvs H') : H' d = HL d := by
  rcases w.rd with e | ⟨o, e⟩
  · rw [e]; exact w.but _ _ e w.ne
  · rw [e]; exact w.but _ _ e w.ne
theorem Wk.rdH {H0 HL H' : Hp} {d f : Addr} {kvs : List (List Key × V)} (w : Wk H0 HL d f kvs H') : Rd H' d (.dT kvs) := by
  have := w.rd
  unfold Rd at this ⊢
  rw [w.at]
  exact this
theorem Wk.step {H0 HL H' H2 : Hp} {d f : Addr} {kvs : List (List Key × V)} (w : Wk H0 HL d f kvs H') (b : But f H' H2) : Wk H0 HL d f kvs H2 := ⟨w.off, w.rd, w.but.trans b, w.ne⟩
theorem Wk.fin {H0 HL H' H2 : Hp} {d f : Addr} {kvs : List (List Key × V)} (w : Wk H0 HL d f kvs H') (h : ∀ b, b ≠ d → H2 b = H' b) (hd : H2 d = H0 d) : But f H0 H2 ∧ Tu H' H2 ∧ H2 f = H' f := by
  refine ⟨fun b o e nb => ?_, fun b xs e => ?_, h f (Ne.symm w.ne)⟩
  · by_cases z : b = d
    · rw [z, hd, ← z]; exact e
    · rw [h b z]
      exact w.but b o (by rw [w.off b z]; exact e) nb
  · by_cases z : b = d
    · rw [z, w.at] at e
      rcases w.rd with y | ⟨o, y⟩ <;> rw [y] at e <;> cases e
    · rw [h b z]; exact e
theorem Wk.tu {H0 HL H' : Hp} {d f : Addr} {kvs fk : List (List Key × V)} (w : Wk H0 HL d f kvs H') (n : H0 f = some (.dT fk)) (r : Rd H0 d (.dT kvs)) : Tu H0 H' := fun b xs e => by
  by_cases z : b = d
  · rw [z] at e
    rcases r with y | ⟨o, y⟩ <;> rw [y] at e <;> cases e
  · exact w.but b _ (by rw [w.off b z]; exact e) (fun y => by rw [y, n] at e; cases e)
def SmC (n : Nat) (L : List En) : Prop := ∀ i j, Sm n (cf L i j)
def spVPlus : Sp := fun vs H Q _ => ∃ (d1 d2 : Addr) (La Lb : List En) (n m : Nat), vs = [.ref d1, .ref d2] ∧ DP H d1 La ∧ DP H d2 Lb ∧ Bx bxN La ∧ La.length ≤ 400 ∧ Lb.length ≤ 400 ∧ SmC n La ∧ SmC m Lb ∧ n ≤ 1000 ∧ m ≤ 1000 ∧
  ∀ (p : Addr) (H' : Hp) (M : List En), L2.Same H H' → H p = none → DW H' p M → (∀ i j, cf M i j = cf La i j + cf Lb i j) → (∀ e ∈ M, (e.1 ∈ La.map (·.1) ∨ e.1 ∈ Lb.map (·.1)) ∧ e.2 ≠ 0) → M.length ≤ La.length + Lb.length → Q (.ref p) H'
end
end LW

/-! the law's own polynomials of two letters -/
namespace LW
open PySem PySem.Spec PyProof.Rows L2 GL
section
variable {P : Program} {w : World} {K : PySem.W.Frag} {mg : Str → Option Value} {base : Heap}
theorem int_lo {H : Hp} {t : Addr} {i : Int} (e : H t = some (.tup [.int i, .int 1])) : Lo H t (i : Rat) := by
  unfold Lo
  rw [Rat.num_intCast, Rat.den_intCast]
  exact e
theorem int_sm {i : Int} {n : Nat} (h : i.natAbs < 2 ^ n) (n1 : 1 ≤ n) : Sm n (i : Rat) := by
  refine ⟨by rw [Rat.num_intCast]; exact h, ?_⟩
  rw [Rat.den_intCast]
  exact Nat.one_lt_two_pow (by omega)
theorem c_lplus {H : Hp} {ta : TA} {σ : L2.St} {p q : Addr} {x y : Rat} {n m : Nat} {Q : VK} {E : XK} (h : VA ta σ H [.ref p, .ref q]) (a : Lo H p x) (b : Lo H q y) (hx : Sm n x) (hy : Sm m y) (hn : n ≤ 1000) (hm : m ≤ 1000) (k : ∀ c H', Same H H' → Lo H' c (x + y) → Q (.ref c) H') : tCall sp_law_plus [] E ta σ H Q := by
  have d1 := x.den_pos
  have d2 := y.den_pos
  refine c_call h ⟨p, q, _, _, _, _, rfl, a, b, hx.fit hn, hy.fit hm, by omega, by omega, fun c H' s z => k c H' s ?_⟩
  unfold Lo
  have e : x + y = Rat.divInt (x.num * (y.den : Int) + y.num * (x.den : Int)) ((x.den : Int) * (y.den : Int)) := by rw [Rat.add_def', ← Rat.divInt_ofNat, Int.natCast_mul]
  rw [e, ← (low_rat _ (Int.mul_pos (by omega) (by omega))).1, ← (low_rat _ (Int.mul_pos (by omega) (by omega))).2]
  exact z
theorem c_ltimes {H : Hp} {ta : TA} {σ : L2.St} {p q : Addr} {x y : Rat} {n m : Nat} {Q : VK} {E : XK} (h : VA ta σ H [.ref p, .ref q]) (a : Lo H p x) (b : Lo H q y) (hx : Sm n x) (hy : Sm m y) (hn : n ≤ 1000) (hm : m ≤ 1000) (k : ∀ c H', Same H H' → Lo H' c (x * y) → Q (.ref c) H') : tCall sp_law_times [] E ta σ H Q := by
  have d1 := x.den_pos
  have d2 := y.den_pos
  refine c_call h ⟨p, q, _, _, _, _, rfl, a, b, hx.fit hn, hy.fit hm, by omega, by omega, fun c H' s z => k c H' s ?_⟩
  unfold Lo
  have e : x * y = Rat.divInt (x.num * y.num) ((x.den : Int) * (y.den : Int)) := by rw [Rat.mul_def', ← Rat.divInt_ofNat, Int.natCast_mul]
  rw [e, ← (low_rat _ (Int.mul_pos (by omega) (by omega))).1, ← (low_rat _ (Int.mul_pos (by omega) (by omega))).2]
  exact z

theorem cs_lplus {H : Hp} {p q : Addr} {x y : Rat} {n m : Nat} {Q : VK} {E : XK} (a : Lo H p x) (b : Lo H q y) (hx : Sm n x) (hy : Sm m y) (hn : n ≤ 1000) (hm : m ≤ 1000) (k : ∀ c H', L2.Same H H' → Lo H' c (x + y) → Q (.ref c) H') : sp_law_plus ([.ref p, .ref q] ++ []) H Q E :=
  c_lplus (E := E) (ta := tCons (tC (.ref p)) (tCons (tC (.ref q)) tNil)) (σ := []) (va_cons val_c (va_cons val_c va_nil)) a b hx hy hn hm k
theorem cs_ltimes {H : Hp} {p q : Addr} {x y : Rat} {n m : Nat} {Q : VK} {E : XK} (a : Lo H p x) (b : Lo H q y) (hx : Sm n x) (hy : Sm m y) (hn : n ≤ 1000) (hm : m ≤ 1000) (k : ∀ c H', L2.Same H H' → Lo H' c (x * y) → Q (.ref c) H') : sp_law_times ([.ref p, .ref q] ++ []) H Q E :=
  c_ltimes (E := E) (ta := tCons (tC (.ref p)) (tCons (tC (.ref q)) tNil)) (σ := []) (va_cons val_c (va_cons val_c va_nil)) a b hx hy hn hm k

/-- .. as the last statement of a block -/
theorem q_keysE {σ : L2.St} {H : Hp} {d : Addr} {kvs : List (List Key × V)} {i j : Nat} {tb : TS} {D : Ends} (hi : σ[i]? = some (some (.ref d))) (hd : Rd H d (.dT kvs)) (Pv : Hp → Nat → L2.St → Hp → Prop)
    (h0 : ∀ HL, (∀ b, b ≠ d → HL b = H b) → Rd HL d (.dT kvs) → Pv HL 0 σ HL)
    (hq : ∀ HL i σ H', Pv HL i σ H' → H' d = HL d)
    (hs : ∀ HL i k v q σ H', Rd HL d (.dT kvs) → kvs[i]? = some (k, v) → Pv HL i σ H' → H' q = some (.tup (k.map kV)) → ∀ D' : Ends, D'.nx = Pv HL (i + 1) → D'.ct = Pv HL (i + 1) → tb D' (σ.set j (some (.ref q))) H')
    (he : ∀ HL σ H', Pv HL kvs.length σ H' → ∀ H'', (∀ b, b ≠ d → H'' b = H' b) → H'' d = H d → D.nx σ H'') :
    tLockO (tFor (iKeys (tVar i)) (gName j) tb) D σ H := q_keys (u := fun D => D.nx) hi hd Pv h0 hq hs he
theorem SmC.of {n : Nat} (h1 : 1 ≤ n) {L : List En} (h : ∀ e ∈ L, Sm n e.2) (nd : (L.map (·.1)).Nodup) : SmC n L := fun i j => by
  by_cases z : (i, j) ∈ L.map (·.1)
  · obtain ⟨e, he, y⟩ := List.mem_map.mp z
    have := cf_in (k := e.1) (q := e.2) he nd
    rw [y] at this
    rw [show cf L i j = e.2 from this]
    exact h e he
  · rw [cf_out z]
    exact ⟨Nat.lt_of_lt_of_le (show (0 : Nat) < 2 by decide) (Nat.le_trans (Nat.le_of_eq (Nat.pow_one 2).symm) (Nat.pow_le_pow_right (by decide) h1)), Nat.one_lt_two_pow (by omega)⟩
theorem zero_lo {H : Hp} {t : Addr} (e : H t = some (.tup [.int 0, .int 1])) : Lo H t (0 : Rat) := by
  have := int_lo (i := 0) e
  exact this
/-- what a dict gives for a key, else the ratio 0 -/
theorem DE.getD {H : Hp} {kvs : List (List Key × V)} {L : List En} (h : DE H kvs L) (k : Nat × Nat) {t0 : Addr} (z : Lo H t0 0) : ∃ t, (valV kvs (kN k)).getD (.ref t0) = .ref t ∧ Lo H t (cf L k.1 k.2) := by
  rcases DE.val h.1 k with ⟨e, n⟩ | ⟨t, q, e, lo, hq⟩
  · exact ⟨t0, by rw [e]; rfl, by rw [cf_out n]; exact z⟩
  · exact ⟨t, by rw [e]; rfl, by rw [cf_in hq h.2]; exact lo⟩
theorem cf_take {L : List En} {m : Nat} {e : En} (he : L[m]? = some e) (i j : Nat) : cf (L.take (m + 1)) i j = cf (L.take m) i j + (if e.1 = (i, j) then e.2 else 0) := by
  rw [List.take_succ, he, cf_app]
  show _ + cf [e] i j = _
  rw [show e = (e.1, e.2) from rfl, cf_one]
theorem cf_fresh {L : List En} {m : Nat} {e : En} (he : L[m]? = some e) (nd : (L.map (·.1)).Nodup) : cf (L.take m) e.1.1 e.1.2 = 0 := cf_out fun z => by
  have nd2 : ((L.take m ++ L.drop m).map (·.1)).Nodup := by rw [List.take_append_drop]; exact nd
  rw [List.map_append, List.nodup_append] at nd2
  have h2 : e ∈ L.drop m := by
    have hh : (L.drop m)[0]? = some e := by rw [List.getElem?_drop]; exact he
    exact List.mem_of_getElem? hh
  exact nd2.2.2 _ z _ (List.mem_map.mpr ⟨e, h2, rfl⟩) rfl
theorem ok_law_v_plus (T : Txt K mg) : FnOk P w K mg base CX0 4 (fA mg "_law_v_plus") (fDat K (fA mg "_law_v_plus")) ["_law_one", "_law_two"] spVPlus := by
  have G_law_plus := ok_law_plus (P := P) (w := w) (base := base) T
  have G_law_v_plain := ok_law_v_plain (P := P) (w := w) (base := base) T
  refine T._law_v_plus.F.ok sc_law_v_plus (fun vs H Q E h => ?_) (fun cdv A outer s H vs Q E hr h => ?_)
  · obtain ⟨d1, d2, La, Lb, n, m, rfl, _⟩ := h
    rfl
  obtain ⟨d1, d2, La, Lb, n, m, rfl, ⟨k1, rd1, de1⟩, ⟨k2, rd2, de2⟩, bx, l1, l2, s1, s2, hn, hm, k⟩ := h
  refine ⟨_, (pss_cons (ps_set (i := 2) sc_law_v_plus.nd rfl (Or.inl rfl) (pe_callTy (cr_dictT (hu64 hr)) (by rfl) T.dict (by decide +kernel) (pa_cons (pv 0) pa_nil)))
  (pss_cons (ps_lockO (ps_for PassesOwn.never rfl (pi_keys (pv 1)) (pg_name (i := 3) sc_law_v_plus.nd rfl (Or.inl rfl))
  (pss_one (ps_dput (hu_of hr) (pv 2) (pv 3) (pe_c T._law_plus G_law_plus (hr.mono (by decide)) (pa_cons (pe_dget2 (hu_of hr) (pv 2) (pv 3) (pe_tup (pa_cons pe_int (pa_cons pe_int pa_nil))) ⟨by rfl, by rfl, by rfl, by rfl⟩) (pa_cons (pe_dget (hu_of hr) (pv 1) (pv 3) (fun _ _ => rfl)) pa_nil))) rfl))))
  (pss_one (ps_ret (pe_c T._law_v_plain G_law_v_plain (hr.mono (by decide)) (pa_cons (pv 2) pa_nil)))))), ?_⟩
  refine q_asg ((val_var rfl) _ ⟨d1, k1, _, rfl, rd1, DE.kvs de1.1, ?_, fun f hf => ?_⟩)
  · rw [List.map_map]
    exact apart bx de1.2
  have sf := Same.new' (o := .dT k1) hf
  have rd2' := Rd.same rd2 sf
  have ne : d2 ≠ f := fun z => by
    rw [z] at rd2
    rcases rd2 with y | ⟨o, y⟩ <;> rw [hf] at y <;> cases y
  refine q_keys (kvs := k2) (d := d2) rfl rd2' (fun HL x σ H' => ∃ (c : Option V) (F : List En), σ = [some (.ref d1), some (.ref d2), some (.ref f), c] ∧ Wk (upd H f (.dT k1)) HL d2 f k2 H' ∧ DW H' f F ∧ (∀ i j, cf F i j = cf La i j + cf (Lb.take x) i j) ∧ (∀ e ∈ F, e.1 ∈ La.map (·.1) ∨ e.1 ∈ Lb.map (·.1)) ∧ F.length ≤ La.length + x)
    (fun HL off rdL => ?_) (fun HL x σ H' ⟨_, _, _, w, _⟩ => w.at) ?_ ?_
  · have w : Wk (upd H f (.dT k1)) HL d2 f k2 HL := ⟨off, rdL, But.refl, ne⟩
    refine ⟨none, La, rfl, w, ⟨k1, by rw [off f (Ne.symm ne), upd_same], (de1.tu (Tu.of sf)).tu (w.tu upd_same rd2')⟩, fun i j => ?_, fun e he => .inl (List.mem_map.mpr ⟨e, he, rfl⟩), Nat.le_refl _⟩
    show _ = _ + (0 : Rat)
    grind
  · rintro HL x kk v b σ H' rdL hk ⟨c, F, rfl, w, ⟨fk, ef, df⟩, hcf, hky, hln⟩ hb D' hnx hct
    obtain ⟨e, he, ek, t2, ev, lo2⟩ := de2.1.get hk
    dsimp only at ek ev
    subst ek
    subst ev
    have xlt : x < Lb.length := (List.getElem?_eq_some_iff.mp he).1
    have eL : e ∈ Lb := List.mem_of_getElem? he
    have c2 := cf_in (k := e.1) (q := e.2) eL de2.2
    clear lo2
    obtain ⟨t2, q, vk, lo2, hq⟩ : ∃ t q, valV k2 (kN e.1) = some (.ref t) ∧ Lo H t q ∧ (e.1, q) ∈ Lb := by
      rcases DE.val de2.1 e.1 with ⟨_, n⟩ | z
      · exact (n (List.mem_map.mpr ⟨e, eL, rfl⟩)).elim
      · exact z
    have eq : q = e.2 := (cf_in hq de2.2).symm.trans c2
    subst eq
    have tuH : Tu H H' := (Tu.of sf).trans (w.tu upd_same rd2')
    refine call_1 ((val_var rfl) _ ⟨f, rfl, .inr ⟨fk, .inl ef⟩, (val_var rfl) _ (l_tup (va_cons val_c (va_cons val_c va_nil)) (by show 2 ≤ 100000; decide) fun t0 h0 => ⟨_, DGet.t (Same.new' h0 _ _ ef) (Same.new' h0 _ _ hb), ?_⟩)⟩)
    have s0 := Same.new' (o := .tup [.int 0, .int 1]) h0
    obtain ⟨t1, e1, lo1⟩ := (df.tu (Tu.of s0)).getD e.1 (zero_lo (H := upd H' t0 (.tup [.int 0, .int 1])) upd_same)
    rw [e1]
    have w1 := w.step (But.of (p := f) s0)
    have lo2' := (lo2.tu tuH).same s0
    refine va_1 ((v_dgetT (val_var rfl) (val_var rfl) w1.rdH (s0 _ _ hb) vk) _ ?_)
    have cz : cf F e.1.1 e.1.2 = cf La e.1.1 e.1.2 := by
      rw [hcf, cf_fresh he de2.2]; grind
    refine cs_lplus lo1 lo2' (by rw [cz]; exact s1 _ _) (by rw [← c2]; exact s2 _ _) hn hm fun t3 H2 s3 lo3 => ?_
    have b2 : But f H' H2 := But.of (s0.trans s3)
    have ef2 : H2 f = some (.dT fk) := s3 _ _ (s0 _ _ ef)
    refine (val_var rfl) _ ((val_var rfl) _ ⟨f, _, rfl, DPut.t ef2 (s3 _ _ (s0 _ _ hb)) (Nat.lt_of_le_of_lt (show fk.length ≤ 1000 by have := df.len; omega) (by decide)), ?_⟩)
    rw [hnx]
    have w2 := (w1.step (But.of (p := f) s3)).step (show But f H2 (upd H2 f (.dT (putK fk (kN e.1) (.ref t3)))) from fun b o eb nb => by rw [upd_ne nb]; exact eb)
    refine ⟨_, putE F e.1 _, rfl, w2, ⟨_, upd_same, ((df.tu (Tu.of (s0.trans s3))).put lo3).tu (Tu.putT ef2)⟩, fun i j => ?_, fun a ha => ?_, Nat.le_trans len_put (by omega)⟩
    · rw [cf_put df.2, cf_take he]
      split
      · rename_i z
        have h1 : i = e.1.1 := by rw [z]
        have h2 : j = e.1.2 := by rw [z]
        rw [h1, h2, hcf]
        grind
      · rw [hcf]; grind
    · rcases mem_put ha with rfl | h
      · exact .inr (List.mem_map.mpr ⟨e, eL, rfl⟩)
      · exact hky _ h
  · rintro HL σ H' ⟨c, F, rfl, w, dw, hcf, hky, hln⟩ H2 h2 hd2
    obtain ⟨b0, tu2, ff⟩ := w.fin h2 hd2
    obtain ⟨fk, ef, df⟩ := dw
    have l2k : k2.length = Lb.length := de2.len
    rw [l2k] at hln
    have sH : L2.Same H H2 := fun b o e => b0 b o (sf _ _ e) (ne_of_none e hf)
    have df2 : DP H2 f F := ⟨fk, .inl (by rw [ff]; exact ef), df.tu tu2⟩
    refine r_ret (te := tCall _ _ _ _) (c_call (va_cons (val_var rfl) va_nil) ⟨f, F, rfl, df2, by omega, fun p H3 M s3 np dM cM mM lM => k p H3 M (sH.trans s3) ?_ dM (fun i j => ?_) (fun e he => ⟨hky e (mM e he).1, (mM e he).2⟩) (by omega)⟩)
    · exact sH.free np
    · rw [cM, hcf, l2k, List.take_length]

/-! ### products -/
theorem tm1_take {a : En} {L : List En} {m : Nat} {e : En} (he : L[m]? = some e) (i j : Nat) : tm1 a (L.take (m + 1)) i j = tm1 a (L.take m) i j + (if (a.1.1 + e.1.1, a.1.2 + e.1.2) = (i, j) then a.2 * e.2 else 0) := by
  unfold tm1
  rw [List.take_succ, he, rs_app]
  show _ + ((if (a.1.1 + e.1.1, a.1.2 + e.1.2) = (i, j) then a.2 * e.2 else 0) + 0) = _
  grind
theorem tm_take {L M : List En} {m : Nat} {a : En} (ha : L[m]? = some a) (i j : Nat) : tm (L.take (m + 1)) M i j = tm (L.take m) M i j + tm1 a M i j := by
  unfold tm
  rw [List.take_succ, ha, rs_app]
  show _ + (tm1 a M i j + 0) = _
  grind
/-- at most one entry of the other gives a power -/
theorem tm1_one {a : En} {i j : Nat} : ∀ {M : List En}, (M.map (·.1)).Nodup → tm1 a M i j = 0 ∨ ∃ b ∈ M, (a.1.1 + b.1.1, a.1.2 + b.1.2) = (i, j) ∧ tm1 a M i j = a.2 * b.2
  | [], _ => .inl rfl
  | b :: M, nd => by
    rw [List.map_cons, List.nodup_cons] at nd
    have e0 : tm1 a (b :: M) i j = (if (a.1.1 + b.1.1, a.1.2 + b.1.2) = (i, j) then a.2 * b.2 else 0) + tm1 a M i j := rfl
    rcases tm1_one (M := M) nd.2 with z | ⟨c, hc, e1, e2⟩
    · by_cases y : (a.1.1 + b.1.1, a.1.2 + b.1.2) = (i, j)
      · exact .inr ⟨b, List.mem_cons_self .., y, by rw [e0, if_pos y, z]; grind⟩
      · exact .inl (by rw [e0, if_neg y, z]; grind)
    · by_cases y : (a.1.1 + b.1.1, a.1.2 + b.1.2) = (i, j)
      · refine (nd.1 (List.mem_map.mpr ⟨c, hc, ?_⟩)).elim
        rw [← e1] at y
        rw [Prod.mk.injEq] at y
        exact Prod.ext (by omega) (by omega)
      · exact .inr ⟨c, List.mem_cons_of_mem _ hc, e1, by rw [e0, if_neg y, e2]; grind⟩
theorem tm1_fresh {a : En} {L : List En} {m : Nat} {e : En} (he : L[m]? = some e) (nd : (L.map (·.1)).Nodup) : tm1 a (L.take m) (a.1.1 + e.1.1) (a.1.2 + e.1.2) = 0 := by
  have nd2 : ((L.take m ++ L.drop m).map (·.1)).Nodup := by rw [List.take_append_drop]; exact nd
  rw [List.map_append, List.nodup_append] at nd2
  rcases tm1_one (a := a) (i := a.1.1 + e.1.1) (j := a.1.2 + e.1.2) nd2.1 with z | ⟨b, hb, e1, _⟩
  · exact z
  · have h2 : e ∈ L.drop m := by
      have hh : (L.drop m)[0]? = some e := by rw [List.getElem?_drop]; exact he
      exact List.mem_of_getElem? hh
    rw [Prod.mk.injEq] at e1
    exact (nd2.2.2 _ (List.mem_map.mpr ⟨b, hb, rfl⟩) _ (List.mem_map.mpr ⟨e, h2, rfl⟩) (Prod.ext (by omega) (by omega))).elim
def BdC (D M : Nat) (L : List En) : Prop := ∀ i j, Bd D M (cf L i j)
theorem BdC.sm {D M : Nat} {L : List En} (h : BdC D M L) (f : Fz D M) : SmC 1000 L := fun i j => (h i j).sm f
theorem BdC.mem {D M : Nat} {L : List En} (h : BdC D M L) (nd : (L.map (·.1)).Nodup) {e : En} (he : e ∈ L) : Bd D M e.2 := by
  have := cf_in (k := e.1) (q := e.2) he nd
  exact this ▸ h _ _
theorem tm1_bd {a : En} {L : List En} {D M E' N : Nat} (nd : (L.map (·.1)).Nodup) (ha : Bd D M a.2) (hM : BdC E' N L) (i j : Nat) : Bd (D * E') (M * N) (tm1 a L i j) := by
  rcases tm1_one (a := a) (i := i) (j := j) nd with z | ⟨b, hb, _, e⟩
  · rw [z]; exact Bd.zero
  · rw [e]
    exact ha.mul (hM.mem nd hb)
theorem tm_bd {K : List En} {D M E' N : Nat} (nd : (K.map (·.1)).Nodup) (hM : BdC E' N K) (i j : Nat) : ∀ {L : List En}, (∀ e ∈ L, Bd D M e.2) → Bd (D * E') (L.length * (M * N)) (tm L K i j)
  | [], _ => Bd.zero
  | a :: L, h => by
    have ih := tm_bd nd hM i j (L := L) fun e he => h e (List.mem_cons_of_mem _ he)
    have := (tm1_bd nd (h a (List.mem_cons_self ..)) hM i j).add ih
    refine Bd.le (q := tm1 a K i j + tm L K i j) this ?_
    rw [List.length_cons, Nat.succ_mul]
    omega
/-- so many numbers at most below a bound -/
theorem pigeon : ∀ (n : Nat) {l : List Nat}, l.Nodup → (∀ x ∈ l, x < n) → l.length ≤ n
  | 0, l, _, h => by
    cases l with
    | nil => exact Nat.le_refl _
    | cons x r => exact absurd (h x (List.mem_cons_self ..)) (Nat.not_lt_zero _)
  | n + 1, l, nd, h => by
    by_cases z : n ∈ l
    · have l1 := List.length_erase_of_mem z
      have ih := pigeon n (l := l.erase n) (nd.erase n) fun x hx => by
        have h1 := h x (List.mem_of_mem_erase hx)
        have h2 : x ≠ n := fun e => by
          subst e
          exact nd.not_mem_erase hx
        omega
      have : 0 < l.length := List.length_pos_of_mem z
      omega
    · have ih := pigeon n nd fun x hx => by
        have h1 := h x hx
        have h2 : x ≠ n := fun e => z (e ▸ hx)
        omega
      omega
theorem keys_len {L : List En} {g : Nat} (nd : (L.map (·.1)).Nodup) (h : ∀ e ∈ L, e.1.1 + e.1.2 ≤ g) : L.length ≤ (g + 1) * (g + 1) := by
  have nd2 : ((L.map (·.1)).map fun k => k.1 * (g + 1) + k.2).Nodup := by
    refine (List.pairwise_map.mpr ?_)
    refine List.Pairwise.imp_of_mem (R := fun a b => a ≠ b) (fun {a b} ha hb ne e => ne ?_) nd
    obtain ⟨x, hx, rfl⟩ := List.mem_map.mp ha
    obtain ⟨y, hy, rfl⟩ := List.mem_map.mp hb
    have h1 := h x hx
    have h2 := h y hy
    have m1 : (x.1.1 * (g + 1) + x.1.2) % (g + 1) = x.1.2 := by
      rw [Nat.add_comm, Nat.add_mul_mod_self_right, Nat.mod_eq_of_lt (by omega)]
    have m2 : (y.1.1 * (g + 1) + y.1.2) % (g + 1) = y.1.2 := by
      rw [Nat.add_comm, Nat.add_mul_mod_self_right, Nat.mod_eq_of_lt (by omega)]
    have e2 : x.1.2 = y.1.2 := by rw [← m1, ← m2]; exact congrArg (· % (g + 1)) e
    have e1 : x.1.1 * (g + 1) = y.1.1 * (g + 1) := by
      have e' : x.1.1 * (g + 1) + x.1.2 = y.1.1 * (g + 1) + y.1.2 := e
      omega
    exact Prod.ext (Nat.eq_of_mul_eq_mul_right (by omega) e1) e2
  have := pigeon ((g + 1) * (g + 1)) nd2 fun x hx => by
    obtain ⟨k, hk, rfl⟩ := List.mem_map.mp hx
    obtain ⟨e, he, rfl⟩ := List.mem_map.mp hk
    have h1 := h e he
    have h2 : e.1.1 * (g + 1) ≤ g * (g + 1) := Nat.mul_le_mul_right _ (by omega)
    have h3 : (g + 1) * (g + 1) = g * (g + 1) + (g + 1) := Nat.succ_mul g (g + 1)
    omega
  rw [List.length_map, List.length_map] at this
  exact this
def spVTimes : Sp := fun vs H Q _ => ∃ (d1 d2 : Addr) (La Lb : List En) (D M0 E' N g : Nat), vs = [.ref d1, .ref d2] ∧ DP H d1 La ∧ DP H d2 Lb ∧ (∀ a ∈ La, ∀ b ∈ Lb, a.1.1 + b.1.1 + (a.1.2 + b.1.2) ≤ g) ∧ (g + 1) * (g + 1) ≤ 900 ∧ BdC D M0 La ∧ BdC E' N Lb ∧ Fz D M0 ∧ Fz E' N ∧ Fz (D * E') (M0 * N) ∧ Fz (D * E') (La.length * (M0 * N)) ∧
  ∀ (p : Addr) (H' : Hp) (M : List En), L2.Same H H' → H p = none → DW H' p M → (∀ i j, cf M i j = tm La Lb i j) → (∀ e ∈ M, (∃ a ∈ La, ∃ b ∈ Lb, e.1 = (a.1.1 + b.1.1, a.1.2 + b.1.2)) ∧ e.2 ≠ 0) → M.length ≤ La.length * Lb.length → Q (.ref p) H'
theorem ok_law_v_times (T : Txt K mg) : FnOk P w K mg base CX0 4 (fA mg "_law_v_times") (fDat K (fA mg "_law_v_times")) ["_law_one", "_law_two"] spVTimes := by
  have G_law_plus := ok_law_plus (P := P) (w := w) (base := base) T
  have G_law_times := ok_law_times (P := P) (w := w) (base := base) T
  have G_law_v_plain := ok_law_v_plain (P := P) (w := w) (base := base) T
  refine T._law_v_times.F.ok sc_law_v_times (fun vs H Q E h => ?_) (fun cdv A outer s H vs Q E hr h => ?_)
  · obtain ⟨d1, d2, La, Lb, D0, M0, E0, N, g, rfl, _⟩ := h
    rfl
  obtain ⟨d1, d2, La, Lb, D0, M0, E0, N, g, rfl, ⟨k1, rd1, de1⟩, ⟨k2, rd2, de2⟩, lg, ll, s1, s2, fD, fE, fP, fS, k⟩ := h
  refine ⟨_, (pss_cons (ps_set (i := 2) sc_law_v_times.nd rfl (Or.inl rfl) pe_dnewT)
  (pss_cons (ps_lockO (ps_for PassesOwn.never rfl (pi_keys (pv 0)) (pg_name (i := 3) sc_law_v_times.nd rfl (Or.inl rfl))
  (pss_one (ps_lockO (ps_for PassesOwn.never rfl (pi_keys (pv 1)) (pg_name (i := 4) sc_law_v_times.nd rfl (Or.inl rfl))
  (pss_cons (ps_set (i := 5) sc_law_v_times.nd rfl (Or.inl rfl) (pe_tup (pa_cons (pe_op op_add (pe_ix ix_tup (pv 3) pe_int (fun _ _ => rfl)) (pe_ix ix_tup (pv 4) pe_int (fun _ _ => rfl))) (pa_cons (pe_op op_add (pe_ix ix_tup (pv 3) pe_int (fun _ _ => rfl)) (pe_ix ix_tup (pv 4) pe_int (fun _ _ => rfl))) pa_nil))))
  (pss_one (ps_dput (hu_of hr) (pv 2) (pv 5) (pe_c T._law_plus G_law_plus (hr.mono (by decide)) (pa_cons (pe_dget2 (hu_of hr) (pv 2) (pv 5) (pe_tup (pa_cons pe_int (pa_cons pe_int pa_nil))) ⟨by rfl, by rfl, by rfl, by rfl⟩) (pa_cons (pe_c T._law_times G_law_times (hr.mono (by decide)) (pa_cons (pe_dget (hu_of hr) (pv 0) (pv 3) (fun _ _ => rfl)) (pa_cons (pe_dget (hu_of hr) (pv 1) (pv 4) (fun _ _ => rfl)) pa_nil))) pa_nil))) rfl))))))))
  (pss_one (ps_ret (pe_c T._law_v_plain G_law_v_plain (hr.mono (by decide)) (pa_cons (pv 2) pa_nil)))))), ?_⟩
  refine q_asg fun f hf => ?_
  have sf := Same.new' (o := .dT []) hf
  have rd1' := Rd.same rd1 sf
  have rd2' := Rd.same rd2 sf
  have ne1 : d1 ≠ f := fun z => by
    rw [z] at rd1
    rcases rd1 with y | ⟨o, y⟩ <;> rw [hf] at y <;> cases y
  have ne2 : d2 ≠ f := fun z => by
    rw [z] at rd2
    rcases rd2 with y | ⟨o, y⟩ <;> rw [hf] at y <;> cases y
  have snd : ∀ {H1 HL H' : Hp} {d d' : Addr} {kvs kvs' : List (List Key × V)}, Wk H1 HL d f kvs H' → d' ≠ f → Rd H1 d' (.dT kvs') → Rd H1 d (.dT kvs) → Rd H' d' (.dT kvs') := fun {H1 HL H' d d' kvs kvs'} w nf r rr => by
    by_cases z : d' = d
    · subst z
      have e : kvs' = kvs := by
        rcases r with y | ⟨o, y⟩ <;> rcases rr with x | ⟨o', x⟩ <;> rw [y] at x <;> cases x <;> rfl
      rw [e]
      exact w.rdH
    · rcases r with y | ⟨o, y⟩
      · exact .inl (w.but _ _ (by rw [w.off _ z]; exact y) nf)
      · exact .inr ⟨o, w.but _ _ (by rw [w.off _ z]; exact y) nf⟩
  have len1 := de1.len
  have len2 := de2.len
  have sLa : ∀ e ∈ La, Bd D0 M0 e.2 := fun e he => s1.mem de1.2 he
  have sz : ∀ {F : List En}, (F.map (·.1)).Nodup → (∀ e ∈ F, ∃ a ∈ La, ∃ b ∈ Lb, e.1 = (a.1.1 + b.1.1, a.1.2 + b.1.2)) → F.length ≤ 900 := fun {F} nd hk => Nat.le_trans (keys_len (g := g) nd fun e he => by
    obtain ⟨a, ha, b, hb, z⟩ := hk e he
    rw [z]
    exact lg a ha b hb) ll
  refine q_keys (kvs := k1) (d := d1) rfl rd1' (fun HL x σ H' => ∃ (c c2 c3 : Option V) (F : List En), σ = [some (.ref d1), some (.ref d2), some (.ref f), c, c2, c3] ∧ Wk (upd H f (.dT [])) HL d1 f k1 H' ∧ DW H' f F ∧ (∀ i j, cf F i j = tm (La.take x) Lb i j) ∧ (∀ e ∈ F, ∃ a ∈ La, ∃ b ∈ Lb, e.1 = (a.1.1 + b.1.1, a.1.2 + b.1.2)) ∧ F.length ≤ x * Lb.length)
    (fun HL off rdL => ?_) (fun HL x σ H' ⟨_, _, _, _, _, w, _⟩ => w.at) ?_ ?_
  · have w : Wk (upd H f (.dT [])) HL d1 f k1 HL := ⟨off, rdL, But.refl, ne1⟩
    exact ⟨none, none, none, [], rfl, w, ⟨[], by rw [off f (Ne.symm ne1), upd_same], .nil, by simp⟩, fun i j => rfl, (fun e he => nomatch he), Nat.zero_le _⟩
  · rintro HL x kk v b σ H' rdL hk ⟨c, c2, c3, F, rfl, w, ⟨fk, ef, df⟩, hcf, hky, hln⟩ hb D' hnx hct
    obtain ⟨a, ha, ek, _, _, _⟩ := de1.1.get hk
    dsimp only at ek
    subst ek
    have xlt : x < La.length := (List.getElem?_eq_some_iff.mp ha).1
    have aL : a ∈ La := List.mem_of_getElem? ha
    have rd2H := snd w ne2 rd2' rd1'
    have xl : x * Lb.length + Lb.length ≤ La.length * Lb.length := by
      have := Nat.mul_le_mul_right Lb.length (show x + 1 ≤ La.length from xlt)
      rw [Nat.add_mul, Nat.one_mul] at this
      exact this
    have ta : Tu H H' := (Tu.of sf).trans (w.tu upd_same rd1')
    refine q_keysE (kvs := k2) (d := d2) rfl rd2H (fun HL2 y σ H2 => ∃ (c2 c3 : Option V) (F : List En), σ = [some (.ref d1), some (.ref d2), some (.ref f), some (.ref b), c2, c3] ∧ Wk H' HL2 d2 f k2 H2 ∧ DW H2 f F ∧ (∀ i j, cf F i j = tm (La.take x) Lb i j + tm1 a (Lb.take y) i j) ∧ (∀ e ∈ F, ∃ a ∈ La, ∃ b ∈ Lb, e.1 = (a.1.1 + b.1.1, a.1.2 + b.1.2)) ∧ F.length ≤ x * Lb.length + y)
      (fun HL2 off rdL2 => ?_) (fun HL2 y σ H2 ⟨_, _, _, _, w, _⟩ => w.at) ?_ ?_
    · have w2 : Wk H' HL2 d2 f k2 HL2 := ⟨off, rdL2, But.refl, ne2⟩
      refine ⟨c2, c3, F, rfl, w2, ⟨fk, by rw [off f (Ne.symm ne2)]; exact ef, df.tu (w2.tu ef rd2H)⟩, fun i j => ?_, hky, hln⟩
      rw [hcf]
      show _ = _ + (0 : Rat)
      grind
    · rintro HL2 y kk2 v2 b2 σ H2 rdL2 hk2 ⟨c2, c3, F2, rfl, w2, ⟨fk2, ef2, df2⟩, hcf2, hky2, hln2⟩ hb2 D2 hnx2 hct2
      obtain ⟨e, he, ek, _, _, _⟩ := de2.1.get hk2
      dsimp only at ek
      subst ek
      have ylt : y < Lb.length := (List.getElem?_eq_some_iff.mp he).1
      have eL : e ∈ Lb := List.mem_of_getElem? he
      have hb' : H2 b = some (.tup ((kN a.1).map kV)) := (w2.tu ef rd2H) _ _ hb
      have tH2 : Tu H H2 := ta.trans (w2.tu ef rd2H)
      have rd1H2 : Rd H2 d1 (.dT k1) := snd w2 ne1 w.rdH rd2H
      have rd2H2 : Rd H2 d2 (.dT k2) := w2.rdH
      have gt : ∀ {kvs : List (List Key × V)} {L : List En} {e : En}, DE H kvs L → e ∈ L → ∃ t, valV kvs (kN e.1) = some (.ref t) ∧ Lo H t e.2 := fun {kvs L e} de he => by
        rcases DE.val de.1 e.1 with ⟨_, n⟩ | ⟨t, q, e1, lo, hq⟩
        · exact (n (List.mem_map.mpr ⟨e, he, rfl⟩)).elim
        · have eq : q = e.2 := (cf_in hq de.2).symm.trans (cf_in (k := e.1) (q := e.2) he de.2)
          exact ⟨t, e1, eq ▸ lo⟩
      obtain ⟨ta1, va1, loa⟩ := gt de1 aL
      obtain ⟨tb1, vb1, lob⟩ := gt de2 eL
      refine q_asg (l_tup (vs := [.int ((a.1.1 : Int) + (e.1.1 : Int)), .int ((a.1.2 : Int) + (e.1.2 : Int))]) (va_cons (v_add (v_ixT (n := 0) (val_var rfl) val_c (SqT.of hb') rfl) (v_ixT (n := 0) (val_var rfl) val_c (SqT.of hb2) rfl)) (va_cons (v_add (v_ixT (n := 1) (val_var rfl) val_c (SqT.of hb') rfl) (v_ixT (n := 1) (val_var rfl) val_c (SqT.of hb2) rfl)) va_nil)) (by show 2 ≤ 100000; decide) fun sp hsp => ?_)
      have s0 := Same.new' (o := .tup [.int ((a.1.1 : Int) + (e.1.1 : Int)), .int ((a.1.2 : Int) + (e.1.2 : Int))]) hsp
      have esp : (upd H2 sp (.tup [.int ((a.1.1 : Int) + (e.1.1 : Int)), .int ((a.1.2 : Int) + (e.1.2 : Int))])) sp = some (.tup ((kN (a.1.1 + e.1.1, a.1.2 + e.1.2)).map kV)) := by
        rw [upd_same]
        rfl
      generalize upd H2 sp (.tup [.int ((a.1.1 : Int) + (e.1.1 : Int)), .int ((a.1.2 : Int) + (e.1.2 : Int))]) = H3 at s0 esp ⊢
      refine call_1 ((val_var rfl) _ ⟨f, rfl, .inr ⟨fk2, .inl (s0 _ _ ef2)⟩, (val_var rfl) _ (l_tup (va_cons val_c (va_cons val_c va_nil)) (by show 2 ≤ 100000; decide) fun t0 h0 => ⟨_, DGet.t (Same.new' h0 _ _ (s0 _ _ ef2)) (Same.new' h0 _ _ esp), ?_⟩)⟩)
      have s1' := Same.new' (o := .tup [.int 0, .int 1]) h0
      have z0 : Lo (upd H3 t0 (.tup [.int 0, .int 1])) t0 (0 : Rat) := zero_lo upd_same
      generalize upd H3 t0 (.tup [.int 0, .int 1]) = H4 at s1' z0 ⊢
      have S4 := s0.trans s1'
      obtain ⟨t1, e1, lo1⟩ := (df2.tu (Tu.of S4)).getD (a.1.1 + e.1.1, a.1.2 + e.1.2) z0
      rw [e1]
      refine va_1 (call_1 ((v_dgetT (val_var rfl) (val_var rfl) (Rd.same rd1H2 S4) (S4 _ _ hb') va1) _ (va_1 ((v_dgetT (val_var rfl) (val_var rfl) (Rd.same rd2H2 S4) (S4 _ _ hb2) vb1) _ ?_))))
      have sa := sLa a aL
      have sb := s2.mem de2.2 eL
      refine cs_ltimes ((loa.tu tH2).same S4) ((lob.tu tH2).same S4) (sa.sm fD) (sb.sm fE) (by decide) (by decide) fun t3 H5 s5 lo3 => ?_
      have cz : cf F2 (a.1.1 + e.1.1) (a.1.2 + e.1.2) = tm (La.take x) Lb (a.1.1 + e.1.1) (a.1.2 + e.1.2) := by
        rw [hcf2, tm1_fresh he de2.2]; grind
      have sc : Bd (D0 * E0) (La.length * (M0 * N)) (cf F2 (a.1.1 + e.1.1) (a.1.2 + e.1.2)) := by
        rw [cz]
        exact (tm_bd (L := La.take x) de2.2 s2 _ _ fun e he => sLa e (List.mem_of_mem_take he)).le (Nat.mul_le_mul_right _ (by rw [List.length_take]; omega))
      refine cs_lplus (lo1.same s5) lo3 (sc.sm fS) ((sa.mul sb).sm fP) (by decide) (by decide) fun t4 H6 s6 lo4 => ?_
      have S6 := (S4.trans s5).trans s6
      have w3 := w2.step (But.of (p := f) S6)
      have ef6 := S6 _ _ ef2
      have esp6 := s6 _ _ (s5 _ _ (s1' _ _ esp))
      refine (val_var rfl) _ ((val_var rfl) _ ⟨f, _, rfl, DPut.t ef6 esp6 (Nat.lt_of_le_of_lt (show fk2.length ≤ 1000 by have := df2.len; have := sz df2.2 hky2; omega) (by decide)), ?_⟩)
      rw [hnx2]
      have w4 := w3.step (show But f H6 (upd H6 f (.dT (putK fk2 (kN (a.1.1 + e.1.1, a.1.2 + e.1.2)) (.ref t4)))) from fun b o eb nb => by rw [upd_ne nb]; exact eb)
      refine ⟨_, _, putE F2 (a.1.1 + e.1.1, a.1.2 + e.1.2) _, rfl, w4, ⟨_, upd_same, ((df2.tu (Tu.of S6)).put lo4).tu (Tu.putT ef6)⟩, fun i j => ?_, fun a' ha' => ?_, Nat.le_trans len_put (by omega)⟩
      · rw [cf_put df2.2, tm1_take he]
        split
        · rename_i z
          have g1 : i = a.1.1 + e.1.1 := (Prod.mk.inj z).1.symm
          have g2 : j = a.1.2 + e.1.2 := (Prod.mk.inj z).2.symm
          rw [g1, g2, hcf2]
          grind
        · rw [hcf2]; grind
      · rcases mem_put ha' with rfl | h
        · exact ⟨a, aL, e, eL, rfl⟩
        · exact hky2 _ h
    · rintro HL2 σ H2 ⟨c2, c3, F2, rfl, w2, dw2, hcf2, hky2, hln2⟩ H3 h3 hd3
      obtain ⟨b0, tu2, ff⟩ := w2.fin h3 hd3
      obtain ⟨fk2, ef2, df2⟩ := dw2
      rw [len2] at hln2
      rw [hnx]
      refine ⟨_, _, _, F2, rfl, w.step b0, ⟨fk2, by rw [ff]; exact ef2, df2.tu tu2⟩, fun i j => ?_, hky2, by rw [Nat.add_mul, Nat.one_mul]; exact hln2⟩
      rw [hcf2, len2, List.take_length, tm_take ha]
  · rintro HL σ H' ⟨c, c2, c3, F, rfl, w, dw, hcf, hky, hln⟩ H2 h2 hd2
    obtain ⟨b0, tu2, ff⟩ := w.fin h2 hd2
    obtain ⟨fk, ef, df⟩ := dw
    rw [len1] at hln
    have sH : L2.Same H H2 := fun b o e => b0 b o (sf _ _ e) (ne_of_none e hf)
    have df2 : DP H2 f F := ⟨fk, .inl (by rw [ff]; exact ef), df.tu tu2⟩
    refine r_ret (te := tCall _ _ _ _) (c_call (va_cons (val_var rfl) va_nil) ⟨f, F, rfl, df2, sz df.2 hky, fun p H3 M s3 np dM cM mM lM => k p H3 M (sH.trans s3) ?_ dM (fun i j => ?_) (fun e he => ⟨hky e (mM e he).1, (mM e he).2⟩) (by omega)⟩)
    · exact sH.free np
    · rw [cM, hcf, len1, List.take_length]

/-! ### slopes -/
theorem nat_sm {n k : Nat} (h : n < 2 ^ k) (k1 : 1 ≤ k) : Sm k ((n : Nat) : Rat) := by
  have := int_sm (i := (n : Int)) (n := k) (by rw [Int.natAbs_natCast]; exact h) k1
  exact this
end
end LW

namespace LW
open PySem PySem.Spec PyProof.Rows L2 GL
section
variable {P : Program} {w : World} {K : PySem.W.Frag} {mg : Str → Option Value} {base : Heap}

/-! ### the law's own ratios and rows -/
theorem But.lo {H H' : Hp} {p c t : Addr} {m : Nat} {q : Rat} (b : But p H H') (P : PenAt H p c m) (h : Lo H t q) : Lo H' t q := by
  obtain ⟨kvs, hd⟩ := P.dk
  exact b _ _ h (ne_of h hd (by intro z; cases z))
/-- a list of ratios in lowest terms -/
def Lst (H : Hp) (l : Addr) (xs : List Rat) : Prop := ∃ vs, H l = some (.lst vs) ∧ All2 (fun v q => ∃ p, v = .ref p ∧ Lo H p q) vs xs
theorem Lst.same {H H' : Hp} {t : Addr} {xs : List Rat} (h : Lst H t xs) (s : Same H H') : Lst H' t xs := by
  obtain ⟨vs, e, al⟩ := h
  exact ⟨vs, s _ _ e, al.imp fun v q ⟨p, e, lo⟩ => ⟨p, e, lo.same s⟩⟩
theorem Lst.but {H H' : Hp} {p c l : Addr} {m : Nat} {xs : List Rat} (h : Lst H l xs) (b : But p H H') (P : PenAt H p c m) : Lst H' l xs := by
  obtain ⟨vs, e, al⟩ := h
  obtain ⟨kvs, hd⟩ := P.dk
  exact ⟨vs, b _ _ e (ne_of e hd (by intro z; cases z)), al.imp fun v q ⟨p, e, lo⟩ => ⟨p, e, b.lo P lo⟩⟩
theorem va_s {te : TE} {tr : TA} {σ : L2.St} {H : Hp} {v : V} {Q : List V → Hp → Prop} (h : Val te σ H v) (k : tr σ H fun vs H1 => Q (v :: vs) H1) : tCons te tr σ H Q := h _ k
theorem l_s {ta : TA} {σ : L2.St} {H : Hp} {Q : VK} (h : ta σ H fun vs H1 => vs.length ≤ sizeLine ∧ ∀ q, H1 q = none → Q (.ref q) (upd H1 q (.lst vs))) : tLst ta σ H Q := h
/-- what all bottoms of drawn ratios divide -/
def L9 : Nat := 69720375229712477164533808935312303556800
theorem l9_dvd : ∀ d, d < 100 → 0 < d → d ∣ L9 := by decide +kernel
def spLRatio : Sp := fun vs H Q _ => ∃ (p c : Addr) (m : Nat) (k : Nat), vs = [.ref p, .int (k : Int)] ∧ PenAt H p c m ∧ m + 3 < most ∧ 1 ≤ k ∧ k ≤ 9 ∧ ∀ (t : Addr) (H' : Hp) (q : Rat), Lo H' t q → Sm 10 q → Bd L9 k q → But p H H' → PenAt H' p c (m + 3) → Q (.ref t) H'
theorem ok_law_ratio (T : Txt K mg) : FnOk P w K mg base CX0 5 (fA mg "_law_ratio") (fDat K (fA mg "_law_ratio")) ["_law_pen_here", "_law_most"] spLRatio := by
  have G_law_draw := ok_draw (P := P) (w := w) (base := base) T._law_draw.F T
  have G_law_pick := ok_pick (P := P) (w := w) (base := base) T
  have G_law_q := ok_law_q (P := P) (w := w) (base := base) T
  refine T._law_ratio.F.ok sc_law_ratio (fun vs H Q E h => ?_) (fun cdv A outer s H vs Q E hr h => ?_)
  · obtain ⟨p, c, m, k, rfl, _⟩ := h
    rfl
  obtain ⟨p, c, m, k, rfl, hP, hm, k1, k9, z⟩ := h
  refine ⟨_, (pss_cons (ps_set (i := 2) sc_law_ratio.nd rfl (Or.inl rfl) (pe_c T._law_pick G_law_pick (hr.mono (by decide)) (pa_cons (pv 0) (pa_cons (pe_lst (pa_cons pe_int (pa_cons pe_int (pa_cons pe_int (pa_cons pe_int (pa_cons pe_int (pa_cons pe_int (pa_cons (pe_op op_add pe_int (pe_c T._law_draw G_law_draw (hr.mono (by decide)) (pa_cons (pv 0) (pa_cons pe_int pa_nil)))) pa_nil)))))))) pa_nil))))
  (pss_one (ps_ret (pe_c T._law_q G_law_q (hr.mono (by decide)) (pa_cons (pe_op op_sub (pe_c T._law_draw G_law_draw (hr.mono (by decide)) (pa_cons (pv 0) (pa_cons (pe_op op_add (pe_op op_mulW (pe_op op_mulW pe_int (pv 1)) (pv 2)) pe_int) pa_nil))) (pe_op op_mulW (pv 1) (pv 2))) (pa_cons (pv 2) pa_nil)))))), ?_⟩
  refine q_asg (call_1 ((val_var rfl) _ (va_1 ?_)))
  refine l_s (va_s val_c (va_s val_c (va_s val_c (va_s val_c (va_s val_c (va_s val_c (va_1 (op_l val_c ?_))))))))
  refine c_call (va_cons (val_var rfl) (va_cons val_c va_nil)) ⟨p, c, 99, m, rfl, hP, by omega, by decide, by decide, fun r H1 r0 r1 b1 P1 => ?_⟩
  refine ⟨1, r, rfl, rfl, by show 7 ≤ sizeLine; decide, fun l hl => ?_⟩
  refine ⟨p, c, l, _, m + 1, rfl, P1.same (Same.new hl), by omega, SqL.of upd_same, by show 0 < 7; decide, by show 7 < 1000000000; decide, fun v H2 hv b2 P2 => ?_⟩
  obtain ⟨d, rfl, d0, d1⟩ : ∃ d : Int, v = .int d ∧ 0 < d ∧ d ≤ 99 := by
    simp at hv
    rcases hv with e | e | e | e | e | e
    · exact ⟨1, e, by decide, by decide⟩
    · exact ⟨2, e, by decide, by decide⟩
    · exact ⟨3, e, by decide, by decide⟩
    · exact ⟨7, e, by decide, by decide⟩
    · exact ⟨10, e, by decide, by decide⟩
    · exact ⟨1 + r, e, by omega, by omega⟩
  have c1 : (2 : Nat) ^ 10 < 2 ^ 1000 := Nat.pow_lt_pow_right (by decide) (by decide)
  have kd : 0 < (k : Int) * d := Int.mul_pos (by omega) d0
  have kd2 : (k : Int) * d ≤ 9 * 99 := Int.mul_le_mul (by omega) d1 (by omega) (by omega)
  refine r_ret (te := tCall _ _ _ _) (call_1 ?_)
  have hk : (k : Int).natAbs < 2 ^ 1000 := by omega
  have hd : d.natAbs < 2 ^ 1000 := by omega
  have h2k : (2 * (k : Int)).natAbs < 2 ^ 1000 := by omega
  refine c_call (va_cons (val_var rfl) (va_cons (v_add (v_mul (v_mul val_c (val_var rfl) (fit_mul (by omega) hk)) (val_var rfl) (fit_mul h2k hd)) val_c) va_nil)) ⟨p, c, _, m + 2, rfl, P2, by omega, ?_, ?_, fun r2 H3 r20 r21 b3 P3 => ?_⟩
  · rw [Int.mul_assoc]; omega
  · rw [Int.mul_assoc]; omega
  rw [Int.mul_assoc] at r21
  refine (v_mul (i := (k : Int)) (j := d) (val_var rfl) (val_var rfl) (fit_mul hk hd)) _ ⟨_, _, rfl, rfl, ?_⟩
  have hw : ∀ {i : Int}, i.natAbs < 1024 → i.natAbs < 2 ^ wd := fun h => Nat.lt_trans h (by decide +kernel)
  refine (val_var rfl) _ ?_
  refine ⟨r2 - (k : Int) * d, d, rfl, hw (by omega), hw (by omega), .inl ⟨d0, fun t H4 s4 e4 => ?_⟩⟩
  rw [(low_rat _ d0).1, (low_rat _ d0).2] at e4
  obtain ⟨dn, rfl⟩ : ∃ n : Nat, d = (n : Int) := ⟨d.toNat, by omega⟩
  have bdp : Bd L9 k (Rat.divInt (r2 - (k : Int) * (dn : Int)) (dn : Int)) := Bd.of (by omega) (l9_dvd dn (by omega) (by omega)) (by
    have e0 : ((k * dn : Nat) : Int) = (k : Int) * (dn : Int) := Int.natCast_mul k dn
    omega)
  exact z t H4 _ e4 (Sm.div (n := 10) d0 (by show _ < 1024; omega) (by show _ < 1024; omega)) bdp (((b1.trans (But.of (Same.new hl))).trans b2).trans (b3.trans (But.of s4))) (P3.same s4)

/-! ### the law's own polynomials -/
def listD (xs : List Rat) : PyData := .list (xs.map fun q => pr q.num (q.den : Int))
theorem lst_dp {H : Hp} {t : Addr} {xs : List Rat} (h : Lst H t xs) : Dp K H (.ref t) (listD xs) := by
  obtain ⟨vs, e, al⟩ := h
  refine .lst (SqL.of e) ?_
  clear e
  induction al with
  | nil => exact .nil
  | cons h _ ih =>
    obtain ⟨p, rfl, lo⟩ := h
    exact .cons (lo_dp lo) ih
theorem listD_shaped (xs : List Rat) : SeqAt.shaped (listD xs) = true := by
  have h := polyD_shaped xs
  unfold SeqAt.shaped polyD at h
  unfold SeqAt.shaped listD
  simpa [PyData.canLay0, PyData.depth] using h
theorem All2.take {α β : Type} {R : α → β → Prop} {as : List α} {bs : List β} (h : All2 R as bs) (n : Nat) : All2 R (as.take n) (bs.take n) := by
  refine All2.mk (by rw [List.length_take, List.length_take, h.len]) fun i a b ha hb => ?_
  rw [List.getElem?_take] at ha hb
  split at ha
  · rename_i lt
    rw [if_pos lt] at hb
    obtain ⟨b', hb', r⟩ := h.get ha
    rw [hb] at hb'
    cases hb'
    exact r
  · cases ha
theorem q_ifOr {σ : L2.St} {H : Hp} {t u : TT} {t1 tz : TS} {D : Ends} (h : t σ H fun c H1 => if c = true then (if true = true then t1 { D with nx := tz D } σ H1 else tz D σ H1) else
    u σ H1 fun b H2 => if b = true then t1 { D with nx := tz D } σ H2 else tz D σ H2) : tSeq (tIfS (tOr t u) t1 tNext) tz D σ H := h
theorem atI_m1 {xs : List V} {v : V} (h : xs[xs.length - 1]? = some v) : atI xs (-1) = some v := by
  have hl := (List.getElem?_eq_some_iff.mp h).1
  unfold atI ixN
  rw [if_neg (by decide), if_pos (by omega)]
  show xs[(-1 + (xs.length : Int)).toNat]? = some v
  rw [show (-1 + (xs.length : Int)).toNat = xs.length - 1 by omega]
  exact h
theorem Same.updN {H H1 : Hp} {a : Addr} {o : HO} (s : Same H H1) (h : H a = none) : Same H (upd H1 a o) := fun b z hb => by
  rw [upd_ne (ne_of_none hb h)]
  exact s b z hb
theorem st_bm0 {ty : String} {r : V → List V → Hp → VK → Prop} {to : TE} {x : V} {D : Ends} {σ : L2.St} {H : Hp} (h : Val to σ H x) (k : tyV K ty x H ∧ r x [] H fun _ H1 => D.nx σ H1) : tDrop (tBM0 K ty r to) D σ H := h _ k
end
end LW

/-! comprehensions over a dict whose keys are tuples -/
namespace L2
open PySem PySem.Spec PyProof.Rows GL
/-- locked, or locked by the caller -/
def tLockEO (t : TE) : TE := fun σ H Q => tLockE t σ H Q ∨ t σ H Q
theorem pe_lockEO {X : Cx} {e : Expr} {t : TE} (h : PE X e t) : PE X e (tLockEO t) := ⟨fun pins s σ H Q I hw => hw.elim (fun z => (pe_lock h).run pins s σ H Q I z) fun z => h.run pins s σ H Q I z⟩
section
variable {σ : L2.St} {H : Hp} {d : Addr} {kvs : List (List Key × V)} {i j : Nat} {te : TE} {vs : List Nat} {F : Nat → V}
theorem t_yesX {σ : L2.St} {H : Hp} {Q : Bool → Hp → Prop} (h : Q true H) : tYes σ H Q := h
theorem lcK_walk {HL : Hp} {od : Obj} {Q : VK} (hi : σ[i]? = some (some (.ref d))) (e : HL d = some (.frz od (.dT kvs))) (hn : kvs.length ≤ 1000) (hw : ∀ x, wipe ((wipe σ vs).set j (some x)) vs = wipe σ vs)
    (hs : ∀ n k v q H', kvs[n]? = some (k, v) → H' q = some (.tup (k.map kV)) → Val te ((wipe σ vs).set j (some (.ref q))) H' (F n))
    (hd : ∀ p H', L2.Same HL H' → HL p = none → H' p = some (.lst ((List.range kvs.length).map F)) → Q (.ref p) H') : tLc (iKeys (tVar i)) (gName j) tYes te vs σ HL Q := by
  refine ⟨_, hi, d, od, rfl, .inr ⟨kvs, e, fun D hD => ⟨fun n m H' => m = kvs.length - n ∧ n ≤ kvs.length ∧ (L2.Same HL H' ∧ H' D = some (.lst ((List.range n).map F))), ⟨_, rfl, Nat.zero_le _, GL.Same.new' hD, upd_same⟩, ?_⟩⟩⟩
  rintro n m H' ⟨rfl, hn2, s, eD⟩
  have q := s _ _ e
  rcases Nat.lt_or_ge n kvs.length with lt | ge
  · refine .inr ⟨⟨q, lt⟩, fun H2 => L2.Same HL H2 ∧ H2 D = some (.lst ((List.range (n + 1)).map F)), fun H2 p' => ⟨kvs.length - (n + 1), by omega, rfl, lt, p'⟩, ?_⟩
    rintro v H2 ⟨rfl, k, w, t, hk, rfl, ht⟩
    refine ⟨hw _, t_yesX ?_⟩
    refine iteT ?_
    refine hs n k w t H2 hk ht _ ⟨_, eD, by rw [List.length_map, List.length_range]; exact Nat.lt_of_le_of_lt (show n ≤ 1000 by omega) (by decide), fun b o z => ?_, ?_⟩
    · rw [upd_ne (ne_of_none z hD)]
      exact s _ _ z
    · rw [upd_same, List.range_succ, List.map_append]
      rfl
  · obtain rfl : n = kvs.length := by omega
    exact .inl ⟨⟨q, Nat.le_refl _⟩, hd D H' s hD eD⟩
/-- [e for k in d], the items values that hang on the keys alone -/
theorem l_lcKeys {Q : VK} (hi : σ[i]? = some (some (.ref d))) (rd : Rd H d (.dT kvs)) (hn : kvs.length ≤ 1000) (hw : ∀ x, wipe ((wipe σ vs).set j (some x)) vs = wipe σ vs)
    (hs : ∀ n k v q H', kvs[n]? = some (k, v) → H' q = some (.tup (k.map kV)) → Val te ((wipe σ vs).set j (some (.ref q))) H' (F n))
    (hd : ∀ p H', L2.Same H H' → H p = none → H' p = some (.lst ((List.range kvs.length).map F)) → Q (.ref p) H') : tLockEO (tLc (iKeys (tVar i)) (gName j) tYes te vs) σ H Q := by
  rcases rd with e | ⟨od, e⟩
  · refine .inl ⟨d, _, e, True.intro, fun od => ?_⟩
    have e2 : upd H d (.frz od (.dT kvs)) d = some (.frz od (.dT kvs)) := upd_same
    refine lcK_walk hi e2 hn hw hs fun p H' s np ep => ⟨s _ _ e2, ?_⟩
    have nd : p ≠ d := fun z => by rw [z, e2] at np; cases np
    refine hd p _ (fun b o z => ?_) (by rw [upd_ne nd] at np; exact np) (by rw [upd_ne nd]; exact ep)
    by_cases hb : b = d
    · rw [hb] at z ⊢
      rw [upd_same, ← e, z]
    · rw [upd_ne hb]
      exact s _ _ (by rw [upd_ne hb]; exact z)
  · exact .inr (lcK_walk hi e hn hw hs hd)
end
end L2

namespace LW
open PySem PySem.Spec PyProof.Rows L2 GL
section
variable {P : Program} {w : World} {K : PySem.W.Frag} {mg : Str → Option Value} {base : Heap}

/-! ### a number times a polynomial -/
def spVScaled : Sp := fun vs H Q _ => ∃ (d t : Addr) (L : List En) (c : Rat) (n m : Nat), vs = [.ref d, .ref t] ∧ DP H d L ∧ Lo H t c ∧ Sm m c ∧ L.length ≤ 900 ∧ SmC n L ∧ n ≤ 1000 ∧ m ≤ 1000 ∧
  ∀ (p : Addr) (H' : Hp) (M : List En), L2.Same H H' → H p = none → DW H' p M → (∀ i j, cf M i j = cf L i j * c) → (∀ e ∈ M, e.1 ∈ L.map (·.1) ∧ e.2 ≠ 0) → M.length ≤ L.length → Q (.ref p) H'
theorem ok_law_v_scaled (T : Txt K mg) : FnOk P w K mg base CX0 4 (fA mg "_law_v_scaled") (fDat K (fA mg "_law_v_scaled")) ["_law_one", "_law_by"] spVScaled := by
  have G_law_times := ok_law_times (P := P) (w := w) (base := base) T
  have G_law_v_plain := ok_law_v_plain (P := P) (w := w) (base := base) T
  refine T._law_v_scaled.F.ok sc_law_v_scaled (fun vs H Q E h => ?_) (fun cdv A outer s H vs Q E hr h => ?_)
  · obtain ⟨d, t, L, c, n, m, rfl, _⟩ := h
    rfl
  obtain ⟨d, t, L, cv, n, m, rfl, ⟨k1, rd1, de1⟩, lot, sm, ll, s1, hn, hm, k⟩ := h
  refine ⟨_, (pss_cons (ps_set (i := 2) sc_law_v_scaled.nd rfl (Or.inl rfl) pe_dnewT)
  (pss_cons (ps_lockO (ps_for PassesOwn.never rfl (pi_keys (pv 0)) (pg_name (i := 3) sc_law_v_scaled.nd rfl (Or.inl rfl))
  (pss_one (ps_dput (hu_of hr) (pv 2) (pv 3) (pe_c T._law_times G_law_times (hr.mono (by decide)) (pa_cons (pe_dget (hu_of hr) (pv 0) (pv 3) (fun _ _ => rfl)) (pa_cons (pv 1) pa_nil))) rfl))))
  (pss_one (ps_ret (pe_c T._law_v_plain G_law_v_plain (hr.mono (by decide)) (pa_cons (pv 2) pa_nil)))))), ?_⟩
  refine q_asg fun f hf => ?_
  have sf := Same.new' (o := .dT []) hf
  have rd1' := Rd.same rd1 sf
  have ne1 : d ≠ f := fun z => by
    rw [z] at rd1
    rcases rd1 with y | ⟨o, y⟩ <;> rw [hf] at y <;> cases y
  have len1 := de1.len
  refine q_keys (kvs := k1) (d := d) rfl rd1' (fun HL x σ H' => ∃ (c : Option V) (F : List En), σ = [some (.ref d), some (.ref t), some (.ref f), c] ∧ Wk (upd H f (.dT [])) HL d f k1 H' ∧ DW H' f F ∧ (∀ i j, cf F i j = cf (L.take x) i j * cv) ∧ (∀ e ∈ F, e.1 ∈ L.map (·.1)) ∧ F.length ≤ x)
    (fun HL off rdL => ?_) (fun HL x σ H' ⟨_, _, _, w, _⟩ => w.at) ?_ ?_
  · have w : Wk (upd H f (.dT [])) HL d f k1 HL := ⟨off, rdL, But.refl, ne1⟩
    refine ⟨none, [], rfl, w, ⟨[], by rw [off f (Ne.symm ne1), upd_same], .nil, by simp⟩, fun i j => ?_, (fun e he => nomatch he), Nat.zero_le _⟩
    show (0 : Rat) = 0 * _
    grind
  · rintro HL x kk v b σ H' rdL hk ⟨c, F, rfl, w, ⟨fk, ef, df⟩, hcf, hky, hln⟩ hb D' hnx hct
    obtain ⟨a, ha, ek, _, _, _⟩ := de1.1.get hk
    dsimp only at ek
    subst ek
    have xlt : x < L.length := (List.getElem?_eq_some_iff.mp ha).1
    have aL : a ∈ L := List.mem_of_getElem? ha
    have tuH : Tu H H' := (Tu.of sf).trans (w.tu upd_same rd1')
    obtain ⟨t1, va1, lo1⟩ : ∃ t, valV k1 (kN a.1) = some (.ref t) ∧ Lo H t a.2 := by
      rcases DE.val de1.1 a.1 with ⟨_, n⟩ | ⟨t, q, e1, lo, hq⟩
      · exact (n (List.mem_map.mpr ⟨a, aL, rfl⟩)).elim
      · have eq : q = a.2 := (cf_in hq de1.2).symm.trans (cf_in (k := a.1) (q := a.2) aL de1.2)
        exact ⟨t, e1, eq ▸ lo⟩
    have sa : Sm n a.2 := by
      have := cf_in (k := a.1) (q := a.2) aL de1.2
      exact this ▸ s1 _ _
    refine call_1 ((v_dgetT (val_var rfl) (val_var rfl) w.rdH hb va1) _ (va_1 (val_var rfl _ ?_)))
    refine cs_ltimes (lo1.tu tuH) (lot.tu tuH) sa sm hn hm fun t3 H5 s5 lo3 => ?_
    have ef5 := s5 _ _ ef
    refine (val_var rfl) _ ((val_var rfl) _ ⟨f, _, rfl, DPut.t ef5 (s5 _ _ hb) (Nat.lt_of_le_of_lt (show fk.length ≤ 1000 by have := df.len; omega) (by decide)), ?_⟩)
    show D'.nx _ _
    rw [hnx]
    have w4 := (w.step (But.of (p := f) s5)).step (show But f H5 (upd H5 f (.dT (putK fk (kN a.1) (.ref t3)))) from fun b o eb nb => by rw [upd_ne nb]; exact eb)
    refine ⟨_, putE F a.1 _, rfl, w4, ⟨_, upd_same, ((df.tu (Tu.of s5)).put lo3).tu (Tu.putT ef5)⟩, fun i j => ?_, fun a' ha' => ?_, Nat.le_trans len_put (by omega)⟩
    · rw [cf_put df.2, cf_take ha]
      by_cases y : a.1 = (i, j)
      · rw [if_pos y, if_pos y]
        have c0 : cf (L.take x) i j = 0 := by
          have := cf_fresh ha de1.2
          rw [y] at this
          exact this
        rw [c0]; grind
      · rw [if_neg y, if_neg y, hcf]; grind
    · rcases mem_put ha' with rfl | h
      · exact List.mem_map.mpr ⟨a, aL, rfl⟩
      · exact hky _ h
  · rintro HL σ H' ⟨c, F, rfl, w, dw, hcf, hky, hln⟩ H2 h2 hd2
    obtain ⟨b0, tu2, ff⟩ := w.fin h2 hd2
    obtain ⟨fk, ef, df⟩ := dw
    rw [len1] at hln
    have sH : L2.Same H H2 := fun b o e => b0 b o (sf _ _ e) (ne_of_none e hf)
    have df2 : DP H2 f F := ⟨fk, .inl (by rw [ff]; exact ef), df.tu tu2⟩
    refine r_ret (te := tCall _ _ _ _) (c_call (va_cons (val_var rfl) va_nil) ⟨f, F, rfl, df2, by omega, fun p H3 M s3 np dM cM mM lM => k p H3 M (sH.trans s3) ?_ dM (fun i j => ?_) (fun e he => ⟨hky e (mM e he).1, (mM e he).2⟩) (by omega)⟩)
    · exact sH.free np
    · rw [cM, hcf, len1, List.take_length]
/-! ### powers and values -/
theorem sm_rp {n : Nat} {q : Rat} (h : Sm n q) : ∀ k, Sm (n * k + 1) (rp q k)
  | 0 => ⟨by show 1 < 2 ^ (0 + 1); decide, by show 1 < 2 ^ (0 + 1); decide⟩
  | k + 1 => by
    have := (sm_rp h k).mul h
    rw [rp, Nat.mul_succ]
    exact this.mono (by omega)
theorem lo_one {H : Hp} {t : Addr} (e : H t = some (.tup [.int 1, .int 1])) : Lo H t (1 : Rat) := e
def spQPow : Sp := fun vs H Q _ => ∃ (t : Addr) (q : Rat) (n k : Nat), vs = [.ref t, .int (k : Int)] ∧ Lo H t q ∧ Sm n q ∧ n * k + 1 ≤ 900 ∧ n ≤ 900 ∧ k ≤ 1000 ∧ ∀ p H', L2.Same H H' → Lo H' p (rp q k) → Q (.ref p) H'
theorem ok_law_q_power (T : Txt K mg) : FnOk P w K mg base CX0 4 (fA mg "_law_q_power") (fDat K (fA mg "_law_q_power")) ["_law_ratio_here", "_law_many"] spQPow := by
  have G_law_times := ok_law_times (P := P) (w := w) (base := base) T
  refine T._law_q_power.F.ok sc_law_q_power (fun vs H Q E h => ?_) (fun cdv A outer s H vs Q E hr h => ?_)
  · obtain ⟨t, q, n, k, rfl, _⟩ := h
    rfl
  obtain ⟨t, q, n, k, rfl, lo, sq, hnk, hn, hk, z⟩ := h
  refine ⟨_, (pss_cons (ps_set (i := 2) sc_law_q_power.nd rfl (Or.inl rfl) (pe_tup (pa_cons pe_int (pa_cons pe_int pa_nil))))
  (pss_cons (ps_for PassesOwn.never rfl (pi_range1 (by rfl) T.range (pa_cons (pv 1) pa_nil)) (pg_name (i := 3) sc_law_q_power.nd rfl (Or.inl rfl))
  (pss_one (ps_set (i := 2) sc_law_q_power.nd rfl (Or.inl rfl) (pe_c T._law_times G_law_times (hr.mono (by decide)) (pa_cons (pv 2) (pa_cons (pv 0) pa_nil))))))
  (pss_one (ps_ret (pv 2))))), ?_⟩
  refine q_asg (l_tup (va_cons val_c (va_cons val_c va_nil)) (by decide) fun o1 ho1 => ?_)
  have s1 := Same.new' (o := .tup [.int 1, .int 1]) ho1
  refine q_forR1 (n := k) (va_cons (val_var rfl) va_nil) (by omega) (fun x σ H1 => ∃ (c : Option V) (p : Addr), σ = [some (.ref t), some (.int (k : Int)), some (.ref p), c] ∧ L2.Same H H1 ∧ Lo H1 p (rp q x)) ⟨none, o1, rfl, s1, lo_one upd_same⟩ (fun x σ H1 hx zz => ?_) (fun σ H1 zz => ?_)
  · obtain ⟨c, p, rfl, s2, lp⟩ := zz
    have b : n * x ≤ n * k := Nat.mul_le_mul_left _ (by omega)
    exact g_name (call_1 (val_var rfl _ (va_1 (val_var rfl _ (cs_ltimes lp (lo.same s2) (sm_rp sq x) sq (by omega) (by omega) fun p3 H3 s3 lo3 => ⟨_, p3, rfl, s2.trans s3, lo3⟩)))))
  · obtain ⟨c, p, rfl, s2, lp⟩ := zz
    exact st_ret (val_var rfl) (z p H1 s2 lp)
def evT (x y : Rat) (e : En) : Rat := e.2 * (rp x e.1.1 * rp y e.1.2)
def evL (L : List En) (x y : Rat) : Rat := rs (evT x y) L
theorem evL_box {L : List En} {N : Nat} (h : ∀ e ∈ L, e.1.1 ≤ N ∧ e.1.2 ≤ N) (x y : Rat) : evL L x y = ev2 N (cf L) x y :=
  rs_box (fun p => rp x p.1 * rp y p.2) (nodup_box N N) fun e he _ => mem_box.mpr (h e he)
def spVAt : Sp := fun vs H Q _ => ∃ (d a px py : Addr) (L : List En) (X Y : Rat) (n m u : Nat), vs = [.ref d, .ref a] ∧ DP H d L ∧ H a = some (.tup [.ref px, .ref py]) ∧ Lo H px X ∧ Lo H py Y ∧ (∀ e ∈ L, e.1.1 + e.1.2 ≤ u) ∧ SmC n L ∧ Sm m X ∧ Sm m Y ∧ (n + m * u + 3) * (L.length + 1) ≤ 900 ∧ m ≤ 900 ∧ u ≤ 100 ∧ L.length ≤ 100 ∧
  ∀ p H', L2.Same H H' → Lo H' p (evL L X Y) → Q (.ref p) H'
theorem ok_law_v_at (T : Txt K mg) : FnOk P w K mg base CX0 5 (fA mg "_law_v_at") (fDat K (fA mg "_law_v_at")) ["_law_one", "_law_place_here"] spVAt := by
  have G_law_times := ok_law_times (P := P) (w := w) (base := base) T
  have G_law_plus := ok_law_plus (P := P) (w := w) (base := base) T
  have G_law_q_power := ok_law_q_power (P := P) (w := w) (base := base) T
  refine T._law_v_at.F.ok sc_law_v_at (fun vs H Q E h => ?_) (fun cdv A outer s H vs Q E hr h => ?_)
  · obtain ⟨d, a, px, py, L, X, Y, n, m, u, rfl, _⟩ := h
    rfl
  obtain ⟨d, a, px, py, L, X, Y, n, m, u, rfl, ⟨k1, rd1, de1⟩, ea, lx, ly, hu, s1, sx, sy, hb, m9, hu9, hL, z⟩ := h
  refine ⟨_, (pss_cons (ps_set (i := 2) sc_law_v_at.nd rfl (Or.inl rfl) (pe_tup (pa_cons pe_int (pa_cons pe_int pa_nil))))
  (pss_cons (ps_lockO (ps_for PassesOwn.never rfl (pi_keys (pv 0)) (pg_name (i := 3) sc_law_v_at.nd rfl (Or.inl rfl))
  (pss_cons (ps_set (i := 4) sc_law_v_at.nd rfl (Or.inl rfl) (pe_c T._law_times G_law_times (hr.mono (by decide)) (pa_cons (pe_c T._law_q_power G_law_q_power (hr.mono (by decide)) (pa_cons (pe_ix ix_tup (pv 1) pe_int (fun _ _ => rfl)) (pa_cons (pe_ix ix_tup (pv 3) pe_int (fun _ _ => rfl)) pa_nil))) (pa_cons (pe_c T._law_q_power G_law_q_power (hr.mono (by decide)) (pa_cons (pe_ix ix_tup (pv 1) pe_int (fun _ _ => rfl)) (pa_cons (pe_ix ix_tup (pv 3) pe_int (fun _ _ => rfl)) pa_nil))) pa_nil))))
  (pss_one (ps_set (i := 2) sc_law_v_at.nd rfl (Or.inl rfl) (pe_c T._law_plus G_law_plus (hr.mono (by decide)) (pa_cons (pv 2) (pa_cons (pe_c T._law_times G_law_times (hr.mono (by decide)) (pa_cons (pe_dget (hu_of hr) (pv 0) (pv 3) (fun _ _ => rfl)) (pa_cons (pv 4) pa_nil))) pa_nil))))))))
  (pss_one (ps_ret (pv 2))))), ?_⟩
  have len1 := de1.len
  refine q_asg (l_tup (va_cons val_c (va_cons val_c va_nil)) (by decide) fun o1 ho1 => ?_)
  have s0 := Same.new' (o := .tup [.int 0, .int 1]) ho1
  have lo0 : Lo (upd H o1 (.tup [.int 0, .int 1])) o1 0 := zero_lo upd_same
  revert s0 lo0
  generalize upd H o1 (.tup [.int 0, .int 1]) = H0
  intro s0 lo0
  have rd0 := Rd.same rd1 s0
  have de0 := de1.tu (Tu.of s0)
  have nd : ∀ {HL : Hp}, (∀ b, b ≠ d → HL b = H0 b) → Tu H0 HL := fun {HL} off b xs e => by
    rw [off b (fun y => by
      rw [y] at e
      rcases rd0 with q | ⟨o, q⟩ <;> rw [e] at q <;> cases q)]
    exact e
  refine q_keys (kvs := k1) (d := d) rfl rd0 (fun HL x σ H' => ∃ (c c2 : Option V) (t : Addr), σ = [some (.ref d), some (.ref a), some (.ref t), c, c2] ∧ (∀ b, b ≠ d → HL b = H0 b) ∧ Rd HL d (.dT k1) ∧ L2.Same HL H' ∧ Lo H' t (evL (L.take x) X Y) ∧ Sm ((n + m * u + 3) * x + 1) (evL (L.take x) X Y))
    (fun HL off rdL => ⟨none, none, o1, rfl, off, rdL, L2.Same.refl _, lo0.tu (nd off), Sm.zero (by omega)⟩) (fun HL x σ H' ⟨_, _, _, _, _, rdL, s, _⟩ => ?_) ?_ ?_
  · rcases rdL with q | ⟨o, q⟩ <;> rw [q] <;> exact s _ _ q
  · rintro HL x kk v b σ H' rdL hk ⟨c, c2, t, rfl, off, _, sL, lt, st⟩ hb2 D' hnx hct
    obtain ⟨e, he, ek, _, _, _⟩ := de1.1.get hk
    dsimp only at ek
    subst ek
    have xlt : x < L.length := (List.getElem?_eq_some_iff.mp he).1
    have eL : e ∈ L := List.mem_of_getElem? he
    have tuH : Tu H H' := ((Tu.of s0).trans (nd off)).trans (Tu.of sL)
    obtain ⟨t1, va1, lo1⟩ : ∃ t, valV k1 (kN e.1) = some (.ref t) ∧ Lo H t e.2 := by
      rcases DE.val de1.1 e.1 with ⟨_, n⟩ | ⟨t, q, e1, lo, hq⟩
      · exact (n (List.mem_map.mpr ⟨e, eL, rfl⟩)).elim
      · have eq : q = e.2 := (cf_in hq de1.2).symm.trans (cf_in (k := e.1) (q := e.2) eL de1.2)
        exact ⟨t, e1, eq ▸ lo⟩
    have sa : Sm n e.2 := by
      have := cf_in (k := e.1) (q := e.2) eL de1.2
      exact this ▸ s1 _ _
    have eu := hu e eL
    have mu : m * (e.1.1 + e.1.2) ≤ m * u := Nat.mul_le_mul_left _ eu
    rw [Nat.mul_add] at mu
    have hx1 : (n + m * u + 3) * (x + 1) ≤ (n + m * u + 3) * (L.length + 1) := Nat.mul_le_mul_left _ (by omega)
    have hx2 : (n + m * u + 3) * (x + 1) = (n + m * u + 3) * x + (n + m * u + 3) := Nat.mul_succ _ _
    have ea' := tuH _ _ ea
    refine q_asg (call_1 (call_1 ((v_ixT (n := 0) (v := .ref px) (val_var rfl) val_c (SqT.of ea') rfl) _ (va_1 ((v_ixT (n := 0) (v := .int (e.1.1 : Int)) (val_var rfl) val_c (SqT.of hb2) rfl) _ ?_)))))
    refine ⟨px, X, m, e.1.1, rfl, lx.tu tuH, sx, by omega, m9, by omega, fun p1 H1 s2 l1 => va_1 (call_1 ((v_ixT (n := 1) (v := .ref py) (val_var rfl) val_c (SqT.of (s2 _ _ ea')) rfl) _ (va_1 ((v_ixT (n := 1) (v := .int (e.1.2 : Int)) (val_var rfl) val_c (SqT.of (s2 _ _ hb2)) rfl) _ ?_))))⟩
    refine ⟨py, Y, m, e.1.2, rfl, (ly.tu tuH).same s2, sy, by omega, m9, by omega, fun p2 H2 s3 l2 => ?_⟩
    have s1t := sm_rp sx e.1.1
    have s2t := sm_rp sy e.1.2
    refine cs_ltimes (l1.same s3) l2 s1t s2t (by omega) (by omega) fun p3 H3 s4 l3 => ?_
    have s24 := (s2.trans s3).trans s4
    refine call_1 (val_var rfl _ (va_1 (call_1 ((v_dgetT (val_var rfl) (val_var rfl) (Rd.same (Rd.same rdL sL) s24) (s24 _ _ hb2) va1) _ (va_1 (val_var rfl _ ?_))))))
    refine cs_ltimes ((lo1.tu tuH).same s24) l3 sa (s1t.mul s2t) (by omega) (by omega) fun p4 H4 s5 l4 => ?_
    refine cs_lplus ((lt.same s24).same s5) l4 st (sa.mul (s1t.mul s2t)) (by omega) (by omega) fun p5 H5 s6 l5 => ?_
    show D'.nx _ _
    rw [hnx]
    have ev1 : evL (L.take (x + 1)) X Y = evL (L.take x) X Y + e.2 * (rp X e.1.1 * rp Y e.1.2) := by
      unfold evL
      rw [List.take_add_one, he, rs_app]
      show _ + (evT X Y e + 0) = _
      unfold evT
      grind
    refine ⟨_, _, p5, rfl, off, rdL, (((sL.trans s24).trans s5).trans s6), by rw [ev1]; exact l5, ?_⟩
    rw [ev1]
    exact (st.add (sa.mul (s1t.mul s2t))).mono (by omega)
  · rintro HL σ H' ⟨c, c2, t, rfl, off, rdL, sL, lt, st⟩ H2 h2 hd2
    have s2 : L2.Same H H2 := fun b o e => by
      have e0 := s0 _ _ e
      by_cases y : b = d
      · rw [y, hd2, ← y]
        exact e0
      · rw [h2 b y]
        exact sL _ _ (by rw [off b y]; exact e0)
    have lt2 : Lo H2 t (evL L X Y) := by
      rw [len1, List.take_length] at lt
      refine (?_ : H2 t = _)
      rw [h2 t (fun y => by
        have z1 := lt
        unfold Lo at z1
        rw [y] at z1
        rcases rdL with q | ⟨o, q⟩ <;> · have := sL _ _ q; rw [z1] at this; cases this)]
      exact lt
    exact st_ret (val_var rfl) (z t H2 s2 lt2)
end
end LW

namespace LW
open PySem PySem.Spec PyProof.Rows L2 GL
section
variable {P : Program} {w : World} {K : PySem.W.Frag} {mg : Str → Option Value} {base : Heap}




/-! ### degrees -/
end
end LW

namespace LW
open PySem PySem.Spec PyProof.Rows L2 GL
section
variable {P : Program} {w : World} {K : PySem.W.Frag} {mg : Str → Option Value} {base : Heap}

/-! ### degrees, rows -/
theorem range_get {α β : Type} {L : List α} {f : Option α → β} {h : α → β} (e : ∀ a ∈ L, f (some a) = h a) : (List.range L.length).map (fun n => f L[n]?) = L.map h := by
  refine List.ext_getElem (by rw [List.length_map, List.length_map, List.length_range]) fun i h1 h2 => ?_
  rw [List.length_map, List.length_range] at h1
  rw [List.getElem_map, List.getElem_map, List.getElem_range, List.getElem?_eq_getElem h1]
  exact e _ (List.getElem_mem h1)
def oV (h : En → V) : Option En → V
  | some e => h e
  | none => .non
def nz (L : List En) : Prop := ∀ e ∈ L, e.2 ≠ 0
theorem cf_mem {L : List En} {i j : Nat} (h : cf L i j ≠ 0) : ∃ e ∈ L, e.1 = (i, j) := by
  by_cases z : (i, j) ∈ L.map (·.1)
  · obtain ⟨e, he, ee⟩ := List.mem_map.mp z
    exact ⟨e, he, ee⟩
  · exact (h (cf_out z)).elim
theorem key_at {H : Hp} {kvs : List (List Key × V)} {L : List En} (de : DE H kvs L) {n : Nat} {k : List Key} {v : V} (h : kvs[n]? = some (k, v)) : ∃ e, L[n]? = some e ∧ k = kN e.1 := by
  obtain ⟨e, he, ek, _⟩ := de.1.get h
  exact ⟨e, he, ek⟩
/-- a list of lists of told ratios -/
def LsL (H : Hp) (l : Addr) (R : List (List Rat)) : Prop := ∃ us, H l = some (.lst us) ∧ All2 (fun v r => ∃ a, v = V.ref a ∧ LosL H a r) us R
def gridR (L : List En) (w h : Nat) : List (List Rat) := (List.range w).map fun i => (List.range h).map (cf L i)
structure Cov (L : List En) (w h B : Nat) : Prop where
  out : ∀ e ∈ L, e.1.1 < w ∧ e.1.2 < h
  top : w = 0 ∨ ∃ e ∈ L, e.1.1 + 1 = w
  wB : w ≤ B
  hB : h ≤ B
theorem max_keys {f : En → Nat} {L : List En} {Q : VK} {H : Hp} {l : Addr} (e : H l = some (.lst (V.int 0 :: L.map fun e : En => V.int ((f e : Int) + 1)))) (q : ∀ w : Nat, (∀ e ∈ L, f e < w) → (w = 0 ∨ ∃ e ∈ L, f e + 1 = w) → Q (.int (w : Int)) H) : rMax K [.ref l] H Q := by
  refine ⟨l, 0 :: L.map fun e : En => ((f e : Int) + 1), rfl, SqL.of (by rw [e, List.map_cons, List.map_map]; rfl), by simp, fun m hm hx => ?_⟩
  have ge : ∀ e ∈ L, (f e : Int) + 1 ≤ m := fun e he => hx _ (List.mem_cons_of_mem _ (List.mem_map.mpr ⟨e, he, rfl⟩))
  rcases List.mem_cons.mp hm with rfl | hm
  · exact q 0 (fun e he => by have := ge e he; omega) (.inl rfl)
  · obtain ⟨e, he, rfl⟩ := List.mem_map.mp hm
    exact q (f e + 1) (fun e' he' => by have := ge e' he'; omega) (.inr ⟨e, he, rfl⟩)
theorem v_maxkeys {f : En → Nat} {L : List En} {kvs : List (List Key × V)} {σ : L2.St} {H : Hp} {d : Addr} {i j n0 : Nat} {vs : List Nat} {Q : VK} (hi : σ[i]? = some (some (.ref d))) (rd : Rd H d (.dT kvs)) (de : DE H kvs L) (hl : L.length ≤ 900) (hw : ∀ x, wipe ((wipe σ vs).set j (some x)) vs = wipe σ vs) (hj : j < (wipe σ vs).length)
    (hf : ∀ e : En, [V.int (e.1.1 : Int), V.int (e.1.2 : Int)][n0]? = some (V.int (f e : Int))) (q : ∀ (w : Nat) H', L2.Same H H' → (∀ e ∈ L, f e < w) → (w = 0 ∨ ∃ e ∈ L, f e + 1 = w) → Q (.int (w : Int)) H') :
    tCB (rMax K) (tCons (tOp rCat (tLst (tCons (tC (.int 0)) tNil)) (tLockEO (tLc (iKeys (tVar i)) (gName j) tYes (tOp (rI0 fun i j => .int (i + j)) (tOp (rIxT K) (tVar j) (tC (.int (n0 : Int)))) (tC (.int 1))) vs))) tNil) σ H Q := by
  have lk := de.len
  refine cb_one (op_in (l_lst (va_cons val_c va_nil) (by decide) fun l1 h1 => ?_))
  have s0 := Same.new' (o := .lst [.int 0]) h1
  refine l_lcKeys (kvs := kvs) (F := fun n => oV (fun e : En => V.int ((f e : Int) + 1)) L[n]?) hi (Rd.same rd s0) (by omega) hw (fun n k v t H' hk ht => ?_) (fun p H' s np ep => ?_)
  · obtain ⟨e, he, rfl⟩ := key_at de hk
    rw [he]
    exact v_add (v_ixT (n := n0) (v := .int (f e : Int)) (val_var (by rw [List.getElem?_set_self hj])) val_c (SqT.of ht) (hf e)) val_c
  · rw [lk, range_get (f := oV (fun e : En => V.int ((f e : Int) + 1))) (h := fun e : En => V.int ((f e : Int) + 1)) (fun a _ => rfl)] at ep
    refine ⟨l1, p, [.int 0], L.map fun e : En => V.int ((f e : Int) + 1), rfl, rfl, s _ _ upd_same, ep, by rw [List.length_map]; exact Nat.le_trans (show 1 + L.length ≤ 1000 by omega) (by decide), fun l2 h2 => ?_⟩
    have s2 := Same.new' (o := .lst ([.int 0] ++ L.map fun e : En => V.int ((f e : Int) + 1))) h2
    exact max_keys (L := L) (by rw [upd_same]; rfl) fun w h1 h2 => q w _ ((s0.trans s).trans s2) h1 h2
theorem em_getV {td ta tb : TE} {σ : L2.St} {H : Hp} {d : Addr} {M : List En} {i j : Nat} (h : Val td σ H (.ref d)) (dp : DP H d M) (ha : Val ta σ H (.int (i : Int))) (hb : ∀ {H'}, Val tb σ H' (.int (j : Int))) :
    EM (tDGet2 td (tTup (tCons ta (tCons tb tNil))) (tTup (tCons (tC (.int 0)) (tCons (tC (.int 1)) tNil)))) σ H (fun v H' => ∃ p, v = .ref p ∧ Lo H' p (cf M i j)) := fun Q q => by
  obtain ⟨kvs, rd, de⟩ := dp
  refine h _ ⟨d, rfl, .inr ⟨kvs, rd⟩, l_tup (va_cons ha (va_cons hb va_nil)) (by show 2 ≤ 100000; decide) fun b hb => l_tup (va_cons val_c (va_cons val_c va_nil)) (by show 2 ≤ 100000; decide) fun t0 h0 => ?_⟩
  have s1 := Same.new' (o := .tup [.int (i : Int), .int (j : Int)]) hb
  have s2 := Same.new' (o := .tup [.int 0, .int 1]) h0
  have S := s1.trans s2
  obtain ⟨t, e, lo⟩ := (de.tu (Tu.of S)).getD (i, j) (zero_lo (H := upd (upd H b (.tup [.int (i : Int), .int (j : Int)])) t0 (.tup [.int 0, .int 1])) upd_same)
  refine ⟨_, .inr ⟨kvs, kN (i, j), b, Rd.same rd S, rfl, s2 _ _ (by rw [upd_same]; rfl), rfl⟩, ?_⟩
  rw [e]
  exact q _ _ S ⟨t, rfl, lo⟩
def spVRows : Sp := fun vs H Q _ => ∃ (d : Addr) (L : List En) (B : Nat), vs = [.ref d] ∧ DP H d L ∧ Bx B L ∧ L.length ≤ 900 ∧ B ≤ 100 ∧ ∀ p H' w h, L2.Same H H' → H p = none → LsL H' p (gridR L w h) → Cov L w h B → Q (.ref p) H'
theorem ok_law_v_rows (T : Txt K mg) : FnOk P w K mg base CX0 1 (fA mg "_law_v_rows") (fDat K (fA mg "_law_v_rows")) ["_law_one"] spVRows := by
  refine T._law_v_rows.F.ok sc_law_v_rows (fun vs H Q E h => ?_) (fun cdv A outer s H vs Q E hr h => ?_)
  · obtain ⟨d, L, B, rfl, _⟩ := h
    rfl
  obtain ⟨d, L, B, rfl, dp, bx, hl, hB, q⟩ := h
  refine ⟨_, (pss_cons (ps_set (i := 1) sc_law_v_rows.nd rfl (Or.inl rfl) (pe_callB (cr_max rfl) (by rfl) T.max (by decide +kernel) (pa_cons (pe_op op_cat (pe_lst (pa_cons pe_int pa_nil)) (pe_lockEO (pe_lc (own := [("_law_spot", 2)]) (g := gName 2) (tt := tYes) (by rfl) sc_law_v_rows.nd (pi_keys (pv 0)) (blkOk_by (own := [("_law_spot", 2)]) (N := ["_law_one", "_law_wide", "_law_spot", "_law_high", "_law_j", "_law_i"]) (sc := defScope s_law_v_rows) (by decide +kernel)) (fun _ _ _ _ _ => pg_name (i := 2) sc_law_v_rows.nd rfl (Or.inl rfl)) (fun _ _ _ _ _ => pts_nil) (fun _ _ _ _ _ => (pe_op op_add (pe_ix (show IxR _ (rIxT K) from ix_tup) (pv 2) pe_int (fun _ _ => rfl)) pe_int))))) pa_nil)))
  (pss_cons (ps_set (i := 3) sc_law_v_rows.nd rfl (Or.inr rfl) (pe_callB (cr_max rfl) (by rfl) T.max (by decide +kernel) (pa_cons (pe_op op_cat (pe_lst (pa_cons pe_int pa_nil)) (pe_lockEO (pe_lc (own := [("_law_spot", 2)]) (g := gName 2) (tt := tYes) (by rfl) sc_law_v_rows.nd (pi_keys (pv 0)) (blkOk_by (own := [("_law_spot", 2)]) (N := ["_law_one", "_law_wide", "_law_spot", "_law_high", "_law_j", "_law_i"]) (sc := defScope s_law_v_rows) (by decide +kernel)) (fun _ _ _ _ _ => pg_name (i := 2) sc_law_v_rows.nd rfl (Or.inl rfl)) (fun _ _ _ _ _ => pts_nil) (fun _ _ _ _ _ => (pe_op op_add (pe_ix (show IxR _ (rIxT K) from ix_tup) (pv 2) pe_int (fun _ _ => rfl)) pe_int))))) pa_nil)))
  (pss_one (ps_ret (pe_lc (own := [("_law_i", 5)]) (g := gName 5) (tt := tYes) (by rfl) sc_law_v_rows.nd (pi_range1 (by rfl) T.range (pa_cons (pv 1) pa_nil)) (blkOk_by (own := [("_law_i", 5)]) (N := ["_law_one", "_law_wide", "_law_spot", "_law_high", "_law_j", "_law_i"]) (sc := defScope s_law_v_rows) (by decide +kernel)) (fun _ _ _ _ _ => pg_name (i := 5) sc_law_v_rows.nd rfl (Or.inr rfl)) (fun _ _ _ _ _ => pts_nil) (fun _ _ _ _ _ => (pe_lc (own := [("_law_j", 4)]) (g := gName 4) (tt := tYes) (by rfl) sc_law_v_rows.nd (pi_range1 (by rfl) T.range (pa_cons (pv 3) pa_nil)) (blkOk_in (own := [("_law_j", 4)]) (N := ["_law_one", "_law_wide", "_law_spot", "_law_high", "_law_j", "_law_i"]) (defScope s_law_v_rows) rfl (by decide +kernel)) (fun _ _ _ _ _ => pg_name (i := 4) sc_law_v_rows.nd rfl (Or.inl rfl)) (fun _ _ _ _ _ => pts_nil) (fun _ _ _ _ _ => (pe_dget2 (hu_of hr) (pv 0) (pe_tup (pa_cons (pv 5) (pa_cons (pv 4) pa_nil))) (pe_tup (pa_cons pe_int (pa_cons pe_int pa_nil))) ⟨by rfl, by rfl, by rfl, by rfl⟩))))))))), ?_⟩
  have dp2 := dp
  obtain ⟨kvs, rd, de⟩ := dp2
  refine q_asg (v_maxkeys (f := fun e => e.1.1) (n0 := 0) rfl rd de hl (fun _ => rfl) (by show 2 < 6; decide) (fun e => rfl) fun wd H1 s1 w1 w2 => ?_)
  refine q_asg (v_maxkeys (f := fun e => e.1.2) (n0 := 1) rfl (Rd.same rd s1) (de.tu (Tu.of s1)) hl (fun _ => rfl) (by show 2 < 6; decide) (fun e => rfl) fun ht H2 s2 h1 h2 => ?_)
  have s12 := s1.trans s2
  have wB : wd ≤ B := by
    rcases w2 with rfl | ⟨e, he, rfl⟩
    · exact Nat.zero_le _
    · exact (bx e he).1
  have hB2 : ht ≤ B := by
    rcases h2 with rfl | ⟨e, he, rfl⟩
    · exact Nat.zero_le _
    · exact (bx e he).2
  refine r_ret (d_lcR (n := wd) (R := RwL fun i => (List.range ht).map (cf L i)) (rwl_st _) (rwl_off _) (va_cons (val_var rfl) va_nil) (by omega) (fun D i H3 hi s3 eD => turn_name rfl fun Q' q' => ?_) (fun p zs H3 s3 np e3 r3 => q p H3 wd ht (s12.trans s3) (s12.free np) ⟨zs, e3, All2.mk (by unfold gridR; rw [r3.2, List.length_map, List.length_range]) fun i v r hv hr2 => ?_⟩ ⟨fun e he => ⟨w1 e he, h1 e he⟩, w2, wB, hB2⟩))
  · obtain ⟨ys, eD⟩ := eD
    refine d_lcR (n := ht) (R := Itm ((List.range ht).map (cf L i))) (itm_st _) (itm_off _) (va_cons (val_var rfl) va_nil) (by omega) (fun D2 j H4 hj s4 _ => turn_name rfl fun Q2 q2 => ?_) (fun l2 ws H4 s4 n4 e4 r4 => q' _ H4 s4 ⟨l2, rfl, ne_of_some eD n4, itm_los e4 r4 (by rw [List.length_map, List.length_range])⟩)
    refine em_getV (i := i) (j := j) (val_var rfl) ((dp.same s12).same (s3.trans s4)) (val_var rfl) (val_var rfl) _ fun v H5 s5 ⟨p5, ev, lo5⟩ => q2 v H5 s5 ⟨p5, cf L i j, ev, by rw [List.getElem?_map, List.getElem?_range hj]; rfl, lo5⟩
  · have hi : i < wd := by rw [← r3.2]; exact (List.getElem?_eq_some_iff.mp hv).1
    obtain ⟨a, rfl, _, lz⟩ := r3.1.get hv
    rw [Nat.zero_add] at lz
    unfold gridR at hr2
    rw [List.getElem?_map, List.getElem?_range hi] at hr2
    cases hr2
    exact ⟨a, rfl, lz⟩
end
end LW

namespace LW
open PySem PySem.Spec PyProof.Rows L2 GL
section
variable {P : Program} {w : World} {K : PySem.W.Frag} {mg : Str → Option Value} {base : Heap}
/-! ### what the rows are due to be -/
theorem rowAt_range {w : Nat} {F : Nat → List Rat} (i : Nat) : rowAt ((List.range w).map F) i = if i < w then F i else [] := by
  split
  · rename_i h
    exact rowAt_some (by rw [List.getElem?_map, List.getElem?_range h]; rfl)
  · exact rowAt_none (by rw [List.length_map, List.length_range]; omega)
theorem cov_cf {L : List En} {w h B : Nat} (c : Cov L w h B) {i j : Nat} (z : cf L i j ≠ 0) : i < w ∧ j < h := by
  obtain ⟨e, he, ee⟩ := cf_mem z
  have := c.out e he
  rw [ee] at this
  exact this
theorem cf2_grid2 {L : List En} {w h B : Nat} (c : Cov L w h B) (i j : Nat) : co (if i < w then (List.range h).map (cf L i) else []) j = cf L i j := by
  by_cases z : cf L i j = 0
  · rw [z]
    split
    · rw [co_range, z]
      split <;> rfl
    · exact co_none (Nat.zero_le j)
  · obtain ⟨h1, h2⟩ := cov_cf c z
    rw [if_pos h1, co_range, if_pos h2]
theorem cf2_gridR {L : List En} {w h B : Nat} (c : Cov L w h B) (i j : Nat) : cf2 (gridR L w h) i j = cf L i j := by
  unfold cf2 gridR
  rw [rowAt_range, ← cf2_grid2 c i j]
end
end LW

namespace LW
open PySem PySem.Spec PyProof.Rows L2 GL
section
variable {P : Program} {w : World} {K : PySem.W.Frag} {mg : Str → Option Value} {base : Heap}
/-! ### comprehensions that draw from the pen -/
section
variable {σ : L2.St} {H : Hp} {te ti : TE} {ta : TA} {vs : List Nat} {Q : VK} {a p c : Addr} {xs : List V} {R : Addr → Nat → V → Hp → Prop} {m k j : Nat}
def EB (p c : Addr) (te : TE) (σ : L2.St) (H : Hp) (m : Nat) (R : V → Hp → Prop) : Prop := ∀ Q : VK, (∀ v H', But p H H' → PenAt H' p c m → R v H' → Q v H') → te σ H Q
def BuS (R : Addr → Nat → V → Hp → Prop) : Prop := ∀ D i v H H' p c m, R D i v H → PenAt H p c m → But p H H' → R D i v H'
def OffD (R : Addr → Nat → V → Hp → Prop) : Prop := ∀ D i v H ys zs, R D i v H → H D = some (.lst ys) → R D i v (upd H D (.lst zs))
def LcB (R : Addr → Nat → V → Hp → Prop) (p c : Addr) (H : Hp) (m k : Nat) (D : Addr) (i : Nat) (H' : Hp) : Prop := ∃ ys, But p H H' ∧ PenAt H' p c (m + k * i) ∧ H' D = some (.lst ys) ∧ H D = none ∧ Run (R D) 0 ys H' ∧ ys.length = i
theorem Run.map {R S : Nat → V → Hp → Prop} {H H' : Hp} (f : ∀ k v, R k v H → S k v H') : ∀ {k : Nat} {xs : List V}, Run R k xs H → Run S k xs H'
  | _, [], _ => trivial
  | _, _ :: _, ⟨x, y⟩ => ⟨f _ _ x, Run.map f y⟩
theorem PenAt.updN {H H0 : Hp} {D : Addr} {ys zs : List V} {m0 : Nat} (P : PenAt H p c m) (P0 : PenAt H0 p c m0) (n0 : H0 D = none) (e : H D = some (.lst ys)) : PenAt (upd H D (.lst zs)) p c m := by
  obtain ⟨kvs, hd⟩ := P.dk
  obtain ⟨_, _, _, _, ns, _, hc, _⟩ := P0
  refine P.off (fun o h => ?_) (fun o h => ?_)
  · rw [upd_ne (ne_of hd e (by intro z; cases z))]
    exact h
  · rw [upd_ne (ne_of_none hc n0)]
    exact h
theorem lcB_0 {D : Addr} (P0 : PenAt H p c m) (hD : H D = none) : LcB R p c H m k D 0 (upd H D (.lst [])) := ⟨[], But.of (Same.new' hD), P0.same (Same.new' hD), upd_same, hD, trivial, rfl⟩
theorem lcB_step (bu : BuS R) (of : OffD R) {x : V} {i : Nat} {D : Addr} {H1 : Hp} (P0 : PenAt H p c m) (b : LcB R p c H m k D i H1) (hn : i < 10000) (hw : wipe ((wipe σ vs).set j (some x)) vs = wipe σ vs)
    (ht : But p H H1 → PenAt H1 p c (m + k * i) → H D = none → (∃ ys, H1 D = some (.lst ys)) → EB p c te ((wipe σ vs).set j (some x)) H1 (m + k * (i + 1)) (R D i)) :
    gName j x (wipe σ vs) H1 fun σ2 H2 => wipe σ2 vs = wipe σ vs ∧ tYes σ2 H2 fun b H3 => if b = true then te σ2 H3 fun y H4 => ∃ acc, H4 D = some (.lst acc) ∧ acc.length < sizeLine ∧ LcB R p c H m k D (i + 1) (upd H4 D (.lst (acc ++ [y]))) else LcB R p c H m k D (i + 1) H3 := by
  obtain ⟨ys, bb, P, eD, nD, r, len⟩ := b
  refine g_name ⟨hw, ?_⟩
  show (if true = true then te _ _ _ else LcB R p c H m k D (i + 1) H1)
  rw [if_pos rfl]
  refine ht bb P nD ⟨ys, eD⟩ _ fun v H4 b4 P4 rv => ?_
  obtain ⟨kvs, hd⟩ := P.dk
  have e4 := b4 _ _ eD (ne_of eD hd (by intro z; cases z))
  refine ⟨ys, e4, by rw [len]; exact Nat.lt_of_lt_of_le hn (by decide), ys ++ [v], fun b o z hb => ?_, P4.updN P0 nD e4, upd_same, nD, ?_, by rw [List.length_append, len]; rfl⟩
  · rw [upd_ne (ne_of_none z nD)]
    exact b4 _ _ (bb _ _ z hb) hb
  · refine Run.map (fun k v h => of D k v _ _ _ h e4) (Run.app (Run.map (fun k v h => bu D k v _ _ _ _ _ h P b4) r) ⟨?_, trivial⟩)
    rw [len, Nat.zero_add]
    exact rv
theorem l_lcBL (bu : BuS R) (of : OffD R) (P0 : PenAt H p c m) (h : Val ti σ H (.ref a)) (hx : SqL K H a xs) (hn : xs.length ≤ 10000) (hw : ∀ x, wipe ((wipe σ vs).set j (some x)) vs = wipe σ vs)
    (hs : ∀ D i x H1, xs[i]? = some x → But p H H1 → PenAt H1 p c (m + k * i) → H D = none → (∃ ys, H1 D = some (.lst ys)) → EB p c te ((wipe σ vs).set j (some x)) H1 (m + k * (i + 1)) (R D i))
    (q : ∀ D ys H', But p H H' → PenAt H' p c (m + k * xs.length) → H D = none → H' D = some (.lst ys) → Run (R D) 0 ys H' → ys.length = xs.length → Q (.ref D) H') : tLc (iList K ti) (gName j) tYes te vs σ H Q := by
  obtain ⟨kvs, hd⟩ := P0.dk
  exact h _ ⟨a, rfl, ⟨xs, hx⟩, fun D hD => lc_list (K := K) (a := a) (xs := xs) (LcB R p c H m k D) (lcB_0 P0 hD) (fun i H1 _ b => b.choose_spec.1.seq hd hx) (fun i x H1 e b => lcB_step bu of P0 b (by
    have := (List.getElem?_eq_some_iff.mp e).1
    omega) (hw x) (hs D i x H1 e)) (fun H1 ⟨ys, b, P, e, nD, r, l⟩ => q D ys H1 b P nD e r l)⟩
theorem rngB (bu : BuS R) (of : OffD R) (P0 : PenAt H p c m) {n : Int} (h0 : 0 ≤ n) (hn : n ≤ 10000) (hw : ∀ x, wipe ((wipe σ vs).set j (some x)) vs = wipe σ vs)
    (hs : ∀ D i x H1, i < n.toNat → But p H H1 → PenAt H1 p c (m + k * i) → H D = none → (∃ ys, H1 D = some (.lst ys)) → EB p c te ((wipe σ vs).set j (some x)) H1 (m + k * (i + 1)) (R D i))
    (q : ∀ D ys H', But p H H' → PenAt H' p c (m + k * n.toNat) → H D = none → H' D = some (.lst ys) → Run (R D) 0 ys H' → ys.length = n.toNat → Q (.ref D) H') : tLc (fun _ H R => R (Itr 0 n.toNat) H) (gName j) tYes te vs σ H Q :=
  fun D hD => lc_range (lo := 0) (n := n.toNat) (LcB R p c H m k D) (lcB_0 P0 hD) (fun i H1 hi b => lcB_step bu of P0 b (by omega) (hw _) (hs D i _ H1 hi)) (fun H1 ⟨ys, b, P, e, nD, r, l⟩ => q D ys H1 b P nD e r l)
theorem l_rngU {g : TG} {tt : TT} (h : ta σ H fun ws H1 => ∃ j : Int, ws = [.int j] ∧ -(2 ^ 62) ≤ j ∧ j < 2 ^ 62 ∧ tLc (fun _ H R => R (Itr 0 j.toNat) H) g tt te vs σ H1 Q) : tLc (iRng1 ta) g tt te vs σ H Q := h
end

theorem Rq.but {H H' : Hp} {p c : Addr} {m : Nat} {v : V} {q : Rat} (h : Rq H v q) (P : PenAt H p c m) (b : But p H H') : Rq H' v q := by
  obtain ⟨kvs, hd⟩ := P.dk
  obtain ⟨i, j, r, f, e⟩ := h
  refine ⟨i, j, ?_, f, e⟩
  cases r with
  | int i => exact .int i
  | pair h hj =>
    refine .pair ?_ hj
    rcases h with h | h
    · exact .inl (b _ _ h (ne_of h hd (by intro z; cases z)))
    · exact .inr (b _ _ h (ne_of h hd (by intro z; cases z)))
def Fin (q : Rat) : Prop := q.num.natAbs ≤ 10 ^ 18 ∧ q.den ≤ 10 ^ 18
theorem Lo.low {H : Hp} {t : Addr} {q : Rat} (h : Lo H t q) (f : Fin q) : Low H t q.num (q.den : Int) := by
  have d := q.den_pos
  refine ⟨h, by omega, ?_, f.1, by have := f.2; omega⟩
  unfold gI
  rw [Int.natAbs_natCast]
  exact congrArg Nat.cast q.reduced
theorem c_passed {H : Hp} {p c t : Addr} {m : Nat} {q : Rat} {ta : TA} {σ : L2.St} {Q : VK} {E : XK} (h : VA ta σ H [.ref p, .ref t]) (P : PenAt H p c m) (hm : m + 3 < most) (lo : Lo H t q) (f : Fin q) (k : ∀ v H', But p H H' → PenAt H' p c (m + 3) → Rq H' v q → (∀ x, v = .ref x → H x = none) → Q v H') : tCall spPassed [] E ta σ H Q :=
  c_call h ⟨p, c, t, m, _, _, rfl, P, hm, lo.low f, fun v H' s s0 s3 r fr b P' => k v H' b P' ⟨_, _, r, by
    have d := q.den_pos
    have h1 := f.1
    have h2 := f.2
    have b1 : (3 * 10 ^ 18 : Nat) < 2 ^ 1000 := Nat.lt_of_lt_of_le (show 3 * 10 ^ 18 < 2 ^ 62 by decide) (Nat.pow_le_pow_right (by decide) (by decide))
    constructor
    · rw [Int.natAbs_mul]
      exact Nat.lt_of_le_of_lt (Nat.mul_le_mul h1 (show s.natAbs ≤ 3 by omega)) (by omega)
    · rw [Int.natAbs_mul, Int.natAbs_natCast]
      exact Nat.lt_of_le_of_lt (Nat.mul_le_mul h2 (show s.natAbs ≤ 3 by omega)) (by omega), by
    rw [Rat.divInt_mul_right (by omega), Rat.divInt_ofNat, Rat.mkRat_self]⟩ fr⟩
theorem Sm.fin {q : Rat} (h : Sm 59 q) : Fin q := by
  have h1 := h.1
  have h2 := h.2
  have : (2 : Nat) ^ 59 < 10 ^ 18 := by decide
  exact ⟨by omega, by omega⟩


/-! ### planes as the law makes them -/
/-- a row of numbers as passed, apart from the list under way -/
def RowD (F : Nat → List Rat) (D : Addr) (i : Nat) (v : V) (H : Hp) : Prop := ∃ l us, v = V.ref l ∧ l ≠ D ∧ H l = some (.lst us) ∧ All2 (fun u q => Rq H u q ∧ u ≠ .ref D) us (F i)
theorem rowd_bu (F : Nat → List Rat) : BuS (RowD F) := fun D i v H H' p c m ⟨l, us, e, n, el, al⟩ P b => by
  obtain ⟨kvs, hd⟩ := P.dk
  exact ⟨l, us, e, n, b _ _ el (ne_of el hd (by intro z; cases z)), al.imp fun u q ⟨r, n2⟩ => ⟨r.but P b, n2⟩⟩
theorem rq_off {H : Hp} {D : Addr} {v : V} {q : Rat} {ys zs : List V} (r : Rq H v q) (n : v ≠ .ref D) : Rq (upd H D (.lst zs)) v q := by
  obtain ⟨x, y, rt, ft, eq⟩ := r
  refine ⟨x, y, ?_, ft, eq⟩
  cases rt with
  | int => exact .int _
  | @pair a _ _ h hj =>
    have na : a ≠ D := fun z => n (by rw [z])
    refine .pair ?_ hj
    rcases h with h | h
    · exact .inl (by rw [upd_ne na]; exact h)
    · exact .inr (by rw [upd_ne na]; exact h)
theorem rowd_off (F : Nat → List Rat) : OffD (RowD F) := fun D i v H ys zs ⟨l, us, e, n, el, al⟩ eD => ⟨l, us, e, n, by rw [upd_ne n]; exact el, al.imp fun u q ⟨r, n2⟩ => ⟨rq_off (ys := ys) r n2, n2⟩⟩
def RqDD (D0 : Addr) (f : Nat → Rat) (D : Addr) (i : Nat) (v : V) (H : Hp) : Prop := Rq H v (f i) ∧ v ≠ .ref D ∧ v ≠ .ref D0
theorem rqdd_bu (D0 : Addr) (f : Nat → Rat) : BuS (RqDD D0 f) := fun D i v H H' p c m r P b => ⟨r.1.but P b, r.2⟩
theorem rqdd_off (D0 : Addr) (f : Nat → Rat) : OffD (RqDD D0 f) := fun D i v H ys zs r e => ⟨rq_off (ys := ys) r.1 r.2.1, r.2⟩
theorem l_lcCallB {sp : Sp} {E : XK} {ta : TA} {ws : List V} {σ : L2.St} {H : Hp} {g : TG} {te : TE} {vs : List Nat} {Q : VK} (h : VA ta σ H ws) (q : ∀ Q' : VK, (∀ a H1, tLc (iList K (tC (.ref a))) g tYes te vs σ H1 Q → Q' (.ref a) H1) → sp ws H Q' E) : tLc (iList K (tCall sp [] E ta)) g tYes te vs σ H Q :=
  c_call h (q _ fun a H1 z => z)
def spMadePl (mg : Str → Option Value) : Sp := fun vs H Q _ => ∃ (p c d : Addr) (m B n : Nat) (L : List En), vs = [.ref p, .ref d] ∧ PenAt H p c m ∧ m + 3 * B * B + 3 < most ∧ DP H d L ∧ Bx B L ∧ B ≤ 8 ∧ L.length ≤ 900 ∧ SmC n L ∧ 1 ≤ n ∧ n ≤ 59 ∧ ∀ a H' R, PnAt (pnA mg) H' a R → (∀ i j, cf2 R i j = cf L i j) → But p H H' → PenAt H' p c (m + 3 * B * B) → Q (.ref a) H'
theorem ok_law_made_plane (T : Txt K mg) (TP : PlaneT K mg) : FnOk P w K mg base CX0 10 (fA mg "_law_made_plane") (fDat K (fA mg "_law_made_plane")) ["_law_pen_here", "_law_one"] (spMadePl mg) := by
  have G_law_passed := ok_passed (P := P) (w := w) (base := base) T
  have G_law_v_rows := ok_law_v_rows (P := P) (w := w) (base := base) T
  have GPlane_init := ok_Plane_init (P := P) (w := w) (base := base) T TP
  refine T._law_made_plane.F.ok sc_law_made_plane (fun vs H Q E h => ?_) (fun cdv A outer s H vs Q E hr h => ?_)
  · obtain ⟨p, c, d, m, B, n, L, rfl, _⟩ := h
    rfl
  obtain ⟨p, c, d, m, B, n, L, rfl, hP, hm, dp, bx, hB, hl, sm, n1, hn, q⟩ := h
  refine ⟨_, (pss_one (ps_ret (pe_make TP.mkc GPlane_init (hr.mono (by decide)) (by rfl) TP.g TP.m_init.b .nil passL (pa_cons (pe_lc (own := [("_law_row", 3)]) (g := gName 3) (tt := tYes) (by rfl) sc_law_made_plane.nd (pi_list (pe_c T._law_v_rows G_law_v_rows (hr.mono (by decide)) (pa_cons (pv 1) pa_nil))) (blkOk_by (own := [("_law_row", 3)]) (N := ["_law_pen_here", "_law_one", "_law_number", "_law_row"]) (sc := defScope s_law_made_plane) (by decide +kernel)) (fun _ _ _ _ _ => pg_name (i := 3) sc_law_made_plane.nd rfl (Or.inl rfl)) (fun _ _ _ _ _ => pts_nil) (fun _ _ _ _ _ => (pe_lc (own := [("_law_number", 2)]) (g := gName 2) (tt := tYes) (by rfl) sc_law_made_plane.nd (show PI _ _ _ (iList K (tVar 3)) from (pi_list (pv 3))) (blkOk_in (own := [("_law_number", 2)]) (N := ["_law_pen_here", "_law_one", "_law_number", "_law_row"]) (defScope s_law_made_plane) rfl (by decide +kernel)) (fun _ _ _ _ _ => pg_name (i := 2) sc_law_made_plane.nd rfl (Or.inl rfl)) (fun _ _ _ _ _ => pts_nil) (fun _ _ _ _ _ => (pe_c T._law_passed G_law_passed (hr.mono (by decide)) (pa_cons (pv 0) (pa_cons (pv 2) pa_nil))))))) pa_nil)))), ?_⟩
  refine r_ret (va_1 (l_lcCallB (va_cons (val_var rfl) va_nil) fun Q' hQ => ⟨d, L, B, rfl, dp, bx, hl, by omega, fun pl H1 wd ht s1 np lsl cov => hQ pl H1 ?_⟩))
  obtain ⟨us, eu, au⟩ := lsl
  have lu := au.len
  unfold gridR at lu
  rw [List.length_map, List.length_range] at lu
  have wB := cov.wB
  have hB2 := cov.hB
  have P1 := hP.same s1
  have mono : ∀ i, i ≤ wd → 3 * ht * i ≤ 3 * B * B := fun i hi => Nat.mul_le_mul (Nat.mul_le_mul_left 3 hB2) (by omega)
  refine l_lcBL (k := 3 * ht) (R := RowD fun i => (List.range ht).map (cf L i)) (rowd_bu _) (rowd_off _) P1 val_c (SqL.of eu) (by omega) (fun _ => rfl) (fun D i x H2 hx b2 P2 nD eD => fun Q2 q2 => ?_) (fun D ys H2 b2 P2 nD e2 r2 l2 => ?_)
  · obtain ⟨r, hr2, a, rfl, as, ea, aa⟩ := au.get hx
    have hi : i < wd := by rw [← lu]; exact (List.getElem?_eq_some_iff.mp hx).1
    unfold gridR at hr2
    rw [List.getElem?_map, List.getElem?_range hi] at hr2
    cases hr2
    obtain ⟨kvs, hd⟩ := P1.dk
    have ea2 := b2 _ _ ea (ne_of ea hd (by intro z; cases z))
    have la : as.length = ht := by rw [aa.len, List.length_map, List.length_range]
    have mi := mono (i + 1) (by omega)
    have mi2 : 3 * ht * (i + 1) = 3 * ht * i + 3 * ht := Nat.mul_succ _ _
    obtain ⟨yD, eD⟩ := eD
    refine l_lcBL (k := 3) (R := RqDD D (cf L i)) (rqdd_bu _ _) (rqdd_off _ _) P2 (val_var rfl) (SqL.of ea2) (by omega) (fun _ => rfl) (fun D2 j u H3 hu b3 P3 nD2 eD2 => fun Q3 q3 => ?_) (fun D2 zs H3 b3 P3 nD2 e3 r3 l3 => ?_)
    · obtain ⟨x, hx2, t, rfl, lo⟩ := aa.get hu
      have hj : j < ht := by rw [← la]; exact (List.getElem?_eq_some_iff.mp hu).1
      rw [List.getElem?_map, List.getElem?_range hj] at hx2
      have ex : cf L i j = x := Option.some.inj hx2
      have lo2 := b3.lo P2 (b2.lo P1 lo)
      obtain ⟨yD2, eD2⟩ := eD2
      obtain ⟨kvs2, hd2⟩ := P2.dk
      have eD3 := b3 _ _ eD (ne_of eD hd2 (by intro z; cases z))
      refine c_passed (va_cons (val_var rfl) (va_cons (val_var rfl) va_nil)) P3 (by omega) lo2 (Sm.fin ((ex ▸ sm i j : Sm n x).mono hn)) fun v H4 b4 P4 rq fr => q3 v H4 b4 (P4.le (by omega)) ⟨by rw [ex]; exact rq, fun z => ?_, fun z => ?_⟩
      · have := fr D2 z
        rw [eD2] at this
        cases this
      · have := fr D z
        rw [eD3] at this
        cases this
    · obtain ⟨kvs2, hd2⟩ := P2.dk
      have eD3 := b3 _ _ eD (ne_of eD hd2 (by intro z; cases z))
      refine q2 _ H3 b3 (P3.le (by rw [la]; omega)) ⟨D2, zs, rfl, fun z => ?_, e3, All2.mk (by rw [l3, la, List.length_map, List.length_range]) fun j v x hv hx2 => ?_⟩
      · rw [z, eD] at nD2
        cases nD2
      · have hj : j < ht := by rw [← la, ← l3]; exact (List.getElem?_eq_some_iff.mp hv).1
        have z := r3.get hv
        rw [Nat.zero_add] at z
        rw [List.getElem?_map, List.getElem?_range hj] at hx2
        cases hx2
        exact ⟨z.1, z.2.2⟩
  · have rws : RwsR H2 (.ref D) (gridR L wd ht) := ⟨D, ys, rfl, .inl e2, by rw [l2]; omega, All2.mk (by unfold gridR; rw [l2, lu, List.length_map, List.length_range]) fun i v r hv hr2 => by
      have hi : i < wd := by rw [← lu, ← l2]; exact (List.getElem?_eq_some_iff.mp hv).1
      obtain ⟨l, us2, rfl, _, el, al2⟩ := r2.get hv
      rw [Nat.zero_add] at al2
      unfold gridR at hr2
      rw [List.getElem?_map, List.getElem?_range hi] at hr2
      cases hr2
      exact ⟨l, us2, rfl, .inl el, by rw [al2.len, List.length_map, List.length_range]; omega, al2.imp fun u q z => z.1⟩⟩
    refine made_plane rws fun a H' s' pa _ => q a H' (planeR (gridR L wd ht)) pa (fun i j => by rw [cf2_planeR, cf2_gridR cov]) ((But.of s1).trans (b2.trans (But.of s'))) ((P2.le ?_).same s')
    · rw [lu]
      have := mono wd (Nat.le_refl _)
      omega
end
end LW

namespace LW
open PySem PySem.Spec PyProof.Rows L2 GL
section
variable {P : Program} {w : World} {K : PySem.W.Frag} {mg : Str → Option Value} {base : Heap}

/-! ### polynomials as the law draws them -/
theorem s_forRm {g : TG} {tb : TS} {D : Ends} {σ : L2.St} {H : Hp} {ta : TA} {m : Int} (h : VA ta σ H [.int m]) (hm : -1000 ≤ m ∧ m ≤ 100000) (Pv : Nat → L2.St → Hp → Prop) (h0 : Pv 0 σ H)
    (hs : ∀ i σ H, i < m.toNat → Pv i σ H → g (.int (i : Int)) σ H fun σ2 H2 => tb { D with nx := Pv (i + 1), ct := Pv (i + 1), bk := D.nx } σ2 H2) (hd : ∀ σ H, Pv m.toNat σ H → D.nx σ H) : tFor (iRng1 ta) g tb D σ H :=
  h _ ⟨m, rfl, by omega, by omega, for_range (lo := 0) (n := m.toNat) Pv h0 (fun i σ H hi p => by
    rw [Int.zero_add]
    exact hs i σ H hi p) hd⟩
def tri (g : Nat) : Nat → Nat
  | 0 => 0
  | i + 1 => tri g i + (g + 1 - i)
theorem tri_le : ∀ g, g < 5 → tri g (g + 1) ≤ 15 := by decide
theorem tri_mono (g : Nat) : ∀ {i j : Nat}, i ≤ j → tri g i ≤ tri g j := fun {i j} h => by
  induction j with
  | zero =>
    obtain rfl : i = 0 := by omega
    exact Nat.le_refl _
  | succ j ih =>
    rcases Nat.lt_or_ge i (j + 1) with lt | ge
    · exact Nat.le_trans (ih (by omega)) (by rw [tri]; omega)
    · obtain rfl : i = j + 1 := by omega
      exact Nat.le_refl _
structure KF (g k : Nat) (F : List En) : Prop where
  deg : ∀ e ∈ F, e.1.1 + e.1.2 ≤ g
  sm : ∀ e ∈ F, Sm 10 e.2
  bd : ∀ e ∈ F, Bd L9 k e.2
def spVDrawn : Sp := fun vs H Q _ => ∃ (p c : Addr) (m g k : Nat), vs = [.ref p, .int (g : Int), .int (k : Int)] ∧ PenAt H p c m ∧ g ≤ 4 ∧ m + 70 < most ∧ 1 ≤ k ∧ k ≤ 9 ∧ ∀ (d : Addr) (H' : Hp) (L : List En), DW H' d L → nz L → KF g k L → L.length ≤ 15 → H d = none → But p H H' → PenAt H' p c (m + 60) → Q (.ref d) H'
theorem ok_law_v_drawn (T : Txt K mg) : FnOk P w K mg base CX0 6 (fA mg "_law_v_drawn") (fDat K (fA mg "_law_v_drawn")) ["_law_pen_here", "_law_degree", "_law_most"] spVDrawn := by
  have G_law_draw := ok_draw (P := P) (w := w) (base := base) T._law_draw.F T
  have G_law_ratio := ok_law_ratio (P := P) (w := w) (base := base) T
  have G_law_v_plain := ok_law_v_plain (P := P) (w := w) (base := base) T
  refine T._law_v_drawn.F.ok sc_law_v_drawn (fun vs H Q E h => ?_) (fun cdv A outer s H vs Q E hr h => ?_)
  · obtain ⟨p, c, m, g, k, rfl, _⟩ := h
    rfl
  obtain ⟨p, c, m, g, k, rfl, hP, hg, hm, k1, k9, q⟩ := h
  refine ⟨_, (pss_cons (ps_set (i := 3) sc_law_v_drawn.nd rfl (Or.inl rfl) pe_dnewT)
  (pss_cons (ps_for PassesOwn.never rfl (pi_range1 (by rfl) T.range (pa_cons (pe_op op_add (pv 1) pe_int) pa_nil)) (pg_name (i := 4) sc_law_v_drawn.nd rfl (Or.inl rfl))
  (pss_one (ps_for PassesOwn.never rfl (pi_range1 (by rfl) T.range (pa_cons (pe_op op_sub (pe_op op_add (pv 1) pe_int) (pv 4)) pa_nil)) (pg_name (i := 5) sc_law_v_drawn.nd rfl (Or.inl rfl))
  (pss_one (ps_if (pt_cmpR op_gt (pe_c T._law_draw G_law_draw (hr.mono (by decide)) (pa_cons (pv 0) (pa_cons pe_int pa_nil))) pe_int (nomark _)) (pss_one (ps_dput (hu_of hr) (pv 3) (pe_tup (pa_cons (pv 4) (pa_cons (pv 5) pa_nil))) (pe_c T._law_ratio G_law_ratio (hr.mono (by decide)) (pa_cons (pv 0) (pa_cons (pv 2) pa_nil))) rfl)) pss_nil)))))
  (pss_one (ps_ret (pe_c T._law_v_plain G_law_v_plain (hr.mono (by decide)) (pa_cons (pv 3) pa_nil)))))), ?_⟩
  refine q_asg fun f hf => ?_
  have sf := Same.new' (o := .dT []) hf
  have tg := tri_le g (by omega)
  refine q_forRm (m := (g : Int) + 1) (va_cons (v_add (val_var rfl) val_c) va_nil) ⟨by omega, by omega⟩ (fun i σ H' => ∃ (z1 z2 : Option V) (F : List En), σ = [some (.ref p), some (.int (g : Int)), some (.int (k : Int)), some (.ref f), z1, z2] ∧ But p H H' ∧ PenAt H' p c (m + 4 * tri g i) ∧ DW H' f F ∧ KF g k F ∧ F.length ≤ tri g i)
    ⟨none, none, [], rfl, But.of sf, hP.same sf, ⟨[], upd_same, .nil, by simp⟩, ⟨fun e he => (nomatch he), fun e he => (nomatch he), fun e he => (nomatch he)⟩, Nat.zero_le _⟩ (fun i σ H1 hi z => ?_) (fun σ H1 z => ?_)
  · obtain ⟨z1, z2, F, rfl, b1, P1, dw, kf, fl⟩ := z
    have ti : tri g (i + 1) ≤ tri g (g + 1) := tri_mono g (by omega)
    have te : tri g (i + 1) = tri g i + (g + 1 - i) := rfl
    refine g_name ?_
    refine s_forRm (m := (g : Int) + 1 - (i : Int)) (va_cons (v_sub (v_add (val_var rfl) val_c) (val_var rfl)) va_nil) ⟨by omega, by omega⟩ (fun j σ H' => ∃ (z2 : Option V) (F : List En), σ = [some (.ref p), some (.int (g : Int)), some (.int (k : Int)), some (.ref f), some (.int (i : Int)), z2] ∧ But p H H' ∧ PenAt H' p c (m + 4 * (tri g i + j)) ∧ DW H' f F ∧ KF g k F ∧ F.length ≤ tri g i + j)
      ⟨z2, F, rfl, b1, P1, dw, kf, fl⟩ (fun j σ H2 hj z => ?_) (fun σ H2 z => ?_)
    · obtain ⟨z2, F, rfl, b2, P2, ⟨fk, ef, df⟩, kf, fl⟩ := z
      refine g_name (t_op (c_call (va_cons (val_var rfl) (va_cons val_c va_nil)) ⟨p, c, 3, _, rfl, P2, by omega, by decide, by decide, fun r H3 r0 r1 b3 P3 => val_c _ ⟨_, _, rfl, rfl, _, rfl, ?_⟩⟩))
      have nfp : f ≠ p := by
        obtain ⟨kvs, hd⟩ := P2.dk
        exact ne_of ef hd (by intro z; cases z)
      have ef3 := b3 _ _ ef nfp
      obtain ⟨kvs2, hd2⟩ := P2.dk
      have tu3 : Tu H2 H3 := fun b xs e => b3 _ _ e (ne_of e hd2 (by intro z; cases z))
      by_cases h0 : (0 : Int) < r
      · rw [if_pos (decide_eq_true h0)]
        refine c_call (va_cons (val_var rfl) (va_cons (val_var rfl) va_nil)) ⟨p, c, _, k, rfl, P3, by omega, k1, k9, fun t H4 x lo sx bx4 b4 P4 => ?_⟩
        obtain ⟨kvs3, hd3⟩ := P3.dk
        have tu4 : Tu H3 H4 := fun b xs e => b4 _ _ e (ne_of e hd3 (by intro z; cases z))
        have ef4 := b4 _ _ ef3 nfp
        refine (val_var rfl) _ (l_tup (va_cons (val_var rfl) (va_cons (val_var rfl) va_nil)) (by show 2 ≤ 100000; decide) fun kt hkt => ?_)
        have s5 := Same.new' (o := .tup [.int (i : Int), .int (j : Int)]) hkt
        refine ⟨f, _, rfl, DPut.t (s5 _ _ ef4) (show _ = some (.tup ((kN (i, j)).map kV)) from upd_same) (Nat.lt_of_le_of_lt (show fk.length ≤ 1000 by have := df.len; omega) (by decide)), ?_⟩
        have d5 := ((df.tu (tu3.trans tu4)).tu (Tu.of s5)).put (k := (i, j)) (lo.same s5)
        have ef5 := s5 _ _ ef4
        refine ⟨_, putE F (i, j) x, rfl, fun b o e nb => ?_, ?_, ⟨_, upd_same, d5.tu (Tu.putT ef5)⟩, ⟨fun e he => ?_, fun e he => ?_, fun e he => ?_⟩, Nat.le_trans len_put (by omega)⟩
        · rw [upd_ne (ne_of_none e hf)]
          exact s5 _ _ (b4 _ _ (b3 _ _ (b2 _ _ e nb) nb) nb)
        · obtain ⟨_, _, _, _, ns, hpp, hcc, _⟩ := P4.same s5
          refine ((P4.same s5).le (by omega)).off (fun o h => ?_) (fun o h => ?_)
          · rw [upd_ne (Ne.symm nfp)]; exact h
          · rw [upd_ne (ne_of hcc ef5 (by intro z; cases z))]; exact h
        · rcases mem_put he with rfl | h
          · show i + j ≤ g
            omega
          · exact kf.deg _ h
        · rcases mem_put he with rfl | h
          · exact sx
          · exact kf.sm _ h
        · rcases mem_put he with rfl | h
          · exact bx4
          · exact kf.bd _ h
      · rw [if_neg (by rw [decide_eq_false h0]; decide)]
        exact ⟨_, F, rfl, b2.trans b3, P3.le (by omega), ⟨fk, ef3, df.tu tu3⟩, kf, by omega⟩
    · obtain ⟨z2, F, rfl, b2, P2, dw2, kf2, fl2⟩ := z
      have ej : ((g : Int) + 1 - (i : Int)).toNat = g + 1 - i := by omega
      rw [ej] at P2 fl2
      exact ⟨_, _, F, rfl, b2, P2, dw2, kf2, fl2⟩
  · obtain ⟨z1, z2, F, rfl, b1, P1, dw, kf, fl⟩ := z
    have eg : ((g : Int) + 1).toNat = g + 1 := by omega
    rw [eg] at P1 fl
    refine r_ret (te := tCall _ _ _ _) (c_call (va_cons (val_var rfl) va_nil) ⟨f, F, rfl, dw.dp, by omega, fun pm H2 M s2 np dM cM mM lM => q pm H2 M dM (fun e he => (mM e he).2) ⟨fun e he => kf.deg e (mM e he).1, fun e he => kf.sm e (mM e he).1, fun e he => kf.bd e (mM e he).1⟩ (by omega) ?_ (b1.trans (But.of s2)) ((P1.le (by omega)).same s2)⟩)
    cases hpm : H pm with
    | none => rfl
    | some o =>
      obtain ⟨kvs, hd⟩ := hP.dk
      by_cases y : pm = p
      · obtain ⟨kvs1, hd1⟩ := P1.dk
        rw [y, hd1] at np
        cases np
      · have := b1 _ _ hpm y
        rw [np] at this
        cases this
theorem KF.smc {g k : Nat} {F : List En} (k : KF g k F) (nd : (F.map (·.1)).Nodup) : SmC 10 F := SmC.of (by decide) k.sm nd
theorem KF.bx {g k : Nat} {F : List En} (k : KF g k F) : Bx (g + 1) F := fun e he => by have := k.deg e he; omega
end
end LW

namespace LW
open PySem PySem.Spec PyProof.Rows L2 GL
section
variable {P : Program} {w : World} {K : PySem.W.Frag} {mg : Str → Option Value} {base : Heap}
theorem Me.meth {C : Addr} {m q : Str} {st : Stmt} {ps : List Str} (h : Me K C m q st ps) : Meth K C m (mA K C m) := ⟨h.at_, h.fn, h.F.kp⟩
theorem dn_add : PySem.dunder (Operator.info .Add).2 = ("__add__" : Str) := by decide +kernel
theorem dn_sub : PySem.dunder (Operator.info .Sub).2 = ("__sub__" : Str) := by decide +kernel
theorem dn_mul : PySem.dunder (Operator.info .Mult).2 = ("__mul__" : Str) := by decide +kernel
theorem PlaneT.i_add (TP : PlaneT K mg) : OpI K (pnA mg) (mA K (pnA mg) "__add__") .Add := ⟨TP.me, by rw [dn_add]; exact TP.m_add.at_, TP.m_add.fn⟩
theorem PlaneT.i_mul (TP : PlaneT K mg) : OpI K (pnA mg) (mA K (pnA mg) "__mul__") .Mult := ⟨TP.me, by rw [dn_mul]; exact TP.m_mul.at_, TP.m_mul.fn⟩

/-! ### the class Field -/
abbrev fdA (mg : Str → Option Value) : Addr := fA mg "Field"
structure FieldT (K : PySem.W.Frag) (mg : Str → Option Value) : Prop where
  g : mg "Field" = some (.ref (fdA mg))
  cls : Cls K (fdA mg)
  mkc : Mk K (fdA mg) (mA K (fdA mg) "__init__")
  np : NoAttr K (fdA mg) "p"
  nq : NoAttr K (fdA mg) "q"
  m_init : Me K (fdA mg) "__init__" "Field.__init__" (inClass tField 0) ["self", "p", "q"]
  m_eq : Me K (fdA mg) "__eq__" "Field.__eq__" (inClass tField 1) ["self", "other"]
  hc : PySem.W.findIn K (.ref (fdA mg)) "__class__" = some (some (.builtin "object.__class__"))
  hn : PySem.W.specialIn K (.builtin "object.__class__") "__get__" = some (some (.builtin "getset_descriptor.__get__"))
  ht : PySem.W.takesIn K (.builtin "object.__class__") = some true
  hm : PySem.W.mroIn K (fdA mg) (.type "object") = some true
  ks : PySem.W.kitOne K (.ref (fdA mg)) (.ref (fdA mg)) = some true
  kf : ∀ T : String, T = "int" ∨ T = "tuple" → PySem.W.kitOne K (.type T) (.ref (fdA mg)) = some false
  subT : ∀ T : String, T = "int" ∨ T = "tuple" → PySem.W.subIn K (.type T) (.ref (fdA mg)) = some false
abbrev sField_init : Stmt := (inClass tField 0)
theorem scField_init : FnScope ["self", "p", "q"] ["self", "p", "q"] (defScope sField_init) := ⟨rfl, rfl, rfl, by decide +kernel, rfl, by decide +kernel, by decide +kernel⟩
/-- a field of two polynomials -/
def FdAt (mg : Str → Option Value) (H : Hp) (a : Addr) (R S : List (List Rat)) : Prop := ∃ dx p q, H a = some (.ins (fdA mg) dx (putF "q" (.ref q) (putF "p" (.ref p) []))) ∧ PnAt (pnA mg) H p R ∧ PnAt (pnA mg) H q S
theorem FdAt.same {H H' : Hp} {a : Addr} {R S : List (List Rat)} (h : FdAt mg H a R S) (s : L2.Same H H') : FdAt mg H' a R S := by
  obtain ⟨dx, p, q, e, h1, h2⟩ := h
  exact ⟨dx, p, q, s _ _ e, h1.same s, h2.same s⟩
theorem lk_p {p q : Addr} : (putF "q" (V.ref q) (putF "p" (V.ref p) [])).lookup ("p" : Str) = some (.ref p) := by
  rw [lookup_putF, if_neg (by decide +kernel), lookup_putF, if_pos rfl]
theorem lk_q {p q : Addr} : (putF "q" (V.ref q) (putF "p" (V.ref p) [])).lookup ("q" : Str) = some (.ref q) := by
  rw [lookup_putF, if_pos rfl]
section
variable {σ : L2.St} {H : Hp} {t1 t2 te te' : TE} {a b : Addr} {R S R' S' : List (List Rat)} {B : Nat → Nat → Nat → Nat → Nat → Nat → Prop} {F : List (List Rat) → List (List Rat) → List (List Rat)} {F' : List (List Rat) → List (List Rat)} {v : V} {D M d E' N e : Nat}
def PlG (mg : Str → Option Value) (te : TE) (σ : L2.St) (H : Hp) (R : List (List Rat)) : Prop := ∀ Q : VK, (∀ c H', L2.Same H H' → PnAt (pnA mg) H' c R → Q (.ref c) H') → te σ H Q
theorem PnAt.obj {C : Addr} {H : Hp} {a : Addr} {R : List (List Rat)} (h : PnAt C H a R) : ∃ dx fs, H a = some (.ins C dx fs) := by
  obtain ⟨dx, t, e, _⟩ := h
  exact ⟨dx, _, e⟩
theorem pl_val (h : Val te σ H (.ref a)) (pa : PnAt (pnA mg) H a R) : PlG mg te σ H R := fun Q q => h _ (q a H (Same.refl H) pa)
theorem v_fp (TF : FieldT K mg) {dx p q : Addr} (h : Val te σ H (.ref a)) (e : H a = some (.ins (fdA mg) dx (putF "q" (.ref q) (putF "p" (.ref p) [])))) : Val (tFld K te "p") σ H (.ref p) := fun Q q => h _ ⟨a, fdA mg, dx, _, _, rfl, e, TF.cls, TF.np, lk_p, q⟩
theorem v_fq (TF : FieldT K mg) {dx p q : Addr} (h : Val te σ H (.ref a)) (e : H a = some (.ins (fdA mg) dx (putF "q" (.ref q) (putF "p" (.ref p) [])))) : Val (tFld K te "q") σ H (.ref q) := fun Q q => h _ ⟨a, fdA mg, dx, _, _, rfl, e, TF.cls, TF.nq, lk_q, q⟩
theorem pl_fp (TF : FieldT K mg) (h : Val te σ H (.ref a)) (f : FdAt mg H a R S) : PlG mg (tFld K te "p") σ H R := by
  obtain ⟨dx, p, q, e, hp, hq⟩ := f
  exact pl_val (v_fp TF h e) hp
theorem pl_fq (TF : FieldT K mg) (h : Val te σ H (.ref a)) (f : FdAt mg H a R S) : PlG mg (tFld K te "q") σ H S := by
  obtain ⟨dx, p, q, e, hp, hq⟩ := f
  exact pl_val (v_fq TF h e) hq
/-- x op y of two planes -/
theorem pl_op (h1 : PlG mg t1 σ H R) (h2 : ∀ H1, L2.Same H H1 → PlG mg t2 σ H1 S) (nR : Nice D M d R) (nS : Nice E' N e S) (hB : B D M d E' N e) :
    PlG mg (tOp (fun x y H Q => ∃ a dx fs b dy gs, x = .ref a ∧ y = .ref b ∧ H a = some (.ins (pnA mg) dx fs) ∧ H b = some (.ins (pnA mg) dy gs) ∧ spBinP mg B F [x, y] H (obQ Q) E0) t1 t2) σ H (F R S) := fun Q q => h1 _ fun a H1 s1 pa => h2 H1 s1 _ fun b H2 s2 pb => by
  have pa := pa.same s2
  obtain ⟨dx, fs, ea⟩ := pa.obj
  obtain ⟨dy, gs, eb⟩ := pb.obj
  exact ⟨a, dx, fs, b, dy, gs, rfl, rfl, ea, eb, a, .ref b, R, S, D, M, d, E', N, e, rfl, pa, .inl ⟨b, rfl, pb⟩, nR, nS, hB, fun c H' s po => ⟨⟨_, rfl⟩, q c H' ((s1.trans s2).trans s) po⟩⟩
theorem no_at (m : Str) (h : (m == ("rows" : Str)) = false) {v : V} : ([("rows", v)] : List (Str × V)).lookup m = none := by
  rw [List.lookup_cons, h]
  rfl
theorem pl_slope {m : Str} (hm : (m == ("rows" : Str)) = false) (h : PlG mg te σ H R) (nR : Nice D M d R) (f1 : Fz D M) (f2 : Fz D (d * M)) (hd : d ≤ 300) : PlG mg (tMeth (pnA mg) m (spSlopePl mg F') [] E0 te tNil) σ H (F' R) := fun Q q => h _ fun a H1 s1 pa => by
  have pa' := pa
  obtain ⟨dx, t, e, l, z⟩ := pa
  exact ⟨a, dx, _, rfl, e, no_at m hm, a, R, D, M, d, rfl, pa', nR, f1, f2, hd, fun c H' s' po => q c H' (s1.trans s') po⟩
end
/-! ### kinds -/
theorem v_isTy {σ : L2.St} {H : Hp} {te : TE} {v : V} {t : Value} {c : String} {b : Bool} (h : Val te σ H v) (ty : TyX K H v t) (k : PySem.W.kitOne K t (.type c) = some b) : Val (tCB (rIsi K) (tCons te (tCons (tC (.ty c)) tNil))) σ H (.bl b) :=
  v_cb (va_cons h (va_cons val_c va_nil)) fun Q q => ⟨v, _, _, _, b, rfl, .ty c, ty, k, q⟩
def spHeld (mg : Str → Option Value) : Sp := fun vs H Q _ => ∃ (a : Addr) (R : List (List Rat)), vs = [.ref a] ∧ PnAt (pnA mg) H a R ∧ Q (.ref a) H
theorem ok_held (T : Txt K mg) (TP : PlaneT K mg) : FnOk P w K mg base CX0 1 (fA mg "held") (fDat K (fA mg "held")) ["value"] (spHeld mg) := by
  refine T.held.F.ok scheld (fun vs H Q E h => ?_) (fun cdv A outer s H vs Q E hr h => ?_)
  · obtain ⟨a, R, rfl, _⟩ := h
    rfl
  obtain ⟨a, R, rfl, pa, k⟩ := h
  refine ⟨_, (pss_one (ps_ret (pe_ifExp (pt_val (pe_callB call_isi (by rfl) T.isinstance (by decide +kernel) (pa_cons (pv 0) (pa_cons (pe_bltn (v := .ty "list") (by rfl) T.list (by decide +kernel) rfl) pa_nil)))) (pe_callTy call_tuple_of (by rfl) T.tuple (by decide +kernel) (pa_cons (pv 0) pa_nil)) (pv 0)))), ?_⟩
  exact r_ret ((ans_val (v_isTy (val_var rfl) (TP.tyI pa) TP.kl)) _ (iteF ((val_var rfl) _ k)))
def spFrom : Sp := fun vs H Q _ => ∃ (v : V) (lo hi : Int), vs = [v, .int lo, .int hi] ∧ ((∃ i, v = .int i ∧ Q (.bl (decide (lo ≤ i) && decide (i ≤ hi))) H) ∨ ∃ n, Is H v n ∧ n ≠ "int" ∧ Q (.bl false) H)
theorem ok_is_from (T : Txt K mg) : FnOk P w K mg base CX0 2 (fA mg "is_from") (fDat K (fA mg "is_from")) ["value", "low", "high"] spFrom := by
  have Gis_integer := ok_is_integer (P := P) (w := w) (base := base) T
  refine T.is_from.F.ok scis_from (fun vs H Q E h => ?_) (fun cdv A outer s H vs Q E hr h => ?_)
  · obtain ⟨v, lo, hi, rfl, _⟩ := h
    rfl
  obtain ⟨v, lo, hi, rfl, h⟩ := h
  refine ⟨_, (pss_one (ps_ret (pe_and (pe_c T.is_integer Gis_integer (hr.mono (by decide)) (pa_cons (pv 0) pa_nil)) (pe_one (pe_chain op_le op_le (pv 1) (pv 0) (pv 2)))))), ?_⟩
  refine r_ret ?_
  rcases h with ⟨i, rfl, k⟩ | ⟨n, is, hn, k⟩
  · refine c_call (va_cons (val_var rfl) va_nil) ⟨_, "int", rfl, .int i, ⟨_, rfl, iteT ?_⟩⟩
    refine (val_var rfl) _ ((val_var rfl) _ ⟨_, _, rfl, rfl, _, rfl, ?_⟩)
    by_cases h1 : lo ≤ i
    · rw [decide_eq_true h1]
      rw [decide_eq_true h1] at k
      exact iteT ((val_var rfl) _ ⟨_, _, rfl, rfl, k⟩)
    · rw [decide_eq_false h1]
      rw [decide_eq_false h1] at k
      exact iteF k
  · refine c_call (va_cons (val_var rfl) va_nil) ⟨_, n, rfl, is, ⟨_, rfl, ?_⟩⟩
    rw [decide_eq_false hn]
    exact iteF k
/-! ### Field.__init__ -/
def spFInit (mg : Str → Option Value) : Sp := fun vs H Q _ => ∃ (a dx p q : Addr) (R S : List (List Rat)), vs = [.ref a, .ref p, .ref q] ∧ H a = some (.ins (fdA mg) dx []) ∧ PnAt (pnA mg) H p R ∧ PnAt (pnA mg) H q S ∧
  Q .non (upd (upd H a (.ins (fdA mg) dx (putF "p" (.ref p) []))) a (.ins (fdA mg) dx (putF "q" (.ref q) (putF "p" (.ref p) []))))
theorem PnAt.off {C : Addr} {H : Hp} {a c : Addr} {R : List (List Rat)} {o o' : HO} (h : PnAt C H a R) (e : H c = some o) (n : ∀ xs, o ≠ .tup xs) (n2 : c ≠ a) : PnAt C (upd H c o') a R := by
  obtain ⟨dx, t, ea, l, z⟩ := h
  refine ⟨dx, t, by rw [upd_ne (Ne.symm n2)]; exact ea, l.tu fun b xs eb => ?_, z⟩
  rw [upd_ne (fun y => n xs (by rw [y, e] at eb; exact Option.some.inj eb))]
  exact eb
theorem pn_ne {C C' : Addr} {H : Hp} {a c dx : Addr} {R : List (List Rat)} (h : PnAt C H a R) (e : H c = some (.ins C' dx [])) : c ≠ a := fun z => by
  obtain ⟨dx', t, ea, _⟩ := h
  rw [z, ea] at e
  cases e
theorem ok_Field_init (T : Txt K mg) (TP : PlaneT K mg) (TF : FieldT K mg) : FnOk P w K mg base CX0 2 (mA K (fdA mg) "__init__") (fDat K (mA K (fdA mg) "__init__")) ["self", "p", "q"] (spFInit mg) := by
  have Gheld := ok_held (P := P) (w := w) (base := base) T TP
  refine TF.m_init.F.ok scField_init (fun vs H Q E h => ?_) (fun cdv A outer s H vs Q E hr h => ?_)
  · obtain ⟨a, dx, p, q, R, S, rfl, _⟩ := h
    rfl
  obtain ⟨a, dx, p, q, R, S, rfl, ha, hp, hq, k⟩ := h
  refine ⟨_, (pss_cons (ps_fld (pv 0) (pe_c T.held Gheld (hr.mono (by decide)) (pa_cons (pv 1) pa_nil)) (by rfl))
  (pss_one (ps_fld (pv 0) (pe_c T.held Gheld (hr.mono (by decide)) (pa_cons (pv 2) pa_nil)) (by rfl)))), ?_⟩
  refine (show tSeq (sFld _ _ _ _) _ _ _ _ from c_call (va_cons (val_var rfl) va_nil) ⟨p, R, rfl, hp, ?_⟩)
  refine (val_var rfl) _ ⟨a, fdA mg, dx, [], rfl, ha, TF.cls, TF.np, by show 0 < 1000; decide, ?_⟩
  show (tCall (spHeld mg) [] E0 (tCons (tVar 2) tNil)) _ _ _
  refine c_call (va_cons (val_var rfl) va_nil) ⟨q, S, rfl, hq.off ha (fun _ z => by cases z) (pn_ne hq ha), ?_⟩
  exact (val_var rfl) _ ⟨a, fdA mg, dx, _, rfl, upd_same, TF.cls, TF.nq, by show 1 < 1000; decide, k⟩
theorem made_field {H1 : Hp} {p q : Addr} {R S : List (List Rat)} {Q : VK} {E : XK} (hp : PnAt (pnA mg) H1 p R) (hq : PnAt (pnA mg) H1 q S) (k : ∀ a H', L2.Same H1 H' → FdAt mg H' a R S → H1 a = none → Q (.ref a) H') :
    ∀ x dx, H1 x = none → H1 dx = none → dx ≠ x → spFInit mg (.ref x :: ([.ref p, .ref q] ++ [])) (upd (upd H1 dx (.own x)) x (.ins (fdA mg) dx [])) (fun v H2 => v = .non ∧ Q (.ref x) H2) E := fun x dx hx hdx ne => by
  have S0 : L2.Same H1 (upd (upd H1 dx (.own x)) x (.ins (fdA mg) dx [])) := fun b o e => by
    rw [upd_ne (ne_of_none e hx), upd_ne (ne_of_none e hdx)]
    exact e
  have hp0 := hp.same S0
  have hq0 := hq.same S0
  refine ⟨x, dx, p, q, R, S, rfl, upd_same, hp0, hq0, rfl, k x _ (fun b o e => ?_) ⟨dx, p, q, upd_same, ?_, ?_⟩ hx⟩
  · rw [upd_ne (ne_of_none e hx), upd_ne (ne_of_none e hx)]
    exact S0 _ _ e
  · have n := pn_ne hp0 upd_same
    exact (hp0.off upd_same (fun _ z => by cases z) n).off upd_same (fun _ z => by cases z) n
  · have n := pn_ne hq0 upd_same
    exact (hq0.off upd_same (fun _ z => by cases z) n).off upd_same (fun _ z => by cases z) n
end
end LW

namespace LW
open PySem PySem.Spec PyProof.Rows L2 GL
section
variable {P : Program} {w : World} {K : PySem.W.Frag} {mg : Str → Option Value} {base : Heap}
def lieR (P Q R : List (List Rat)) : List (List Rat) := planeSum (planeMul P (planeSx R)) (planeMul Q (planeSy R))
/-- sizes with which a slope along a field may be reckoned -/
structure SA (D M d E' N e : Nat) : Prop where
  fD : Fz D M
  fE : Fz E' N
  fS : Fz E' (e * N)
  pr : ∃ n, (d + 1) * (d + 1) + 1 ≤ 2 ^ n ∧ n ≤ 12 ∧ Fz (D * E') (2 ^ n * (M * (e * N)))
  fs : Fz (D * E') ((d + 1) * ((d + 1) * (M * (e * N))) + (d + 1) * ((d + 1) * (M * (e * N))))
  hd : d ≤ 60
  he : e ≤ 200
theorem Nice.lie {D M d E' N e : Nat} {P Q R : List (List Rat)} (hP : Nice D M d P) (hQ : Nice D M d Q) (hR : Nice E' N e R) : Nice (D * E') ((d + 1) * ((d + 1) * (M * (e * N))) + (d + 1) * ((d + 1) * (M * (e * N)))) (d + (e - 1)) (lieR P Q R) := by
  have := (hP.mul hR.sx).sum (hQ.mul hR.sy)
  rw [Nat.max_self] at this
  exact this
def spSlAl (mg : Str → Option Value) : Sp := fun vs H Q _ => ∃ (f a : Addr) (R S U : List (List Rat)) (D M d E' N e : Nat), vs = [.ref f, .ref a] ∧ FdAt mg H f R S ∧ PnAt (pnA mg) H a U ∧ Nice D M d R ∧ Nice D M d S ∧ Nice E' N e U ∧ SA D M d E' N e ∧
  ∀ c H', L2.Same H H' → PnAt (pnA mg) H' c (lieR R S U) → Q (.ref c) H'
theorem SA.mul {D M d E' N e : Nat} (h : SA D M d E' N e) : BMul D M d E' (e * N) (e - 1) := ⟨h.fD, h.fS, h.hd, by have := h.he; omega, h.pr⟩
theorem ok_slope_along (T : Txt K mg) (TP : PlaneT K mg) (TF : FieldT K mg) : FnOk P w K mg base CX0 13 (fA mg "slope_along") (fDat K (fA mg "slope_along")) ["field", "plane"] (spSlAl mg) := by
  have GPlane_add := ok_Plane_add (P := P) (w := w) (base := base) T TP
  have GPlane_mul := ok_Plane_mul (P := P) (w := w) (base := base) T TP
  have GPlane_slope_x := ok_Plane_slope_x (P := P) (w := w) (base := base) T TP
  have GPlane_slope_y := ok_Plane_slope_y (P := P) (w := w) (base := base) T TP
  refine T.slope_along.F.ok scslope_along (fun vs H Q E h => ?_) (fun cdv A outer s H vs Q E hr h => ?_)
  · obtain ⟨f, a, R, S, U, D, M, d, E0, N, e, rfl, _⟩ := h
    rfl
  obtain ⟨f, a, R, S, U, D, M, d, E0, N, e, rfl, fa, pa, nR, nS, nU, sa, k⟩ := h
  refine ⟨_, (pss_one (ps_ret (pe_op (op_two TP.i_add GPlane_add (hr.mono (by decide)) TP.m_add.b) (pe_op (op_two TP.i_mul GPlane_mul (hr.mono (by decide)) TP.m_mul.b) (pe_fld (pv 0) (by rfl)) (pe_meth0 (pv 1) TP.cls TP.m_slope_x.meth GPlane_slope_x (hr.mono (by decide)) TP.m_slope_x.b .nil pass0)) (pe_op (op_two TP.i_mul GPlane_mul (hr.mono (by decide)) TP.m_mul.b) (pe_fld (pv 0) (by rfl)) (pe_meth0 (pv 1) TP.cls TP.m_slope_y.meth GPlane_slope_y (hr.mono (by decide)) TP.m_slope_y.b .nil pass0))))), ?_⟩
  have he := sa.he
  have hd := sa.hd
  refine r_ret (pl_op (mg := mg) (B := BSum) (pl_op (B := BMul) (pl_fp TF (val_var rfl) fa) (fun H1 s1 => pl_slope (by decide +kernel) (pl_val (val_var rfl) (pa.same s1)) nU sa.fE sa.fS (by omega)) nR nU.sx sa.mul)
    (fun H1 s1 => pl_op (B := BMul) (pl_fq TF (val_var rfl) (fa.same s1)) (fun H2 s2 => pl_slope (by decide +kernel) (pl_val (val_var rfl) ((pa.same s1).same s2)) nU sa.fE sa.fS (by omega)) nS nU.sy sa.mul) (nR.mul nU.sx) (nS.mul nU.sy) ⟨rfl, sa.fs, by omega, by omega⟩ _ k)
end
end LW

namespace LW
open PySem PySem.Spec PyProof.Rows L2 GL
section
variable {P : Program} {w : World} {K : PySem.W.Frag} {mg : Str → Option Value} {base : Heap}
def bareH (H : Hp) : Hp := fun b => match H b with
  | some (.tbl _) => none
  | o => o
def NoTab (S : Hp) : Prop := ∀ b ps, S b ≠ some (.tbl ps)
theorem bare_at {H : Hp} {b : Addr} {o : HO} (h : H b = some o) (n : ∀ ps, o ≠ .tbl ps) : bareH H b = some o := by
  unfold bareH
  rw [h]
  cases o with
  | tbl ps => exact (n ps rfl).elim
  | _ => rfl
theorem bare_of {H : Hp} {b : Addr} {o : HO} (h : bareH H b = some o) : H b = some o ∧ ∀ ps, o ≠ .tbl ps := by
  unfold bareH at h
  split at h
  · cases h
  · rename_i o' e
    exact ⟨h, fun ps z => e ps (by rw [h, z])⟩
theorem bare_no (H : Hp) : NoTab (bareH H) := fun b ps z => (bare_of z).2 ps rfl
theorem bare_in (H : Hp) : L2.Same (bareH H) H := fun b o h => (bare_of h).1
theorem ext_same {S H H1 : Hp} (n : NoTab S) (s : L2.Same S H) (x : LamX.ExtN H H1) : L2.Same S H1 := fun b o h => x b o (s b o h) fun ps z => n b ps (by rw [h, z])
theorem Tabs.but {T : List (Addr × Str)} {H H' : Hp} {p c : Addr} {m : Nat} (t : LamX.Tabs T H) (P : PenAt H p c m) (b : But p H H') : LamX.Tabs T H' := by
  obtain ⟨kvs, hd⟩ := P.dk
  intro q hq
  obtain ⟨ps, h1, h2, h3⟩ := t q hq
  refine ⟨ps, b _ _ h1 (fun z => by rw [z, hd] at h1; cases h1), h2, fun pos cv e => ?_⟩
  obtain ⟨c', e1, e2⟩ := h3 pos cv e
  exact ⟨c', e1, b _ _ e2 (fun z => by rw [z, hd] at e2; unfold LamX.CodeO at e2; cases e2)⟩
theorem Tabs.same {T : List (Addr × Str)} {H H' : Hp} (t : LamX.Tabs T H) (s : L2.Same H H') : LamX.Tabs T H' := t.ext s
theorem PenAt.bare {H : Hp} {p c : Addr} {m : Nat} (h : PenAt H p c m) : PenAt (bareH H) p c m := h.off (fun o e => by
  obtain ⟨kvs, hd⟩ := h.dk
  rw [hd] at e
  cases e
  exact bare_at hd (fun ps z => by cases z)) (fun o e => by
  obtain ⟨a, d, n, f, ns, _, hc, _⟩ := h
  rw [hc] at e
  cases e
  exact bare_at hc (fun ps z => by cases z))
theorem okGc {k : Nat} {f c : Addr} {fd : FuncData} {ps : List Str} {sp : Sp} {x qual : Str} {st : Stmt} {N : List Str} (F : Fun K x qual st f fd) (hc : fd.code = .ref c) (S : FnScope N ps (defScope st)) (len : ∀ vs H Q E, sp vs H Q E → vs.length = ps.length)
    (body : ∀ (A : Around) (outer : List Env) (s : Shared) (H : Hp) (vs : List V) (Q : VK) (E : XK), Room k (A.deeper (envOfC qual (defScope st) s.heap.objs.size f (.ref c))) → Quiet A → sp vs H Q E →
      ∃ t, PSs (cxOf CX0 P w K mg base N qual (defScope st) f (.ref c) A outer s H E).nox (defBody st) t ∧ t { nx := fun _ H' => Q .non H', rt := Q } (start N vs) H) : OkG P w K mg base CX0 (k + 1) f fd ps sp := by
  obtain ⟨oc, od, kV, doc, pm, an, cdv, ct, osl, rfl, lk, hcd⟩ := F.ex
  have ec : cdv = .ref c := hc
  subst ec
  refine ⟨len, fun A outer s H args us vs Q E hr hq e0 hb r hsp => ?_⟩
  have KS : K.In s.heap := e0.mod.kin.keeps (fun b o e => (e0.bs b o e).1)
  have NL : s.heap.NoLimit := e0.mod.nolimit.keeps (fun b o e => (e0.bs b o e).1)
  have hl := len _ _ _ _ hsp
  refine codeAny_call_function hr.depth (KS _ _ lk) rfl S.co S.gen rfl (PySem.W.codeRec_of KS hcd) (hb _ _ _ _ ?_)
  refine wpAny_newFunctionEnv_cells S.kind ?_ (fun env he s1 x => ?_)
  · rintro ⟨n, v⟩ hy
    rcases S.par n (List.of_mem_zip hy).1 with q | q
    · exact .inl q
    · exact .inr ⟨q, PySem.W.cellsFrom_some _ _ _ (.inl q)⟩
  subst he
  refine ⟨NL.keeps x.toInCall.keep, codeAny_func ?_⟩
  obtain ⟨t, ht, hT⟩ := body A outer s H vs Q E (hr.deeper _) hq hsp
  have I0 := inv_start (CX := CX0) (E := E) S hr.hd e0 hl r x
  refine wpAny_mono (ht.nox.run [] s1 (start N vs) H _ I0 hT) (fun fl s' hs => ?_) (fun e s' hs => hs)
  cases fl with
  | ret u =>
    obtain ⟨v, _, H', J, rv, q⟩ := hs
    exact ⟨v, H', J.os, J.bare, J.base, J.hok, rv, q⟩
  | next =>
    obtain ⟨_, H', J, q⟩ := hs
    exact ⟨V.non, H', J.os, J.bare, J.base, J.hok, rfl, q⟩
  | brk => obtain ⟨_, _, _, q⟩ := hs; exact q.elim
  | cont => obtain ⟨_, _, _, q⟩ := hs; exact q.elim
theorem t_unless1 {te : TE} {t1 : TS} {D : Ends} {σ : L2.St} {H : Hp} (h : te σ H fun v H1 => ∃ b, v = .bl b ∧ if b = true then t1 D σ H1 else D.nx σ H1) : tIfS (tTest te) t1 tNext D σ H := h
theorem tt_in {te : TE} {σ : L2.St} {H : Hp} {Q : Bool → Hp → Prop} (h : te σ H fun v H1 => ∃ b, v = .bl b ∧ Q b H1) : tTest te σ H Q := h

theorem strOk_app {a b : Str} (ha : PyData.strOk a = true) (hb : PyData.strOk b = true) : PyData.strOk (a ++ b) = true := by
  unfold PyData.strOk at *
  rw [PySem.Str.cps_append, Array.all_append, ha, hb]
  rfl
theorem strOk_of (s : String) : PyData.strOk (Str.ofString s) = true := by
  rw [PySem.Str.ofString_eq_toList]
  unfold PyData.strOk
  rw [List.all_toArray, List.all_eq_true]
  intro x hx
  obtain ⟨c, _, rfl⟩ := List.mem_map.mp hx
  have := c.valid
  refine decide_eq_true ?_
  unfold UInt32.isValidChar Nat.isValidChar at this
  show c.val.toNat < 1114112
  omega
theorem strOk_join {sep : Str} (hs : PyData.strOk sep = true) : ∀ ts : List Str, (∀ t ∈ ts, PyData.strOk t = true) → PyData.strOk (Str.join sep ts) = true
  | [], _ => by show PyData.strOk Str.empty = true; decide +kernel
  | [x], h => h x (by simp)
  | x :: y :: r, h => strOk_app (strOk_app (h x (by simp)) hs) (strOk_join hs (y :: r) fun t ht => h t (by simp [ht]))
theorem strOk_tuple {ts : List Str} (g : ∀ t ∈ ts, PyData.strOk t = true) : PyData.strOk (tupleText ts) = true := strOk_app (strOk_app (strOk_of _) (strOk_join (strOk_of _) ts g)) (strOk_of _)

def Nc (B k : Nat) (d : PyData) : Prop := d.showable = true ∧ d.shown.length ≤ B ∧ PyData.strOk d.shown = true ∧ d.depth ≤ k
theorem Nc.mono {B C k l : Nat} {d : PyData} (h : Nc B k d) (b : B ≤ C) (c : k ≤ l) : Nc C l d := ⟨h.1, Nat.le_trans h.2.1 b, h.2.2.1, Nat.le_trans h.2.2.2 c⟩
def NcAll (B k : Nat) (ds : List PyData) : Prop := ∀ d ∈ ds, Nc B k d
theorem nc_sum {B k : Nat} : ∀ {ds : List PyData}, NcAll B k ds → ((PyData.shownAll ds).map (·.length)).sum ≤ ds.length * B ∧ (PyData.shownAll ds).length = ds.length ∧ PyData.showableAll ds = true ∧ PyData.depthAll ds ≤ k ∧ ∀ t ∈ PyData.shownAll ds, PyData.strOk t = true
  | [], _ => by simp [PyData.shownAll, PyData.showableAll, PyData.depthAll]
  | d :: ds, h => by
    obtain ⟨h1, h2, h3, h4, h5⟩ := nc_sum (ds := ds) (fun x hx => h x (by simp [hx]))
    obtain ⟨a, b, c, e⟩ := h d (by simp)
    refine ⟨?_, ?_, ?_, ?_, ?_⟩
    · simp only [PyData.shownAll, List.map_cons, List.sum_cons, List.length_cons]
      rw [Nat.succ_mul]
      omega
    · simp only [PyData.shownAll, List.length_cons, h2]
    · simp only [PyData.showableAll, a, h3, Bool.and_self]
    · simp only [PyData.depthAll]
      omega
    · intro t ht
      simp only [PyData.shownAll, List.mem_cons] at ht
      rcases ht with rfl | ht
      · exact c
      · exact h5 t ht
theorem nc_tuple {B k : Nat} {ds : List PyData} (h : NcAll B k ds) : Nc (ds.length * (B + 2) + 3) (k + 1) (.tuple ds) := by
  obtain ⟨h1, h2, h3, h4, h5⟩ := nc_sum h
  refine ⟨by simp only [PyData.showable, h3], ?_, ?_, by simp only [PyData.depth]; omega⟩
  · have := tupleText_len_le (PyData.shownAll ds)
    simp only [PyData.shown]
    rw [h2] at this
    rw [Nat.mul_add]
    omega
  · simp only [PyData.shown]
    exact strOk_tuple h5
theorem Fine.nc {H : Hp} {v : V} {d : PyData} (f : Fine K H v d) : Nc 1000 3 d := ⟨f.2.1, f.2.2.2.1, f.2.2.2.2, f.2.2.1⟩
theorem lam_memT {P : Addr} {q r l : Str} {T : List (Addr × Str)} (hm : (P, r ++ l) ∈ T) (h : q = r) : (P, q ++ l) ∈ T := by rw [h]; exact hm
theorem lam_onlyT {P : Addr} {q r l : Str} {T : List (Addr × Str)} (ho : ∀ p ∈ T, p.1 = P → p.2 = r ++ l) (h : q = r) : ∀ p ∈ T, p.1 = P → p.2 = q ++ l := by rw [h]; exact ho

theorem va_x {te : TE} {tr : TA} {σ : L2.St} {H : Hp} {Q : List V → Hp → Prop} (h : te σ H fun v H1 => tr σ H1 fun vs H2 => Q (v :: vs) H2) : tCons te tr σ H Q := h
theorem lo_upd {H : Hp} {f p : Addr} {ws zs : List V} {q : Rat} (e : H f = some (.lst ws)) (lo : Lo H p q) : Lo (upd H f (.lst zs)) p q := by
  unfold Lo at lo ⊢
  rw [upd_ne (fun z => by rw [z, e] at lo; cases lo)]
  exact lo
theorem not_in {t : TT} {σ : L2.St} {H : Hp} {Q : Bool → Hp → Prop} (h : t σ H fun c H1 => Q (!c) H1) : tNot t σ H Q := h
theorem ne_sameV {v : V} {H : Hp} {Q : VK} (hs : scal v v = true) (q : Q (.bl false) H) : rNe v v H Q := ⟨hs, by rw [decide_eq_true rfl]; exact q⟩
theorem list_shaped {ds : List PyData} (h : PyData.canLayAll0 ds = true) (d : PyData.depthAll ds ≤ 2) : SeqAt.shaped (.list ds) = true := by
  refine Bool.and_eq_true_iff.mpr ⟨h, decide_eq_true ?_⟩
  have e : (PyData.list ds).depth = 1 + PyData.depthAll ds := by simp [PyData.depth]; omega
  rw [e]
  omega
theorem dr_add : dunderR (Operator.info .Add).2 = ("__radd__" : Str) := by decide +kernel
theorem dr_sub : dunderR (Operator.info .Sub).2 = ("__rsub__" : Str) := by decide +kernel
theorem dr_mul : dunderR (Operator.info .Mult).2 = ("__rmul__" : Str) := by decide +kernel
theorem PlaneT.rT_mul (TP : PlaneT K mg) : OpR' K (pnA mg) (mA K (pnA mg) "__rmul__") "tuple" .Mult false := ⟨TP.me, ⟨_, by rw [dn_mul]; exact TP.m_mul.at_⟩, by rw [dr_mul]; exact TP.m_rmul.at_, TP.m_rmul.fn, (TP.lr .Mult (.inr (.inr rfl))).2, TP.subC _ (.inr rfl)⟩
end
end LW

namespace LW
open PySem PySem.Spec PyProof.Rows L2 GL
section
variable {P : Program} {w : World} {K : PySem.W.Frag} {mg : Str → Option Value} {base : Heap}
theorem DW.but {H H' : Hp} {d p c : Addr} {m : Nat} {L : List En} (h : DW H d L) (P : PenAt H p c m) (b : But p H H') : DW H' d L := by
  obtain ⟨kvs, e, de⟩ := h
  obtain ⟨ks, hd⟩ := P.dk
  exact ⟨kvs, b _ _ e (ne_of e hd (by intro z; cases z)), de.tu fun c xs ec => b _ _ ec (ne_of ec hd (by intro z; cases z))⟩
theorem PnAt.but {C : Addr} {H H' : Hp} {a p c : Addr} {m : Nat} {R : List (List Rat)} (h : PnAt C H a R) (P : PenAt H p c m) (b : But p H H') : PnAt C H' a R := by
  obtain ⟨dx, t, e, ls, can⟩ := h
  obtain ⟨ks, hd⟩ := P.dk
  exact ⟨dx, t, b _ _ e (ne_of e hd (by intro z; cases z)), ls.tu fun c xs ec => b _ _ ec (ne_of ec hd (by intro z; cases z)), can⟩
theorem DE.nodup {H : Hp} {d : Addr} {M : List En} (h : DW H d M) : (M.map (·.1)).Nodup := h.choose_spec.2.2


/-- a dict of the law's own and the rows with its numbers -/
structure Pd (H : Hp) (d : Addr) (L : List En) (g : Nat) (R : List (List Rat)) : Prop where
  dw : DW H d L
  dg : ∀ e ∈ L, e.1.1 + e.1.2 ≤ g
  nz : LW.nz L
  cf : ∀ i j, cf2 R i j = LW.cf L i j
theorem Pd.same {H H' : Hp} {d g : Nat} {L : List En} {R : List (List Rat)} (h : Pd H d L g R) (s : L2.Same H H') : Pd H' d L g R := ⟨h.dw.same s, h.dg, h.nz, h.cf⟩
theorem Pd.bdc {H : Hp} {d g D M k : Nat} {L : List En} {R : List (List Rat)} (h : Pd H d L g R) (n : Nice D M k R) : BdC D M L := fun i j => by rw [← h.cf]; exact n.bd i j
/-- rows of numbers as they are drawn -/
theorem nice_of {L : List En} {R : List (List Rat)} {D M g : Nat} (nd : (L.map (·.1)).Nodup) (b : ∀ e ∈ L, Bd D M e.2) (dg : ∀ e ∈ L, e.1.1 + e.1.2 ≤ g) (c : ∀ i j, cf2 R i j = cf L i j) : Nice D M g R := ⟨fun i j => by
  rw [c]
  by_cases z : (i, j) ∈ L.map (·.1)
  · obtain ⟨e, he, y⟩ := List.mem_map.mp z
    have := cf_in (k := e.1) (q := e.2) he nd
    rw [y] at this
    rw [show cf L i j = e.2 from this]
    exact b e he
  · rw [cf_out z]
    exact Bd.zero, fun i j l => by
  rw [c]
  exact cf_out fun z => by
    obtain ⟨e, he, y⟩ := List.mem_map.mp z
    have := dg e he
    rw [y] at this
    omega⟩

/-! ### is a told plane a polynomial of the law's own -/
/-! ### the slope along a field -/
theorem tm_pm {La Lb : List En} {R S : List (List Rat)} (hR : ∀ i j, cf2 R i j = cf La i j) (hS : ∀ i j, cf2 S i j = cf Lb i j) (i j : Nat) : cf2 (planeMul R S) i j = tm La Lb i j := by
  rw [cf2_planeMul, tm_box]
  exact rs_congr fun p _ => by rw [hR, hS]
/-! ### fields as the law makes them -/
def spMadeFd (mg : Str → Option Value) : Sp := fun vs H Q _ => ∃ (p c f d1 d2 : Addr) (m g : Nat) (Ja Jb : List En), vs = [.ref p, .ref f] ∧ PenAt H p c m ∧ m + 6 * (g + 1) * (g + 1) + 6 < most ∧ H f = some (.tup [.ref d1, .ref d2]) ∧ DW H d1 Ja ∧ DW H d2 Jb ∧ KF g 3 Ja ∧ KF g 3 Jb ∧ g ≤ 5 ∧ ∀ a H' R S, FdAt mg H' a R S → (∀ i j, cf2 R i j = cf Ja i j) → (∀ i j, cf2 S i j = cf Jb i j) → But p H H' → PenAt H' p c (m + 6 * (g + 1) * (g + 1)) → Q (.ref a) H'
theorem ok_law_made_field (T : Txt K mg) (TP : PlaneT K mg) (TF : FieldT K mg) : FnOk P w K mg base CX0 11 (fA mg "_law_made_field") (fDat K (fA mg "_law_made_field")) ["_law_pen_here", "_law_f"] (spMadeFd mg) := by
  have G_law_made_plane := ok_law_made_plane (P := P) (w := w) (base := base) T TP
  have GField_init := ok_Field_init (P := P) (w := w) (base := base) T TP TF
  refine T._law_made_field.F.ok sc_law_made_field (fun vs H Q E h => ?_) (fun cdv A outer s H vs Q E hr h => ?_)
  · obtain ⟨p, c, f, d1, d2, m, g, Ja, Jb, rfl, _⟩ := h
    rfl
  obtain ⟨p, c, f, d1, d2, m, g, Ja, Jb, rfl, hP, hm, ef, w1, w2, k1, k2, hg, k⟩ := h
  refine ⟨_, (pss_one (ps_ret (pe_make TF.mkc GField_init (hr.mono (by decide)) (by rfl) TF.g TF.m_init.b .nil pass0 (pa_cons (pe_c T._law_made_plane G_law_made_plane (hr.mono (by decide)) (pa_cons (pv 0) (pa_cons (pe_ix ix_tup (pv 1) pe_int (fun _ _ => rfl)) pa_nil))) (pa_cons (pe_c T._law_made_plane G_law_made_plane (hr.mono (by decide)) (pa_cons (pv 0) (pa_cons (pe_ix ix_tup (pv 1) pe_int (fun _ _ => rfl)) pa_nil))) pa_nil))))), ?_⟩
  have n1 := keys_len (DE.nodup w1) k1.deg
  have n2 := keys_len (DE.nodup w2) k2.deg
  have l9 : (g + 1) * (g + 1) ≤ 6 * 6 := Nat.mul_le_mul (by omega) (by omega)
  have e3 : 3 * (g + 1) * (g + 1) = 3 * ((g + 1) * (g + 1)) := Nat.mul_assoc _ _ _
  have e6 : 6 * (g + 1) * (g + 1) = 6 * ((g + 1) * (g + 1)) := Nat.mul_assoc _ _ _
  rw [e6] at hm k
  refine r_ret (show tMake _ _ _ _ _ _ _ _ from va_x (call_1 ((val_var rfl) _ (va_1 ((v_ixT (n := 0) (val_var rfl) val_c (SqT.of ef) rfl) _ ?_)))))
  refine ⟨p, c, d1, m, g + 1, 10, Ja, rfl, hP, by rw [e3]; omega, w1.dp, k1.bx, by omega, by omega, k1.smc (DE.nodup w1), by decide, by decide, fun a H1 R pa cR b1 P1 => ?_⟩
  obtain ⟨ks, hd⟩ := hP.dk
  have ef1 := b1 _ _ ef (ne_of ef hd (by intro z; cases z))
  refine va_1 (call_1 ((val_var rfl) _ (va_1 ((v_ixT (n := 1) (val_var rfl) val_c (SqT.of ef1) rfl) _ ?_))))
  refine ⟨p, c, d2, _, g + 1, 10, Jb, rfl, P1, by rw [e3]; omega, (w2.but hP b1).dp, k2.bx, by omega, by omega, k2.smc (DE.nodup w2), by decide, by decide, fun a2 H2 S pb cS b2 P2 => ?_⟩
  exact made_field (pa.but P1 b2) pb fun x H3 s3 fx _ => k x H3 R S fx cR cS ((b1.trans b2).trans (But.of s3)) ((P2.le (by rw [e3]; omega)).same s3)
/-! ### a place as a caller may pass it -/
end
end LW

namespace LW
open PySem PySem.Spec PyProof.Rows L2 GL
section
variable {P : Program} {w : World} {K : PySem.W.Frag} {mg : Str → Option Value} {base : Heap}
/-- what _law_fault makes of a call that raises: the fields of a BadNumber or of a BadRow -/
def TTfault (K : PySem.W.Frag) (mg : Str → Option Value) : (XK → Hp → VK → Prop) → Hp → VK → Prop := fun tl H Q => ∀ p0, H p0 = none → ∀ Qn : VK,
  tl (fun cls d H' => (cls = .ref (fA mg "BadNumber") ∧ ∃ (dd : Addr) (v wh : V), d = some dd ∧ H' dd = some (.xd [("number", v), ("what", wh)]) ∧ ∀ (p : Addr) (H2 : Hp), L2.Same H' H2 → H2 p = some (.tup [.str "number", wh, v]) → Q (.ref p) H2) ∨
    (cls = .ref (fA mg "BadRow") ∧ ∃ (dd : Addr) (v : V), d = some dd ∧ H' dd = some (.xd [("row", v)]) ∧ ∀ (p : Addr) (H2 : Hp), L2.Same H' H2 → H2 p = some (.tup [.str "row", v]) → Q (.ref p) H2))
    (upd H p0 (.tup [.str "none"])) Qn
theorem fin_f {σ : L2.St} {H : Hp} {x p : Addr} {D : Ends} (hl : σ.length = 3) (q : D.rt (.ref p) H) : tRet (tVar 1) D (((σ.set 2 (some (V.ref x))).set 1 (some (V.ref p))).set 2 none) H := by
  refine st_ret (val_var (v := .ref p) ?_) q
  rw [List.getElem?_set_ne (by decide), List.getElem?_set_self (by rw [List.length_set, hl]; decide)]
theorem fault_gives {X : Cx} (T : Txt X.K X.mg) (hq : Quiet X.A) {q : Str} {cdg : Value} (hr : ∀ e, Room 1 (X.A.deeper e)) : LamX.GivesTo X ["_law_call", "_law_found", "error"] "_law_fault" (defScope s_law_fault) (fA X.mg "_law_fault") cdg (defBody s_law_fault) "_law_call" q (TTfault X.K X.mg) := by
  intro f c' s H Q tl act hc h
  have xN := ExcC.xf T.BadNumber.e
  have xR := ExcC.xf T.BadRow.e
  refine ⟨_, pss_cons (ps_set (i := 1) sc_law_fault.nd rfl (Or.inl rfl) (pe_tup (pa_cons pe_str pa_nil)))
    (pss_cons (TM.ps_try_names (X := (cxOf C8.CX0 X.prog X.w X.K X.mg X.base ["_law_call", "_law_found", "error"] "_law_fault" (defScope s_law_fault) (fA X.mg "_law_fault") cdg X.A X.stack s H C8.E0).nox) (tb := fun W D σ H => ∃ Ech : XK, (∀ cls d σ' H', Ech cls d H' → W cls d σ' H') ∧ σ[0]? = some (some (.ref f)) ∧ H c' = some (LamX.CodeO c' q) ∧ tl Ech H (fun _ H' => D.nx σ H'))
      rfl rfl sc_law_fault.nd LamX.takes0 (fun W pn xe tk _ => ?_)
      (.cons (i := 2) rfl rfl ⟨by rfl, by decide, .inl T.BadNumber.g⟩ (fun a oe cls d pn hz hf => pss_one (ps_set (i := 1) sc_law_fault.nd rfl (Or.inl rfl) (pe_tup (pa_cons pe_str (pa_cons (pe_xf xN (T.BadNumber.n _ (by simp)) hz hf (pv 2)) (pa_cons (pe_xf xN (T.BadNumber.n _ (by simp)) hz hf (pv 2)) pa_nil))))))
      (.cons (i := 2) rfl rfl ⟨by rfl, by decide, .inl T.BadRow.g⟩ (fun a oe cls d pn hz hf => pss_one (ps_set (i := 1) sc_law_fault.nd rfl (Or.inl rfl) (pe_tup (pa_cons pe_str (pa_cons (pe_xf xR (T.BadRow.n _ (by simp)) hz hf (pv 2)) pa_nil))))) .nil)))
      (pss_one (ps_ret (pv 1)))), ?_⟩
  case refine_1 =>
    refine ⟨fun pins s' σ H' D I h' => ?_⟩
    obtain ⟨Ech, hW, h1, h2, h3⟩ := h'
    exact (pss_one (ps_expr (act W pn xe Ech _ _ tk hW))).run pins s' σ H' D I ⟨h1, h2, h3⟩
  case refine_2 =>
    refine q_asg (l_tup (va_cons val_c va_nil) (by show 1 ≤ 100000; decide) fun p0 hp0 => ?_)
    have s0 := Same.new' (o := .tup [.str "none"]) hp0
    refine ⟨_, fun cls d σ' H' e => ?_, rfl, s0 _ _ hc, h p0 hp0 _⟩
    rcases e with e | e
    case inr =>
      obtain ⟨rfl, dd, v, rfl, hx, k⟩ := e
      intro hl
      refine ⟨false, T.xBadRowBadNumber, And.intro (fun z => (Bool.false_ne_true z).elim) (fun _ => ?_)⟩
      refine ⟨true, T.xBadRowBadRow, And.intro (fun _ a ha => ?_) (fun z => (Bool.false_ne_true z.symm).elim)⟩
      have h1 : (σ'.set 2 (some (V.ref a)))[2]? = some (some (V.ref a)) := by
        rw [List.getElem?_set_self (by rw [hl]; show 2 < 3; decide)]
      have n1 : Val (tXf a (.ref (fA X.mg "BadRow")) (some dd) (fA X.mg "BadRow") "row" (tVar 2)) (σ'.set 2 (some (V.ref a))) H' v := fun Q q => (val_var h1) _ ⟨rfl, rfl, dd, _, _, rfl, hx, rfl, q⟩
      refine (show tAsg (tTup _) (gName 1) _ _ _ from l_tup (va_cons val_c (va_cons n1 va_nil)) (by show 2 ≤ 100000; decide) fun p hp => ?_)
      exact fin_f hl (k p _ (Same.new' hp) upd_same)
    obtain ⟨rfl, dd, v, wh, rfl, hx, k⟩ := e
    intro hl
    refine ⟨true, T.xBadNumberBadNumber, And.intro (fun _ a ha => ?_) (fun z => (Bool.false_ne_true z.symm).elim)⟩
    have h1 : (σ'.set 2 (some (V.ref a)))[2]? = some (some (V.ref a)) := by
      rw [List.getElem?_set_self (by rw [hl]; show 2 < 3; decide)]
    have fd : ∀ {n : Str} {z : V}, ([("number", v), ("what", wh)] : List (Str × V)).lookup n = some z → Val (tXf a (.ref (fA X.mg "BadNumber")) (some dd) (fA X.mg "BadNumber") n (tVar 2)) (σ'.set 2 (some (V.ref a))) H' z := fun l Q q =>
      (val_var h1) _ ⟨rfl, rfl, dd, _, _, rfl, hx, l, q⟩
    have w1 := fd (n := "what") (z := wh) (by
      have ne : (("what" : Str) == ("number" : Str)) = false := by decide +kernel
      rw [List.lookup_cons, ne]
      rfl)
    have n1 := fd (n := "number") (z := v) rfl
    refine (show tAsg (tTup _) (gName 1) _ _ _ from l_tup (va_cons val_c (va_cons w1 (va_cons n1 va_nil))) (by show 3 ≤ 100000; decide) fun p hp => ?_)
    exact fin_f hl (k p _ (Same.new' hp) upd_same)
end
end LW

namespace LW
open PySem PySem.Spec PyProof.Rows L2 GL
section
variable {P : Program} {w : World} {K : PySem.W.Frag} {mg : Str → Option Value} {base : Heap}
/-! ### values that are no places, no numbers -/
inductive OdL (H : Hp) : V → Prop
  | non : OdL H .non
  | int : OdL H (.int 3)
  | str : OdL H (.str "12")
  | tup {q : Addr} {xs : List V} (e : H q = some (.tup xs)) (h : xs = [] ∨ xs = [.int 1] ∨ xs = [.int 1, .int 2, .int 3] ∨ xs = [.int 1, .non] ∨ xs = [.str "1", .int 2] ∨ xs = [.bl true, .int 1]) : OdL H (.ref q)
  | lst {q : Addr} (e : H q = some (.lst [.int 0, .bl false])) : OdL H (.ref q)
  | dic {q : Addr} (e : H q = some (.dK [])) : OdL H (.ref q)
  | nest {q r : Addr} (e : H q = some (.tup [.int 1, .ref r])) (e2 : H r = some (.tup [.int 1, .int 0])) : OdL H (.ref q)
  | nes2 {q r : Addr} (e : H q = some (.tup [.ref r])) (e2 : H r = some (.tup [.int 1, .int 2])) : OdL H (.ref q)
theorem pen_keep {H H' : Hp} {p c q : Addr} {m : Nat} {o : HO} (P : PenAt H p c m) (b : But p H H') (e : H q = some o) (n : ∀ kvs, o = .dK kvs → kvs.length < 5) : H' q = some o := by
  obtain ⟨a, d, n', f, ns, hp, _⟩ := P
  refine b q o e fun z => ?_
  rw [z, hp] at e
  have := n _ (Option.some.inj e).symm
  exact absurd this (by show ¬ 5 < 5; decide)
theorem kkF {H : Hp} {v : V} {d : PyData} (a : Dd K H v d) (b : d.showable = true ∧ d.depth ≤ 3 ∧ d.shown.length ≤ 1000 ∧ PyData.strOk d.shown = true) : ∃ d, Fine K H v d := ⟨_, a, b⟩
inductive OdM (H : Hp) : V → Prop
  | m1 : OdM H (.int (-1))
  | m7 : OdM H (.int 7)
  | bl : OdM H (.bl true)
  | non : OdM H .non
  | str : OdM H (.str "1")
  | tup {q : Addr} (e : H q = some (.tup [.int 1, .int 1])) : OdM H (.ref q)
def Alls (G : V → Hp → Prop) (n : Nat) (vs : List V) (H : Hp) : Prop := (∀ v ∈ vs, G v H) ∧ vs.length = n
section
variable {G : V → Hp → Prop} (gs : ∀ {H H' : Hp} {v : V}, G v H → L2.Same H H' → G v H')
include gs
theorem Alls.stays {n : Nat} : Stays (Alls G n) := fun vs H1 H2 s h => ⟨fun v hv => gs (h.1 v hv) s, h.2⟩
theorem al_nil {σ : L2.St} {H : Hp} : VM tNil σ H (Alls G 0) := fun Q q => q [] H (Same.refl H) ⟨(fun _ h => nomatch h), rfl⟩
theorem al_cons {σ : L2.St} {H : Hp} {te : TE} {tr : TA} {n : Nat} (h : EM te σ H G) (hr : ∀ H1, VM tr σ H1 (Alls G n)) : VM (tCons te tr) σ H (Alls G (n + 1)) := fun Q q =>
  h _ fun v H1 s1 p1 => hr H1 _ fun r H2 s2 ⟨r2, e2⟩ => q (v :: r) H2 (s1.trans s2) ⟨fun x hx => by
    rcases List.mem_cons.mp hx with e | e
    · rw [e]; exact gs p1 s2
    · exact r2 x e, by rw [List.length_cons, e2]⟩
end
theorem al_val {G : V → Hp → Prop} {σ : L2.St} {H : Hp} {te : TE} {v : V} (h : Val te σ H v) (g : G v H) : EM te σ H G := fun Q q => h _ (q v H (Same.refl H) g)
/-! ### what is refused -/
theorem nc_str {s : String} (h : (PyData.str (Str.ofString s)).showable = true ∧ (PyData.str (Str.ofString s)).depth ≤ 3 ∧ (PyData.str (Str.ofString s)).shown.length ≤ 1000 ∧ PyData.strOk (PyData.str (Str.ofString s)).shown = true) : Nc 1000 3 (.str (Str.ofString s)) := ⟨h.1, h.2.2.1, h.2.2.2, h.2.1⟩
end
end LW

namespace LW
open PySem PySem.Spec PyProof.Rows L2 GL
section
variable {P : Program} {w : World} {K : PySem.W.Frag} {mg : Str → Option Value} {base : Heap}
theorem lst_one {σ : L2.St} {H : Hp} {t1 : TE} {Q : VK} (h : t1 σ H fun v H1 => 1 ≤ sizeLine ∧ ∀ q, H1 q = none → Q (.ref q) (upd H1 q (.lst [v]))) : tLst (tCons t1 tNil) σ H Q := h
theorem cf2_one (q : Rat) (i j : Nat) : cf2 (planeR [[q]]) i j = if i = 0 ∧ j = 0 then q else 0 := by
  rw [cf2_planeR]
  unfold cf2
  match i, j with
  | 0, 0 => exact co_some rfl
  | 0, j + 1 => 
    rw [if_neg (by omega)]
    exact co_none (by show 1 ≤ j + 1; omega)
  | i + 1, j => 
    rw [if_neg (by omega), rowAt_none (by show 1 ≤ i + 1; omega)]
    exact co_none (Nat.zero_le _)
/-- 1 / (k + 1) -/
def frac (k : Nat) : Rat := Rat.divInt 1 ((k + 1 : Nat) : Int)
theorem bd_frac (k : Nat) : Bd (k + 1) 1 (frac k) := Bd.of (Nat.succ_pos k) (Nat.dvd_refl _) (by show 1 ≤ 1 * (k + 1); omega)
theorem nice_frac (k : Nat) : Nice (k + 1) 1 0 (planeR [[frac k]]) := ⟨fun i j => by
  rw [cf2_one]
  split
  · exact bd_frac k
  · exact Bd.zero, fun i j l => by
  rw [cf2_one, if_neg (by omega)]⟩
/-- (1, k + 1) * plane -/
theorem pl_scale {ta : TA} {t2 : TE} {σ : L2.St} {H : Hp} {k D M d : Nat} {R : List (List Rat)} (hv : VA ta σ H [.int 1, .int ((k + 1 : Nat) : Int)]) (hk : k ≤ 6) (h : ∀ H1, L2.Same H H1 → PlG mg t2 σ H1 R) (nR : Nice D M d R) (f : Fz D M) (hd : d ≤ 300) (f2 : Fz ((k + 1) * D) (2 ^ 1 * (1 * M))) :
    PlG mg (tOp (fun x y H Q => ∃ a dx fs q xs, y = .ref a ∧ H a = some (.ins (pnA mg) dx fs) ∧ x = .ref q ∧ H q = some (.tup xs) ∧ spBinP mg (BRev BMul) (fun R S => planeMul S R) [y, x] H (obQ Q) E0) (tTup ta) t2) σ H (planeMul (planeR [[frac k]]) R) := fun Q q => l_tup hv (by show 2 ≤ 100000; decide) fun t ht => h _ (Same.new' ht) _ fun b H1 s1 pb => by
  have et := s1 _ _ upd_same
  obtain ⟨dx, fs, eb⟩ := pb.obj
  have f1 : Fz (k + 1) 1 := ⟨Nat.succ_pos k, Nat.lt_of_lt_of_le (show k + 1 < 2 ^ 3 by omega) (Nat.pow_le_pow_right (by decide) (by decide)), Nat.lt_of_lt_of_le (show 1 * (k + 1) < 2 ^ 3 by omega) (Nat.pow_le_pow_right (by decide) (by decide))⟩
  exact ⟨b, dx, fs, t, _, rfl, eb, rfl, et, b, .ref t, R, planeR [[frac k]], D, M, d, k + 1, 1, 0, rfl, pb, .inr ⟨_, ⟨⟨1, ((k + 1 : Nat) : Int), .pair (.inr et) (by omega), ⟨Nat.one_lt_two_pow (by decide), f1.db⟩, rfl⟩, .inr ⟨t, _, rfl, et⟩⟩, rfl⟩, nR, nice_frac k, ⟨f1, f, by omega, hd, 1, by decide, by decide, f2⟩, fun c H' s po => ⟨⟨_, rfl⟩, q c H' (((Same.new' ht).trans s1).trans s) po⟩⟩
theorem pl_scale' {ta : TA} {t2 : TE} {σ : L2.St} {H : Hp} {k D M d : Nat} {R : List (List Rat)} {F : List (List Rat) → List (List Rat) → List (List Rat)} (hF : F = fun R S => planeMul S R) (hv : VA ta σ H [.int 1, .int ((k + 1 : Nat) : Int)]) (hk : k ≤ 6) (h : ∀ H1, L2.Same H H1 → PlG mg t2 σ H1 R) (nR : Nice D M d R) (f : Fz D M) (hd : d ≤ 300) (f2 : Fz ((k + 1) * D) (2 ^ 1 * (1 * M))) :
    PlG mg (tOp (fun x y H Q => ∃ a dx fs q xs, y = .ref a ∧ H a = some (.ins (pnA mg) dx fs) ∧ x = .ref q ∧ H q = some (.tup xs) ∧ spBinP mg (BRev BMul) F [y, x] H (obQ Q) E0) (tTup ta) t2) σ H (planeMul (planeR [[frac k]]) R) := by
  subst hF
  exact pl_scale hv hk h nR f hd f2
/-- the terms of the series -/
def srN (R S U : List (List Rat)) : Nat → List (List Rat)
  | 0 => U
  | k + 1 => planeMul (planeR [[frac k]]) (lieR R S (srN R S U k))
def uX : List (List Rat) := planeR [[], [1]]
def uY : List (List Rat) := planeR [[0, 1]]
def lieM (d M e N : Nat) : Nat := (d + 1) * ((d + 1) * (M * (e * N))) + (d + 1) * ((d + 1) * (M * (e * N)))
/-- the sizes of the terms -/
def szN (D M d : Nat) : Nat → Nat × Nat × Nat
  | 0 => (1, 1, 1)
  | k + 1 => ((k + 1) * (D * (szN D M d k).1), (0 + 1) * ((0 + 1) * (1 * lieM d M (szN D M d k).2.2 (szN D M d k).2.1)), 0 + (d + ((szN D M d k).2.2 - 1)))
structure SzN (D M d k : Nat) : Prop where
  sa : SA D M d (szN D M d k).1 (szN D M d k).2.1 (szN D M d k).2.2
  fs : Fz ((k + 1) * (D * (szN D M d k).1)) (2 ^ 1 * (1 * lieM d M (szN D M d k).2.2 (szN D M d k).2.1))
theorem nice_srN {R S U : List (List Rat)} {D M d : Nat} (nR : Nice D M d R) (nS : Nice D M d S) (nU : Nice 1 1 1 U) : ∀ k, Nice (szN D M d k).1 (szN D M d k).2.1 (szN D M d k).2.2 (srN R S U k)
  | 0 => nU
  | k + 1 => (nice_frac k).mul (nR.lie nS (nice_srN nR nS nU k))
theorem nice_uX : Nice 1 1 1 uX := by
  have e : ∀ i j, cf2 uX i j = if i = 1 ∧ j = 0 then 1 else 0 := fun i j => by
    unfold uX
    rw [cf2_planeR]
    unfold cf2
    match i, j with
    | 0, j => rw [if_neg (by omega)]; exact co_none (Nat.zero_le _)
    | 1, 0 => exact co_some rfl
    | 1, j + 1 => rw [if_neg (by omega)]; exact co_none (by show 1 ≤ j + 1; omega)
    | i + 2, j => rw [if_neg (by omega), rowAt_none (by show 2 ≤ i + 2; omega)]; exact co_none (Nat.zero_le _)
  exact ⟨fun i j => by rw [e]; split; exact Bd.nat 1; exact Bd.zero, fun i j l => by rw [e, if_neg (by omega)]⟩
theorem nice_uY : Nice 1 1 1 uY := by
  have e : ∀ i j, cf2 uY i j = if i = 0 ∧ j = 1 then 1 else 0 := fun i j => by
    unfold uY
    rw [cf2_planeR]
    unfold cf2
    match i, j with
    | 0, 0 => exact co_some rfl
    | 0, 1 => exact co_some rfl
    | 0, j + 2 => rw [if_neg (by omega)]; exact co_none (by show 2 ≤ j + 2; omega)
    | i + 1, j => rw [if_neg (by omega), rowAt_none (by show 1 ≤ i + 1; omega)]; exact co_none (Nat.zero_le _)
  exact ⟨fun i j => by rw [e]; split; exact Bd.nat 1; exact Bd.zero, fun i j l => by rw [e, if_neg (by omega)]⟩
/-- a tuple of two polynomials -/
def Pr2 (mg : Str → Option Value) (H : Hp) (v : V) (z : List (List Rat) × List (List Rat)) : Prop := ∃ t a b, v = V.ref t ∧ H t = some (.tup [.ref a, .ref b]) ∧ PnAt (pnA mg) H a z.1 ∧ PnAt (pnA mg) H b z.2
theorem Pr2.same {H H' : Hp} {v : V} {z : List (List Rat) × List (List Rat)} (h : Pr2 mg H v z) (s : L2.Same H H') : Pr2 mg H' v z := by
  obtain ⟨t, a, b, e, et, h1, h2⟩ := h
  exact ⟨t, a, b, e, s _ _ et, h1.same s, h2.same s⟩
theorem PnAt.offL {H : Hp} {a l : Addr} {R : List (List Rat)} {xs ys : List V} (h : PnAt (pnA mg) H a R) (e : H l = some (.lst xs)) : PnAt (pnA mg) (upd H l (.lst ys)) a R := by
  refine h.off e (fun _ z => by cases z) fun z => ?_
  obtain ⟨dx, t, ea, _⟩ := h
  rw [← z, e] at ea
  cases ea
theorem Pr2.off {H : Hp} {v : V} {l : Addr} {z : List (List Rat) × List (List Rat)} {xs ys : List V} (h : Pr2 mg H v z) (e : H l = some (.lst xs)) : Pr2 mg (upd H l (.lst ys)) v z := by
  obtain ⟨t, a, b, ev, et, h1, h2⟩ := h
  exact ⟨t, a, b, ev, by rw [upd_ne (ne_of et e (by intro z; cases z))]; exact et, h1.offL e, h2.offL e⟩
def srP (R S : List (List Rat)) (i : Nat) : List (List Rat) × List (List Rat) := (srN R S uX i, srN R S uY i)
def Ser (mg : Str → Option Value) (H : Hp) (vs : List V) (R S : List (List Rat)) (n : Nat) : Prop := All2 (Pr2 mg H) vs ((List.range n).map (srP R S))
theorem Ser.same {H H' : Hp} {vs : List V} {R S : List (List Rat)} {n : Nat} (h : Ser mg H vs R S n) (s : L2.Same H H') : Ser mg H' vs R S n := h.imp fun _ _ z => z.same s
theorem Ser.len {H : Hp} {vs : List V} {R S : List (List Rat)} {n : Nat} (h : Ser mg H vs R S n) : vs.length = n := by
  have := All2.len h
  rwa [List.length_map, List.length_range] at this
theorem Ser.get {H : Hp} {vs : List V} {R S : List (List Rat)} {n i : Nat} (h : Ser mg H vs R S n) (hi : i < n) : ∃ v, vs[i]? = some v ∧ Pr2 mg H v (srP R S i) := by
  have l := h.len
  have e : vs[i]? = some vs[i] := List.getElem?_eq_getElem (by omega)
  obtain ⟨x, hx, p⟩ := All2.get h e
  rw [List.getElem?_map, List.getElem?_range hi] at hx
  cases hx
  exact ⟨_, e, p⟩
def spSer (mg : Str → Option Value) : Sp := fun vs H Q E => ∃ (f : Addr) (v : V) (R S : List (List Rat)), vs = [.ref f, v] ∧ FdAt mg H f R S ∧ ((∃ (n D M d : Nat), v = .int (n : Int) ∧ n ≤ 6 ∧ Nice D M d R ∧ Nice D M d S ∧ (∀ i, i < n → SzN D M d i) ∧
  ∀ t vs H', L2.Same H H' → H' t = some (.tup vs) → Ser mg H' vs R S (n + 1) → Q (.ref t) H') ∨ (((∃ i, v = .int i ∧ (i < 0 ∨ 6 < i)) ∨ ∃ n, Is H v n ∧ n ≠ "int") ∧ Bad mg H (.str "order") v E))
theorem pl_x {σ : L2.St} {H : Hp} : PlG mg (tMake (pnA mg) (spPInit mg) [] E0 (tCons (tTup (tCons (tTup tNil) (tCons (tTup (tCons (tC (.int 1)) tNil)) tNil))) tNil)) σ H uX := fun Q q => va_1 (tup_two (l_tup va_nil (by decide) fun t1 h1 => l_tup (va_cons val_c va_nil) (by show 1 ≤ 100000; decide) fun t2 h2 => ⟨by decide, fun t3 h3 => by
  have u1 := Same.new' (o := .tup []) h1
  have u2 := Same.new' (o := .tup [V.int 1]) h2
  have u3 := Same.new' (o := .tup [V.ref t1, .ref t2]) h3
  exact made_plane ⟨t3, [.ref t1, .ref t2], rfl, .inr upd_same, by show 2 ≤ 1000; decide, .cons ⟨t1, [], rfl, .inr (u3 _ _ (u2 _ _ upd_same)), by show 0 ≤ 1000; decide, .nil⟩ (.cons ⟨t2, [.int 1], rfl, .inr (u3 _ _ upd_same), by show 1 ≤ 1000; decide, .cons (rq_nat (i := 1) (by decide)) .nil⟩ .nil)⟩ fun x H1 s1 px _ => q x H1 (((u1.trans u2).trans u3).trans s1) px⟩))
theorem pl_y {σ : L2.St} {H : Hp} : PlG mg (tMake (pnA mg) (spPInit mg) [] E0 (tCons (tTup (tCons (tTup (tCons (tC (.int 0)) (tCons (tC (.int 1)) tNil))) tNil)) tNil)) σ H uY := fun Q q => va_1 (tup_one (l_tup (va_cons val_c (va_cons val_c va_nil)) (by show 2 ≤ 100000; decide) fun t4 h4 => ⟨by decide, fun t5 h5 => by
  have u4 := Same.new' (o := .tup [V.int 0, .int 1]) h4
  have u5 := Same.new' (o := .tup [V.ref t4]) h5
  exact made_plane ⟨t5, [.ref t4], rfl, .inr upd_same, by show 1 ≤ 1000; decide, .cons ⟨t4, [.int 0, .int 1], rfl, .inr (u5 _ _ upd_same), by show 2 ≤ 1000; decide, .cons (rq_nat (i := 0) (by decide)) (.cons (rq_nat (i := 1) (by decide)) .nil)⟩ .nil⟩ fun x H1 s1 px _ => q x H1 ((u4.trans u5).trans s1) px⟩))
theorem Pr2.of {H : Hp} {t a b : Addr} {R S : List (List Rat)} {i : Nat} (et : H t = some (.tup [.ref a, .ref b])) (h1 : PnAt (pnA mg) H a (srN R S uX i)) (h2 : PnAt (pnA mg) H b (srN R S uY i)) : Pr2 mg H (.ref t) (srP R S i) := ⟨t, a, b, rfl, et, h1, h2⟩
theorem PnAt.to {H : Hp} {a : Addr} {R S U : List (List Rat)} {i : Nat} (h : PnAt (pnA mg) H a (planeMul (planeR [[frac i]]) (lieR R S (srN R S U i)))) : PnAt (pnA mg) H a (srN R S U (i + 1)) := h
theorem ok_series (T : Txt K mg) (TP : PlaneT K mg) (TF : FieldT K mg) : FnOk P w K mg base (L2.CX P w) 14 (fA mg "series") (fDat K (fA mg "series")) ["field", "order"] (spSer mg) := by
  have Gis_from := ok_is_from (P := P) (w := w) (base := base) T
  have Gslope_along := ok_slope_along (P := P) (w := w) (base := base) T TP TF
  have Gi_BadNumber := init_BadNumber (P := P) (w := w) (base := base) T
  have GPlane_init := ok_Plane_init (P := P) (w := w) (base := base) T TP
  have GPlane_rmul := ok_Plane_rmul (P := P) (w := w) (base := base) T TP
  refine T.series.F.okX scseries (fun vs H Q E h => ?_) (fun cdv A outer s H vs Q E hr h => ?_)
  · obtain ⟨f, v, R, S, rfl, _⟩ := h
    rfl
  obtain ⟨f, v, R, S, rfl, fa, h⟩ := h
  refine ⟨_, (pss_cons (ps_if (pt_not (pt_val (pe_c T.is_from Gis_from (hr.mono (by decide)) (pa_cons (pv 1) (pa_cons pe_int (pa_cons pe_int pa_nil)))))) (pss_one (ps_raise rfl (takes_of rfl rfl rfl rfl) (pmk_oex T.BadNumber.o T.BadNumber.i T.BadNumber.t Gi_BadNumber (hr.mono (by decide)) T.BadNumber.b .nil pass0 (by rfl) T.BadNumber.g (pa_cons pe_str (pa_cons (pv 1) pa_nil))))) pss_nil)
  (pss_cons (ps_set (i := 2) scseries.nd rfl (Or.inl rfl) (pe_lst (pa_cons (pe_tup (pa_cons (pe_make TP.mkc GPlane_init (hr.mono (by decide)) (by rfl) TP.g TP.m_init.b .nil passL (pa_cons (pe_tup (pa_cons (pe_tup pa_nil) (pa_cons (pe_tup (pa_cons pe_int pa_nil)) pa_nil))) pa_nil)) (pa_cons (pe_make TP.mkc GPlane_init (hr.mono (by decide)) (by rfl) TP.g TP.m_init.b .nil passL (pa_cons (pe_tup (pa_cons (pe_tup (pa_cons pe_int (pa_cons pe_int pa_nil))) pa_nil)) pa_nil)) pa_nil))) pa_nil)))
  (pss_cons (ps_for (passes_of rfl) rfl (pi_range1 (by rfl) T.range (pa_cons (pv 1) pa_nil)) (pg_name (i := 3) scseries.nd rfl (Or.inl rfl))
  (pss_cons (ps_asg (pe_ix ix_list (pv 2) (pe_un un_neg pe_int) (fun _ _ => rfl)) (pg_tup rfl (pgs_cons (pg_name (i := 4) scseries.nd rfl (Or.inl rfl)) (pgs_cons (pg_name (i := 5) scseries.nd rfl (Or.inl rfl)) pgs_nil))))
  (pss_one (ps_expr (pe_bm PySem.F.plainAttrs_list PySem.F.slot_list_append PySem.F.type_list_append mt_append (pv 2) (pa_cons (pe_tup (pa_cons (pe_op (op_rightT TP.rT_mul GPlane_rmul (hr.mono (by decide)) TP.m_rmul.b) (pe_tup (pa_cons pe_int (pa_cons (pe_op op_add (pv 3) pe_int) pa_nil))) (pe_c T.slope_along Gslope_along (hr.mono (by decide)) (pa_cons (pv 0) (pa_cons (pv 4) pa_nil)))) (pa_cons (pe_op (op_rightT TP.rT_mul GPlane_rmul (hr.mono (by decide)) TP.m_rmul.b) (pe_tup (pa_cons pe_int (pa_cons (pe_op op_add (pv 3) pe_int) pa_nil))) (pe_c T.slope_along Gslope_along (hr.mono (by decide)) (pa_cons (pv 0) (pa_cons (pv 5) pa_nil)))) pa_nil))) pa_nil))))))
  (pss_one (ps_ret (pe_callTy call_tuple_of (by rfl) T.tuple (by decide +kernel) (pa_cons (pv 2) pa_nil))))))), ?_⟩
  rcases h with ⟨n, D, M, d, rfl, n6, nR, nS, sz, k⟩ | ⟨o, b⟩
  · refine q_ifNot (c_call (va_cons (val_var rfl) (va_cons val_c (va_cons val_c va_nil))) ⟨_, 0, 6, rfl, .inl ⟨_, rfl, ⟨_, rfl, ?_⟩⟩⟩)
    rw [decide_eq_true (by omega : (0 : Int) ≤ (n : Int)), decide_eq_true (by omega : (n : Int) ≤ 6)]
    refine iteF ?_
    refine q_asg (lst_one (tup_two (pl_x _ fun x H1 s1 px => pl_y _ fun y H2 s2 py => ⟨by decide, fun t6 h6 => ⟨by decide, fun l hl => ?_⟩⟩)))
    have u6 := Same.new' (o := .tup [V.ref x, .ref y]) h6
    have u7 := Same.new' (o := .lst [V.ref t6]) hl
    have S0 := (s1.trans s2).trans u6
    have nl := S0.free hl
    have S1 := S0.trans u7
    have p0 : Pr2 mg (upd (upd H2 t6 (.tup [V.ref x, .ref y])) l (.lst [.ref t6])) (.ref t6) (srP R S 0) := ⟨t6, x, y, rfl, u7 _ _ upd_same, ((px.same s2).same u6).same u7, (py.same u6).same u7⟩
    refine q_forR1 (n := n) (va_cons (val_var rfl) va_nil) (by omega) (fun i σ H2 => ∃ (z x y : Option V) (vs : List V), σ = [some (.ref f), some (.int (n : Int)), some (.ref l), z, x, y] ∧ L2.Same H H2 ∧ H2 l = some (.lst vs) ∧ Ser mg H2 vs R S (i + 1)) ⟨none, none, none, [.ref t6], rfl, S1, upd_same, .cons p0 .nil⟩ (fun i σ H2 hi z => ?_) (fun σ H2 z => ?_)
    · obtain ⟨z, z1, z2, vs, rfl, s2, el, al⟩ := z
      have zi := sz i hi
      have lv := al.len
      obtain ⟨v0, ev0, t, a, b, rfl, et, pa, pb⟩ := al.get (i := i) (by omega)
      have he : vs[vs.length - 1]? = some (V.ref t) := by rw [lv]; exact ev0
      refine g_name (q_two ((val_op (x := .ref l) (y := .int (-1)) (z := .ref t) (val_var rfl) (v_neg val_c) fun Q q => ⟨l, vs, -1, _, rfl, rfl, SqL.of el, atI_m1 he, q⟩) _ (g_two (SqT.of et) ?_)))
      show tDrop _ _ [some (.ref f), some (.int (n : Int)), some (.ref l), some (.int (i : Int)), some (.ref a), some (.ref b)] _
      have nX := nice_srN nR nS nice_uX i
      have nY := nice_srN nR nS nice_uY i
      have sa := zi.sa
      have hd := sa.hd
      have he2 := sa.he
      have fs : Fz (D * (szN D M d i).1) (lieM d M (szN D M d i).2.2 (szN D M d i).2.1) := sa.fs
      refine s_appC (val_var rfl) el (tup_two ?_)
      refine pl_scale' rfl (va_cons val_c (va_cons (show Val _ _ _ (.int ((i : Int) + 1)) from v_add (val_var rfl) val_c) va_nil)) (by omega) (fun H3 s3 Q q => c_call (va_cons (val_var rfl) (va_cons (val_var rfl) va_nil)) ⟨f, a, R, S, srN R S uX i, D, M, d, _, _, _, rfl, (fa.same s2).same s3, pa.same s3, nR, nS, nX, sa, fun c H4 s4 pc => q c H4 s4 pc⟩) (nR.lie nS nX) fs (by omega) zi.fs _ fun cx H3 s3 pcx => ?_
      refine pl_scale' rfl (va_cons val_c (va_cons (show Val _ _ _ (.int ((i : Int) + 1)) from v_add (val_var rfl) val_c) va_nil)) (by omega) (fun H4 s4 Q q => c_call (va_cons (val_var rfl) (va_cons (val_var rfl) va_nil)) ⟨f, b, R, S, srN R S uY i, D, M, d, _, _, _, rfl, ((fa.same s2).same s3).same s4, (pb.same s3).same s4, nR, nS, nY, sa, fun c H5 s5 pc => q c H5 s5 pc⟩) (nR.lie nS nY) fs (by omega) zi.fs _ fun cy H4 s4 pcy => ?_
      refine ⟨by decide, fun t8 h8 => ?_⟩
      have u8 := Same.new' (o := .tup [V.ref cx, .ref cy]) h8
      have S8 := (s3.trans s4).trans u8
      have el8 := S8 _ _ el
      refine ⟨l, vs, .ref t8, rfl, rfl, el8, Nat.lt_of_le_of_lt (show vs.length ≤ 100 by omega) (by decide), _, _, _, vs ++ [.ref t8], rfl, fun b o e => ?_, upd_same, ?_⟩
      · rw [upd_ne (fun z => by rw [z, nl] at e; cases e)]
        exact S8 _ _ (s2 _ _ e)
      · have er : (List.range (i + 1 + 1)).map (srP R S) = (List.range (i + 1)).map (srP R S) ++ [srP R S (i + 1)] := by
          rw [List.range_succ, List.map_append]
          rfl
        show All2 _ _ _
        rw [er]
        have a1 : All2 (Pr2 mg (upd (upd H4 t8 (.tup [V.ref cx, .ref cy])) l (.lst (vs ++ [V.ref t8])))) vs ((List.range (i + 1)).map (srP R S)) := (al.same S8).imp fun v W p => p.off el8
        have px := ((pcx.same s4).same u8).to
        have py := (pcy.same u8).to
        have e8 : (upd H4 t8 (.tup [V.ref cx, .ref cy])) t8 = some (.tup [V.ref cx, .ref cy]) := upd_same
        have pn := Pr2.of e8 px py
        exact All2.append a1 (All2.cons (pn.off el8) .nil)
    · obtain ⟨z, z1, z2, vs, rfl, s2, el, al⟩ := z
      refine r_ret (cb_one ((val_var rfl) _ ⟨l, vs, rfl, .inl ⟨SqL.of el, fun t ht => ?_⟩⟩))
      have s3 := Same.new' (o := .tup vs) ht
      exact k t vs _ (s2.trans s3) upd_same (al.same s3)
  · refine q_ifNot (c_call (va_cons (val_var rfl) (va_cons val_c (va_cons val_c va_nil))) ⟨_, 0, 6, rfl, ?_⟩)
    rcases o with ⟨i, rfl, hi⟩ | ⟨n, is, hn⟩
    · refine .inl ⟨i, rfl, ⟨_, rfl, ?_⟩⟩
      have e : (decide ((0 : Int) ≤ i) && decide (i ≤ 6)) = false := by
        rcases hi with h | h
        · rw [decide_eq_false (by omega)]; rfl
        · rw [decide_eq_false (p := i ≤ 6) (by omega), Bool.and_false]
      rw [e]
      exact iteT (x_made2 (va_cons val_c (va_cons (val_var rfl) va_nil)) b)
    · exact .inr ⟨n, is, hn, ⟨_, rfl, iteT (x_made2 (va_cons val_c (va_cons (val_var rfl) va_nil)) b)⟩⟩
end
end LW

namespace LW
open PySem PySem.Spec PyProof.Rows L2 GL
section
variable {P : Program} {w : World} {K : PySem.W.Frag} {mg : Str → Option Value} {base : Heap}
def sp_law_share : Sp := fun vs H Q _ => ∃ (p q : Addr) (i j k l : Int), vs = [.ref p, .ref q] ∧ H p = some (.tup [.int i, .int j]) ∧ H q = some (.tup [.int k, .int l]) ∧ Fit i j ∧ Fit k l ∧ 0 < j ∧ 0 < l ∧ k ≠ 0 ∧ (0 < k → ∀ (p : Addr) (H' : Hp), Same H H' → H' p = some (.tup [.int ((i * l) / gI (i * l) (j * k)), .int ((j * k) / gI (i * l) (j * k))]) → Q (.ref p) H') ∧ (k < 0 → ∀ (p : Addr) (H' : Hp), Same H H' → H' p = some (.tup [.int ((-(i * l)) / gI (-(i * l)) (-(j * k))), .int ((-(j * k)) / gI (-(i * l)) (-(j * k)))]) → Q (.ref p) H')
theorem ok_law_share (T : Txt K mg) : FnOk P w K mg base CX0 3 (fA mg "_law_share") (fDat K (fA mg "_law_share")) ["_law_one", "_law_two"] sp_law_share := by
  have G_law_q := ok_law_q (P := P) (w := w) (base := base) T
  refine T._law_share.F.ok sc_law_share (fun vs H Q E h => ?_) (fun cdv A outer s H vs Q E hr h => ?_)
  · obtain ⟨p, q, i, j, k, l, rfl, _⟩ := h
    rfl
  · obtain ⟨p, q, i, j, k, l, rfl, hp, hq, ⟨fi, fj⟩, ⟨fk, fl⟩, j0, l0, z⟩ := h
    refine ⟨_, (pss_one (ps_ret (pe_c T._law_q G_law_q (hr.mono (by decide)) (pa_cons (pe_op op_mulW (pe_ix ix_tup (pv 0) pe_int (fun _ _ => rfl)) (pe_ix ix_tup (pv 1) pe_int (fun _ _ => rfl))) (pa_cons (pe_op op_mulW (pe_ix ix_tup (pv 0) pe_int (fun _ _ => rfl)) (pe_ix ix_tup (pv 1) pe_int (fun _ _ => rfl))) pa_nil))))), ?_⟩
    obtain ⟨k0, z1, z2⟩ := z
    refine r_ret (te := tCall _ _ _ _) (c_call (va_cons (v_mul (v_ixT (n := 0) (val_var rfl) val_c (SqT.of hp) rfl) (v_ixT (n := 1) (val_var rfl) val_c (SqT.of hq) rfl) (fit_mul fi fl)) (va_cons (v_mul (v_ixT (n := 1) (val_var rfl) val_c (SqT.of hp) rfl) (v_ixT (n := 0) (val_var rfl) val_c (SqT.of hq) rfl) (fit_mul fj fk)) va_nil)) ⟨_, _, rfl, fit_lt fi fl, fit_lt fj fk, ?_⟩)
    by_cases hk : 0 < k
    · exact .inl ⟨Int.mul_pos j0 hk, z1 hk⟩
    · have kn : k < 0 := by omega
      refine .inr ⟨Int.mul_neg_of_pos_of_neg j0 kn, fun p H' s e => z2 kn p H' s ?_⟩
      have g : gI (-(i * l)) (-(j * k)) = gI (i * l) (j * k) := by
        unfold gI
        rw [Int.natAbs_neg, Int.natAbs_neg]
      rw [g]
      exact e

section
variable {σ : L2.St} {H : Hp} {ta : TA} {v u wh : V} {q r : Rat} {Q : VK} {E : XK}
end
theorem div_divInt (i l : Int) (j k : Int) : Rat.divInt i j / Rat.divInt k l = Rat.divInt (i * l) (j * k) := by
  rw [Rat.div_def, Rat.inv_divInt, Rat.divInt_mul_divInt]
theorem divInt_nn (i j : Int) : Rat.divInt (-i) (-j) = Rat.divInt i j := by
  rw [Rat.neg_divInt_neg]
section
variable {σ : L2.St} {H : Hp} {ta : TA} {v u : V} {q r : Rat} {Q : VK} {E : XK}
theorem lsh_ok {p t : Addr} {x y : Rat} {n m : Nat} (a : Lo H p x) (b : Lo H t y) (y0 : y ≠ 0) (hx : Sm n x) (hy : Sm m y) (hn : n ≤ 1000) (hm : m ≤ 1000) (k : ∀ c H', L2.Same H H' → Lo H' c (x / y) → Q (.ref c) H') : sp_law_share [.ref p, .ref t] H Q E := by
  have d1 := x.den_pos
  have d2 := y.den_pos
  have e : x / y = Rat.divInt (x.num * (y.den : Int)) ((x.den : Int) * y.num) := by
    have h := div_divInt x.num (y.den : Int) (x.den : Int) y.num
    rw [rat_divInt, rat_divInt] at h
    exact h
  have k0 : y.num ≠ 0 := fun z => y0 (by rw [← rat_divInt y, z, Rat.zero_divInt])
  refine ⟨p, t, _, _, _, _, rfl, a, b, hx.fit hn, hy.fit hm, by omega, by omega, k0, fun kp c H' s z => k c H' s ?_, fun kn c H' s z => k c H' s ?_⟩
  · have hl := low_rat (x.num * (y.den : Int)) (Int.mul_pos (show (0 : Int) < x.den by omega) kp)
    rw [hl.1, hl.2] at z
    unfold Lo
    rw [e]
    exact z
  · have hl := low_rat (-(x.num * (y.den : Int))) (show 0 < -((x.den : Int) * y.num) by
      have := Int.mul_neg_of_pos_of_neg (show (0 : Int) < x.den by omega) kn
      omega)
    rw [hl.1, hl.2] at z
    unfold Lo
    rw [e, ← divInt_nn]
    exact z
end
end
end LW

namespace LW
open PySem PySem.Spec PyProof.Rows L2 GL
section
variable {P : Program} {w : World} {K : PySem.W.Frag} {mg : Str → Option Value} {base : Heap}
/-! ### dicts of ints whose keys are pairs -/
end
end LW

namespace LW
open PySem PySem.Spec PyProof.Rows L2 GL
section
variable {P : Program} {w : World} {K : PySem.W.Frag} {mg : Str → Option Value} {base : Heap}
section
variable {σ : L2.St} {H : Hp} {d : Addr} {kvs : List (List Key × V)} {i : Nat} {g : TG} {tb : TS} {D : Ends} {u : TS}
end
/-! ### a dict of numbers times a line -/
theorem ev_of_cf {L M : List En} (h : ∀ i j, cf L i j = cf M i j) (x y : Rat) : evL L x y = evL M x y := by
  have bd : ∀ L : List En, ∃ N : Nat, ∀ e ∈ L, e.1.1 ≤ N ∧ e.1.2 ≤ N := fun L => by
    induction L with
    | nil => exact ⟨0, fun e he => nomatch he⟩
    | cons a t ih =>
      obtain ⟨N, hN⟩ := ih
      refine ⟨N + a.1.1 + a.1.2, fun e he => ?_⟩
      rcases List.mem_cons.mp he with rfl | he
      · omega
      · have := hN e he
        omega
  obtain ⟨N, hN⟩ := bd (L ++ M)
  rw [evL_box (N := N) fun e he => hN e (List.mem_append_left _ he), evL_box (N := N) fun e he => hN e (List.mem_append_right _ he)]
  exact congrFun (congrFun (congrArg (ev2 N) (funext fun i => funext fun j => h i j)) x) y
theorem evL_app (L M : List En) (x y : Rat) : evL (L ++ M) x y = evL L x y + evL M x y := rs_app _ _ _
theorem evL_cons (a : En) (L : List En) (x y : Rat) : evL (a :: L) x y = a.2 * (rp x a.1.1 * rp y a.1.2) + evL L x y := rfl
theorem evL_nil (x y : Rat) : evL [] x y = 0 := rfl
theorem rp_succ (x : Rat) (n : Nat) : rp x (n + 1) = rp x n * x := rfl
end
end LW

namespace LW
open PySem PySem.Spec PyProof.Rows L2 GL
section
variable {P : Program} {w : World} {K : PySem.W.Frag} {mg : Str → Option Value} {base : Heap}
/-! ### sizes and values of a dict times a line -/
/-! ### the rows moved -/
theorem peval_cons (a : Rat) (r : List Rat) (x : Rat) : peval (a :: r) x = a + x * peval r x := rfl
end
end LW

namespace LW
open PySem PySem.Spec PyProof.Rows L2 GL
section
variable {P : Program} {w : World} {K : PySem.W.Frag} {mg : Str → Option Value} {base : Heap}
theorem s_put2 {td ty tv : TE} {D : Ends} {σ : L2.St} {H : Hp} (h : tv σ H fun v H1 => td σ H1 fun x H2 => ty σ H2 fun y H3 => ∃ a H4, x = .ref a ∧ DPut H3 a y v H4 ∧ D.nx σ H4) : sDPut td ty tv D σ H := h
end
end LW

namespace LW
open PySem PySem.Spec PyProof.Rows L2 GL
section
variable {P : Program} {w : World} {K : PySem.W.Frag} {mg : Str → Option Value} {base : Heap}
section
variable {σ : L2.St} {H : Hp} {d : Addr} {kvs : List (List Key × V)} {i : Nat} {g : TG} {te : TE} {vs : List Nat} {F : Nat → V}
end
end
end LW

namespace LW
open PySem PySem.Spec PyProof.Rows L2 GL
section
variable {P : Program} {w : World} {K : PySem.W.Frag} {mg : Str → Option Value} {base : Heap}
/-! ### the value of what was moved -/
end
end LW

namespace LW
open PySem PySem.Spec PyProof.Rows L2 GL
section
variable {P : Program} {w : World} {K : PySem.W.Frag} {mg : Str → Option Value} {base : Heap}
inductive RwQ (H : Hp) (n : Nat) : V → Bool → Prop
  | odd {v : V} {k : String} (h : Is H v k) (n1 : k ≠ "list") (n2 : k ≠ "tuple") : RwQ H n v false
  | seq {a : Addr} {xs : List V} {bs : List Bool} (h : Sq H a xs) (l : xs.length ≤ 1000) (r : All2 (RatQ H) xs bs) : RwQ H n (.ref a) (bs.all id && decide (xs.length = n))
end
end LW

namespace LW
open PySem PySem.Spec PyProof.Rows L2 GL
section
variable {P : Program} {w : World} {K : PySem.W.Frag} {mg : Str → Option Value} {base : Heap}
/-! ### a field in changed letters -/
/-- the inverse of a matrix and where it starts -/
structure Inv4 (a b c d s1 s2 p1 p2 p3 p4 t1 t2 : Rat) : Prop where
  det : a * d - b * c ≠ 0
  e1 : p1 = d / (a * d - b * c)
  e2 : p2 = -b / (a * d - b * c)
  e3 : p3 = -c / (a * d - b * c)
  e4 : p4 = a / (a * d - b * c)
  f1 : t1 = -(p1 * s1 + p2 * s2)
  f2 : t2 = -(p3 * s1 + p4 * s2)
theorem Sm.inv {n : Nat} {q : Rat} (h : Sm n q) (h0 : q ≠ 0) : Sm n q⁻¹ := by
  have e : q⁻¹ = Rat.divInt (q.den : Int) q.num := by
    have := Rat.inv_divInt q.num (q.den : Int)
    rw [rat_divInt] at this
    exact this
  have n0 : q.num ≠ 0 := fun z => h0 (by rw [← rat_divInt q, z, Rat.zero_divInt])
  have dn := q.den_pos
  rcases Int.lt_or_lt_of_ne n0 with lt | gt
  · rw [e, ← divInt_nn]
    exact Sm.div (by omega) (by rw [Int.natAbs_neg, Int.natAbs_natCast]; exact h.2) (by rw [Int.natAbs_neg]; exact h.1)
  · rw [e]
    exact Sm.div gt (by rw [Int.natAbs_natCast]; exact h.2) h.1
end
end LW

namespace LW
open PySem PySem.Spec PyProof.Rows L2 GL
section
variable {P : Program} {w : World} {K : PySem.W.Frag} {mg : Str → Option Value} {base : Heap}
/-! ### products by values, and that values tell a polynomial -/
theorem rp_mul (x y : Rat) : ∀ n : Nat, rp (x * y) n = rp x n * rp y n
  | 0 => by show (1 : Rat) = 1 * 1; rw [Rat.mul_one]
  | n + 1 => by
    rw [rp_succ, rp_succ, rp_succ, rp_mul x y n]
    grind
theorem rp_one : ∀ n : Nat, rp 1 n = 1
  | 0 => rfl
  | n + 1 => by rw [rp_succ, rp_one n, Rat.mul_one]
def prL (La Lb : List En) : List En := La.flatMap fun a => Lb.map fun b => ((a.1.1 + b.1.1, a.1.2 + b.1.2), a.2 * b.2)
theorem evL_map (a : En) (x y : Rat) : ∀ L : List En, evL (L.map fun b => ((a.1.1 + b.1.1, a.1.2 + b.1.2), a.2 * b.2)) x y = a.2 * (rp x a.1.1 * rp y a.1.2) * evL L x y
  | [] => by show (0 : Rat) = _ * 0; rw [Rat.mul_zero]
  | b :: L => by
    rw [List.map_cons, evL_cons, evL_map a x y L, evL_cons]
    show a.2 * b.2 * (rp x (a.1.1 + b.1.1) * rp y (a.1.2 + b.1.2)) + _ = _
    rw [rp_add, rp_add]
    grind
theorem evL_prL (Lb : List En) (x y : Rat) : ∀ La : List En, evL (prL La Lb) x y = evL La x y * evL Lb x y
  | [] => by show (0 : Rat) = 0 * _; rw [Rat.zero_mul]
  | a :: La => by
    have ih := evL_prL Lb x y La
    unfold prL at ih ⊢
    rw [List.flatMap_cons, evL_app, evL_map, ih, evL_cons]
    grind
theorem uniq1 : ∀ (N : Nat) (f : Nat → Rat), (∀ x, rs (fun j => f j * rp x j) (List.range (N + 1)) = 0) → ∀ j, j ≤ N → f j = 0
  | 0, f, h, j, hj => by
    have := h 0
    rw [rs_range_succ] at this
    obtain rfl : j = 0 := by omega
    have e : rs (fun j => f j * rp 0 j) (List.range 0) = 0 := rfl
    rw [e] at this
    have r : rp 0 0 = 1 := rfl
    rw [r] at this
    grind
  | N + 1, f, h, j, hj => by
    have hg : ∀ j, j ≤ N → f j * (rp 2 j - rp 2 (N + 1)) = 0 := uniq1 N (fun j => f j * (rp 2 j - rp 2 (N + 1))) fun x => by
      have h1 := h (2 * x)
      have h2 := h x
      rw [rs_range_succ] at h1 h2
      have e : rs (fun j => f j * (rp 2 j - rp 2 (N + 1)) * rp x j) (List.range (N + 1)) = rs (fun j => f j * rp (2 * x) j) (List.range (N + 1)) + rs (fun j => (-(rp 2 (N + 1))) * (f j * rp x j)) (List.range (N + 1)) := by
        rw [← rs_add]
        refine rs_congr fun j _ => ?_
        rw [rp_mul]
        grind
      rw [e, rs_mulL]
      rw [rp_mul] at h1
      grind
    have p2 : ∀ n : Nat, 0 < rp 2 n := fun n => by
      induction n with
      | zero => show (0 : Rat) < 1; decide
      | succ n ih => rw [rp_succ]; grind
    have lt : ∀ k j : Nat, rp 2 j < rp 2 (j + 1 + k) := fun k j => by
      induction k with
      | zero => rw [Nat.add_zero, rp_succ]; have := p2 j; grind
      | succ k ih => rw [← Nat.add_assoc, rp_succ]; have := p2 (j + 1 + k); grind
    have z : ∀ j, j ≤ N → f j = 0 := fun j hj => by
      have h1 := hg j hj
      have h2 := lt (N - j) j
      rw [show j + 1 + (N - j) = N + 1 by omega] at h2
      rcases Rat.mul_eq_zero.mp h1 with h3 | h3
      · exact h3
      · grind
    rcases Nat.lt_or_ge j (N + 1) with l | g
    · exact z j (by omega)
    · obtain rfl : j = N + 1 := by omega
      have h1 := h 1
      rw [rs_range_succ, rp_one, Rat.mul_one] at h1
      have e : rs (fun j => f j * rp 1 j) (List.range (N + 1)) = 0 := rs_zero fun j hj => by
        rw [z j (by have := List.mem_range.mp hj; omega), Rat.zero_mul]
      rw [e] at h1
      grind
theorem uniq2 {N : Nat} {f : Nat → Nat → Rat} (h : ∀ x y, ev2 N f x y = 0) (i j : Nat) (hi : i ≤ N) (hj : j ≤ N) : f i j = 0 := by
  have e : ∀ x y, ev2 N f x y = rs (fun i => rs (fun j => f i j * rp y j) (List.range (N + 1)) * rp x i) (List.range (N + 1)) := fun x y => by
    unfold ev2 box
    rw [rs_flat]
    refine rs_congr fun i _ => ?_
    rw [rs_map, Rat.mul_comm, ← rs_mulL]
    refine rs_congr fun j _ => ?_
    grind
  have h1 : ∀ y i, i ≤ N → rs (fun j => f i j * rp y j) (List.range (N + 1)) = 0 := fun y => uniq1 N (fun i => rs (fun j => f i j * rp y j) (List.range (N + 1))) fun x => by rw [← e]; exact h x y
  exact uniq1 N (f i) (fun y => h1 y i hi) j hj
theorem same_vals {L M : List En} (h : ∀ x y, evL L x y = evL M x y) (i j : Nat) : cf L i j = cf M i j := by
  have bd : ∀ L : List En, ∃ N : Nat, ∀ e ∈ L, e.1.1 ≤ N ∧ e.1.2 ≤ N := fun L => by
    induction L with
    | nil => exact ⟨0, fun e he => nomatch he⟩
    | cons a t ih =>
      obtain ⟨N, hN⟩ := ih
      refine ⟨N + a.1.1 + a.1.2, fun e he => ?_⟩
      rcases List.mem_cons.mp he with rfl | he
      · omega
      · have := hN e he
        omega
  obtain ⟨N, hN⟩ := bd (L ++ M)
  have hL := fun e he => hN e (List.mem_append_left M he)
  have hM := fun e he => hN e (List.mem_append_right L he)
  by_cases z : i ≤ N ∧ j ≤ N
  · have := uniq2 (N := N) (f := fun i j => cf L i j - cf M i j) (fun x y => by
      have e1 := h x y
      rw [evL_box hL, evL_box hM] at e1
      have e2 : ev2 N (fun i j => cf L i j - cf M i j) x y = ev2 N (cf L) x y + rs (fun p => (-1 : Rat) * (cf M p.1 p.2 * (rp x p.1 * rp y p.2))) (box N N) := by
        unfold ev2
        rw [← rs_add]
        refine rs_congr fun p _ => ?_
        grind
      rw [e2, rs_mulL, e1]
      show ev2 N (cf M) x y + -1 * ev2 N (cf M) x y = 0
      grind) i j z.1 z.2
    grind
  · have o1 : cf L i j = 0 := cf_out fun y => by
      obtain ⟨e, he, y2⟩ := List.mem_map.mp y
      have := hL e he
      rw [y2] at this
      exact z this
    have o2 : cf M i j = 0 := cf_out fun y => by
      obtain ⟨e, he, y2⟩ := List.mem_map.mp y
      have := hM e he
      rw [y2] at this
      exact z this
    rw [o1, o2]
theorem cf_prL (Lb : List En) (i j : Nat) : ∀ La : List En, cf (prL La Lb) i j = tm La Lb i j
  | [] => rfl
  | a :: La => by
    have ih := cf_prL Lb i j La
    unfold prL at ih ⊢
    rw [List.flatMap_cons, cf_app, ih]
    have h : cf (Lb.map fun b => ((a.1.1 + b.1.1, a.1.2 + b.1.2), a.2 * b.2)) i j = tm1 a Lb i j := by
      unfold cf tm1
      rw [rs_map]
    rw [h]
    rfl
/-- a product's value -/
theorem ev_tm {La Lb M : List En} (h : ∀ i j, cf M i j = tm La Lb i j) (x y : Rat) : evL M x y = evL La x y * evL Lb x y := by
  rw [ev_of_cf (M := prL La Lb) (fun i j => by rw [h, cf_prL]), evL_prL]
theorem ev_sum {La Lb M : List En} (h : ∀ i j, cf M i j = cf La i j + cf Lb i j) (x y : Rat) : evL M x y = evL La x y + evL Lb x y := by
  rw [ev_of_cf (M := La ++ Lb) (fun i j => by rw [h, cf_app]), evL_app]
theorem ev_scaled {L M : List En} {c : Rat} (h : ∀ i j, cf M i j = cf L i j * c) (x y : Rat) : evL M x y = evL L x y * c := by
  have e : ∀ L : List En, evL (L.map fun e => (e.1, e.2 * c)) x y = evL L x y * c := fun L => by
    induction L with
    | nil => show (0 : Rat) = 0 * c; rw [Rat.zero_mul]
    | cons a t ih =>
      rw [List.map_cons, evL_cons, ih, evL_cons]
      grind
  have e2 : ∀ (L : List En) (i j : Nat), cf (L.map fun e => (e.1, e.2 * c)) i j = cf L i j * c := fun L i j => by
    induction L with
    | nil => show (0 : Rat) = 0 * c; rw [Rat.zero_mul]
    | cons a t ih =>
      rw [List.map_cons, cf_cons, ih, cf_cons]
      dsimp only
      split <;> grind
  rw [ev_of_cf (M := L.map fun e => (e.1, e.2 * c)) (fun i j => by rw [h, e2]), e]
end
end LW

namespace LW
open PySem PySem.Spec PyProof.Rows L2 GL
section
variable {P : Program} {w : World} {K : PySem.W.Frag} {mg : Str → Option Value} {base : Heap}
/-! ### powers of lines -/
end
end LW

namespace LW
open PySem PySem.Spec PyProof.Rows L2 GL
section
variable {P : Program} {w : World} {K : PySem.W.Frag} {mg : Str → Option Value} {base : Heap}
/-! ### lines put for the letters -/
theorem Fz.dn {D D' M M' : Nat} (h : Fz D M) (d0 : 0 < D') (hd : D' ≤ D) (hm : M' ≤ M) : Fz D' M' := ⟨d0, Nat.lt_of_le_of_lt hd h.db, Nat.lt_of_le_of_lt (Nat.mul_le_mul hm hd) h.mb⟩
end
end LW

namespace LW
open PySem PySem.Spec PyProof.Rows L2 GL
section
variable {P : Program} {w : World} {K : PySem.W.Frag} {mg : Str → Option Value} {base : Heap}
/-! ### a plane's rows as a dict -/
def spVOf (mg : Str → Option Value) : Sp := fun vs H Q _ => ∃ (a : Addr) (R : List (List Rat)) (D M g : Nat), vs = [.ref a] ∧ PnAt (pnA mg) H a R ∧ Nice D M g R ∧ g ≤ 15 ∧
  ∀ p H' N, L2.Same H H' → H p = none → Pd H' p N g R → Q (.ref p) H'
theorem st_forR1 {n : Nat} {ta : TA} {g : TG} {tb : TS} {D : Ends} {σ : L2.St} {H : Hp} (h : VA ta σ H [.int (n : Int)]) (hn : n ≤ 100000) (Pv : Nat → L2.St → Hp → Prop) (h0 : Pv 0 σ H)
    (hs : ∀ i σ H, i < n → Pv i σ H → g (.int (i : Int)) σ H fun σ2 H2 => tb { D with nx := Pv (i + 1), ct := Pv (i + 1), bk := D.nx } σ2 H2) (hd : ∀ σ H, Pv n σ H → D.nx σ H) : tFor (iRng1 ta) g tb D σ H := q_forR1 (tz := fun D => D.nx) h hn Pv h0 hs hd
theorem cf2_hi {R : List (List Rat)} {i j : Nat} (h : R.length ≤ i) : cf2 R i j = 0 := by
  unfold cf2
  rw [rowAt_none h]
  exact co_none (Nat.zero_le _)
theorem ok_law_v_of (T : Txt K mg) (TP : PlaneT K mg) : FnOk P w K mg base CX0 2 (fA mg "_law_v_of") (fDat K (fA mg "_law_v_of")) ["_law_plane"] (spVOf mg) := by
  have G_law_v_plain := ok_law_v_plain (P := P) (w := w) (base := base) T
  refine T._law_v_of.F.ok sc_law_v_of (fun vs H Q E h => ?_) (fun cdv A outer s H vs Q E hr h => ?_)
  · obtain ⟨a, R, D, M, g, rfl, _⟩ := h
    rfl
  obtain ⟨a, R, D, M, g, rfl, ⟨dx, t, ea, ⟨vs, ev, al⟩, cR⟩, nR, hg, q⟩ := h
  refine ⟨_, (pss_cons (ps_set (i := 1) sc_law_v_of.nd rfl (Or.inl rfl) pe_dnewT)
  (pss_cons (ps_for PassesOwn.never rfl (pi_range1 (by rfl) T.range (pa_cons (pe_callB call_len_seq (by rfl) T.len PySem.boot_len (pa_cons (pe_fld (pv 0) (by rfl)) pa_nil)) pa_nil)) (pg_name (i := 2) sc_law_v_of.nd rfl (Or.inl rfl))
  (pss_one (ps_for PassesOwn.never rfl (pi_range1 (by rfl) T.range (pa_cons (pe_callB call_len_seq (by rfl) T.len PySem.boot_len (pa_cons (pe_ix ix_tup (pe_fld (pv 0) (by rfl)) (pv 2) (fun _ _ => rfl)) pa_nil)) pa_nil)) (pg_name (i := 3) sc_law_v_of.nd rfl (Or.inl rfl))
  (pss_one (ps_dput (hu_of hr) (pv 1) (pe_tup (pa_cons (pv 2) (pa_cons (pv 3) pa_nil))) (pe_ix ix_tup (pe_ix ix_tup (pe_fld (pv 0) (by rfl)) (pv 2) (fun _ _ => rfl)) (pv 3) (fun _ _ => rfl)) rfl)))))
  (pss_one (ps_ret (pe_c T._law_v_plain G_law_v_plain (hr.mono (by decide)) (pa_cons (pv 1) pa_nil)))))), ?_⟩
  refine q_asg fun p hp => ?_
  have sp := Same.new' (o := .dT []) hp
  have lv := al.len
  have lR := nR.lenR cR
  have kl : ∀ {F : List En}, (F.map (·.1)).Nodup → (∀ e ∈ F, e.1.1 + e.1.2 ≤ g) → F.length ≤ 256 := fun {F} nd h => by
    have h1 := keys_len nd h
    have h2 : (g + 1) * (g + 1) ≤ 16 * 16 := Nat.mul_le_mul (by omega) (by omega)
    omega
  refine q_forR1 (n := R.length) (va_cons (Val.is (v_len (v_rows TP (val_var rfl) (sp _ _ ea)) (.inr (SqT.of (sp _ _ ev)))) (by rw [lv])) va_nil) (by omega) (fun i σ H1 => ∃ (z2 z3 : Option V) (F : List En), σ = [some (.ref a), some (.ref p), z2, z3] ∧ L2.Same H H1 ∧ DW H1 p F ∧ (∀ i' j', cf F i' j' = if i' < i then cf2 R i' j' else 0) ∧ (∀ e ∈ F, e.1.1 + e.1.2 ≤ g))
    ⟨none, none, [], rfl, sp, ⟨[], upd_same, .nil, by simp⟩, fun i' j' => by rw [if_neg (by omega)]; rfl, fun e he => nomatch he⟩ (fun i σ H1 hi h => ?_) (fun σ H1 h => ?_)
  · obtain ⟨z2, z3, F, rfl, s1, dF, cF, dgF⟩ := h
    obtain ⟨v, hv⟩ : ∃ v, vs[i]? = some v := ⟨_, List.getElem?_eq_getElem (by omega)⟩
    obtain ⟨r, hr2, tr, rfl, us, er, ar⟩ := al.get hv
    have err := rowAt_some hr2
    have lu := ar.len
    have il := cR.rowL nR.dg i
    rw [err] at il
    refine g_name (st_forR1 (n := r.length) (va_cons (Val.is (v_len (v_ixT (n := i) (v_rows TP (val_var rfl) (s1 _ _ ea)) (val_var rfl) (SqT.of (s1 _ _ ev)) hv) (.inr (SqT.of (s1 _ _ er)))) (by rw [lu])) va_nil) (by omega) (fun j σ H2 => ∃ (z3 : Option V) (F : List En), σ = [some (.ref a), some (.ref p), some (.int (i : Int)), z3] ∧ L2.Same H H2 ∧ DW H2 p F ∧ (∀ i' j', cf F i' j' = if i' < i ∨ (i' = i ∧ j' < j) then cf2 R i' j' else 0) ∧ (∀ e ∈ F, e.1.1 + e.1.2 ≤ g))
      ⟨z3, F, rfl, s1, dF, fun i' j' => by
        rw [cF]
        by_cases z : i' < i
        · rw [if_pos z, if_pos (.inl z)]
        · rw [if_neg z, if_neg (by omega)], dgF⟩ (fun j σ H2 hj h => ?_) (fun σ H2 h => ?_))
    · obtain ⟨z3, F, rfl, s2, ⟨kF, eF, dF⟩, cF, dgF⟩ := h
      obtain ⟨u, hu⟩ : ∃ u, us[j]? = some u := ⟨_, List.getElem?_eq_getElem (by omega)⟩
      obtain ⟨x, hx, pu, rfl, lo⟩ := ar.get hu
      have c2 : cf2 R i j = x := by
        unfold cf2
        rw [err]
        exact co_some hx
      have lF := kl dF.2 dgF
      refine g_name (s_put2 ((v_ixT (n := j) (v_ixT (n := i) (v_rows TP (val_var rfl) (s2 _ _ ea)) (val_var rfl) (SqT.of (s2 _ _ ev)) hv) (val_var rfl) (SqT.of (s2 _ _ er)) hu) _ ((val_var rfl) _ (l_tup (va_cons (val_var rfl) (va_cons (val_var rfl) va_nil)) (by show 2 ≤ 100000; decide) fun c hc => ?_))))
      have sc := Same.new' (o := .tup [.int (i : Int), .int (j : Int)]) hc
      refine ⟨p, _, rfl, DPut.t (k := kN (i, j)) (sc _ _ eF) upd_same (Nat.lt_of_le_of_lt (show kF.length ≤ 1000 by have := dF.len; omega) (by decide)), ?_⟩
      refine ⟨_, putE F (i, j) x, rfl, Same.updN (s2.trans sc) hp, ⟨_, upd_same, ((dF.tu (Tu.of sc)).put ((lo.same s2).same sc)).tu (Tu.putT (sc _ _ eF))⟩, fun i' j' => ?_, fun e he => ?_⟩
      · rw [cf_put dF.2, cF]
        by_cases z : (i, j) = (i', j')
        · obtain ⟨rfl, rfl⟩ := Prod.mk.inj z
          rw [if_pos rfl, if_pos (by omega), c2]
        · rw [if_neg z]
          by_cases y : i' < i ∨ (i' = i ∧ j' < j)
          · rw [if_pos y, if_pos (by omega)]
          · rw [if_neg y, if_neg (fun y2 => ?_)]
            rcases y2 with y2 | ⟨rfl, y2⟩
            · exact y (.inl y2)
            · by_cases w2 : j' < j
              · exact y (.inr ⟨rfl, w2⟩)
              · exact z (by rw [show j' = j by omega])
      · rcases mem_put he with rfl | he
        · show i + j ≤ g
          omega
        · exact dgF e he
    · obtain ⟨z3, F, rfl, s2, dF, cF, dgF⟩ := h
      refine ⟨_, _, F, rfl, s2, dF, fun i' j' => ?_, dgF⟩
      rw [cF]
      by_cases z : i' < i
      · rw [if_pos (.inl z), if_pos (by omega)]
      · by_cases y : i' = i
        · subst y
          rw [if_pos (show i' < i' + 1 by omega)]
          by_cases y2 : j' < r.length
          · rw [if_pos (.inr ⟨rfl, y2⟩)]
          · rw [if_neg (by omega)]
            unfold cf2
            rw [err, co_none (by omega)]
        · rw [if_neg (by omega), if_neg (by omega)]
  · obtain ⟨z2, z3, F, rfl, s1, dF, cF, dgF⟩ := h
    have lF := kl (DE.nodup dF) dgF
    refine r_ret (c_call (va_cons (val_var rfl) va_nil) ⟨p, F, rfl, dF.dp, by omega, fun p2 H2 N s2 np dN cN mN lN => q p2 H2 N (s1.trans s2) (s1.free np) ⟨dN, fun e he => dgF e (mN e he).1, fun e he => (mN e he).2, fun i j => ?_⟩⟩)
    rw [cN, cF]
    by_cases z : i < R.length
    · rw [if_pos z]
    · rw [if_neg z, cf2_hi (by omega)]
end
end LW

namespace LW
open PySem PySem.Spec PyProof.Rows L2 GL
section
variable {P : Program} {w : World} {K : PySem.W.Frag} {mg : Str → Option Value} {base : Heap}
/-! ### slopes by values: what a polynomial does at first order -/
def Pf (g : Rat → Rat) : Prop := ∃ r : List Rat, ∀ h, g h = peval r h
def adL : List Rat → List Rat → List Rat
  | [], s => s
  | a :: r, [] => a :: r
  | a :: r, b :: s => (a + b) :: adL r s
theorem peval_ad (h : Rat) : ∀ r s : List Rat, peval (adL r s) h = peval r h + peval s h
  | [], s => by show peval s h = 0 + peval s h; rw [Rat.zero_add]
  | a :: r, [] => by show peval (a :: r) h = peval (a :: r) h + 0; rw [Rat.add_zero]
  | a :: r, b :: s => by
    show (a + b) + h * peval (adL r s) h = (a + h * peval r h) + (b + h * peval s h)
    rw [peval_ad h r s]
    grind
theorem Pf.const (c : Rat) : Pf fun _ => c := ⟨[c], fun h => by show c = c + h * 0; grind⟩
theorem Pf.id : Pf fun h => h := ⟨[0, 1], fun h => by show h = 0 + h * (1 + h * 0); grind⟩
theorem Pf.add {f g : Rat → Rat} (a : Pf f) (b : Pf g) : Pf fun h => f h + g h := by
  obtain ⟨r, hr⟩ := a
  obtain ⟨s, hs⟩ := b
  exact ⟨adL r s, fun h => by dsimp only; rw [peval_ad, hr, hs]⟩
theorem Pf.smul {f : Rat → Rat} (c : Rat) (a : Pf f) : Pf fun h => c * f h := by
  obtain ⟨r, hr⟩ := a
  exact ⟨r.map fun q => c * q, fun h => by dsimp only; rw [peval_mul, hr]⟩
theorem Pf.mul {f g : Rat → Rat} (a : Pf f) (b : Pf g) : Pf fun h => f h * g h := by
  obtain ⟨r, hr⟩ := a
  have key : ∀ r : List Rat, Pf fun h => peval r h * g h := fun r => by
    induction r with
    | nil => exact ⟨[], fun h => by show 0 * g h = 0; rw [Rat.zero_mul]⟩
    | cons x t ih =>
      obtain ⟨s, hs⟩ := ih
      obtain ⟨u, hu⟩ := b.smul x
      exact ⟨adL u (0 :: s), fun h => by
        rw [peval_ad, ← hu]
        show (x + h * peval t h) * g h = x * g h + (0 + h * peval s h)
        rw [← hs]
        grind⟩
  obtain ⟨s, hs⟩ := key r
  exact ⟨s, fun h => by dsimp only; rw [hr]; exact hs h⟩
/-- f h = f0 + h f1 + h h (a polynomial in h) -/
def Ty (f : Rat → Rat) (f0 f1 : Rat) : Prop := ∃ g, Pf g ∧ ∀ h, f h = f0 + h * f1 + h * h * g h
theorem Ty.lin (u a : Rat) : Ty (fun h => u + a * h) u a := ⟨fun _ => 0, Pf.const 0, fun h => by grind⟩
theorem Ty.const (c : Rat) : Ty (fun _ => c) c 0 := ⟨fun _ => 0, Pf.const 0, fun h => by grind⟩
theorem Ty.add {f g : Rat → Rat} {f0 f1 g0 g1 : Rat} (a : Ty f f0 f1) (b : Ty g g0 g1) : Ty (fun h => f h + g h) (f0 + g0) (f1 + g1) := by
  obtain ⟨r, pr, hr⟩ := a
  obtain ⟨s, ps, hs⟩ := b
  exact ⟨fun h => r h + s h, pr.add ps, fun h => by dsimp only; rw [hr, hs]; grind⟩
theorem Ty.mul {f g : Rat → Rat} {f0 f1 g0 g1 : Rat} (a : Ty f f0 f1) (b : Ty g g0 g1) : Ty (fun h => f h * g h) (f0 * g0) (f1 * g0 + f0 * g1) := by
  obtain ⟨r, pr, hr⟩ := a
  obtain ⟨s, ps, hs⟩ := b
  refine ⟨fun h => f1 * g1 + (f0 * s h + g0 * r h) + h * (f1 * s h + g1 * r h) + h * h * (r h * s h), ?_, fun h => by dsimp only; rw [hr, hs]; grind⟩
  exact ((((Pf.const (f1 * g1)).add ((ps.smul f0).add (pr.smul g0)))).add (Pf.id.mul ((ps.smul f1).add (pr.smul g1)))).add ((Pf.id.mul Pf.id).mul (pr.mul ps))
theorem Ty.pow {f : Rat → Rat} {f0 f1 : Rat} (a : Ty f f0 f1) : ∀ n : Nat, Ty (fun h => rp (f h) n) (rp f0 n) ((n : Rat) * rp f0 (n - 1) * f1)
  | 0 => by
    have := Ty.const 1
    refine ⟨fun _ => 0, Pf.const 0, fun h => ?_⟩
    show (1 : Rat) = 1 + h * ((0 : Rat) * rp f0 (0 - 1) * f1) + h * h * 0
    grind
  | n + 1 => by
    have := (Ty.pow a n).mul a
    have e : (n : Rat) * rp f0 (n - 1) * f1 * f0 + rp f0 n * f1 = ((n + 1 : Nat) : Rat) * rp f0 (n + 1 - 1) * f1 := by
      rw [Nat.add_sub_cancel]
      cases n with
      | zero => 
        show (0 : Rat) * _ * f1 * f0 + rp f0 0 * f1 = (((0 + 1 : Nat) : Nat) : Rat) * rp f0 0 * f1
        have : (((0 + 1 : Nat) : Nat) : Rat) = 1 := rfl
        rw [this]
        grind
      | succ k =>
        rw [Nat.add_sub_cancel, rp_succ]
        have : ((k + 1 + 1 : Nat) : Rat) = ((k + 1 : Nat) : Rat) + 1 := by
          show (((k + 1 + 1 : Nat) : Int) : Rat) = (((k + 1 : Nat) : Int) : Rat) + 1
          rw [Int.natCast_add, Rat.intCast_add]
          rfl
        rw [this]
        grind
    rw [e] at this
    exact this
theorem Ty.uniq {f : Rat → Rat} {f0 f1 g0 g1 : Rat} (a : Ty f f0 f1) (b : Ty f g0 g1) : f1 = g1 := by
  obtain ⟨r, ⟨rl, hrl⟩, hr⟩ := a
  obtain ⟨s, ⟨sl', hsl⟩, hs⟩ := b
  have h0 : f0 = g0 := by
    have h1 := hr 0
    have h2 := hs 0
    grind
  have z : ∀ h, peval (0 :: (f1 - g1) :: adL rl (sl'.map fun q => (-1) * q)) h = 0 := fun h => by
    have h1 := hr h
    have h2 := hs h
    show 0 + h * ((f1 - g1) + h * peval (adL rl (sl'.map fun q => (-1) * q)) h) = 0
    rw [peval_ad, peval_mul, ← hrl, ← hsl]
    grind
  have hl := uniq1 (0 :: (f1 - g1) :: adL rl (sl'.map fun q => (-1) * q)).length (co (0 :: (f1 - g1) :: adL rl (sl'.map fun q => (-1) * q))) (fun x => by
    rw [← peval_rs x _ _ (Nat.le_succ _)]
    exact z x) 1 (by show 1 ≤ _ + 1 + 1; omega)
  have e : co (0 :: (f1 - g1) :: adL rl (sl'.map fun q => (-1) * q)) 1 = f1 - g1 := co_some rfl
  rw [e] at hl
  grind
/-- both slopes of a list of entries, by values -/
def dv (L : List En) (x y α β : Rat) : Rat := rs (fun e => e.2 * (((e.1.1 : Nat) : Rat) * rp x (e.1.1 - 1) * α * rp y e.1.2 + rp x e.1.1 * (((e.1.2 : Nat) : Rat) * rp y (e.1.2 - 1) * β))) L
theorem ty_evL (x y α β : Rat) : ∀ L : List En, Ty (fun h => evL L (x + α * h) (y + β * h)) (evL L x y) (dv L x y α β)
  | [] => Ty.const 0
  | e :: L => by
    have h1 := ((Ty.const e.2).mul (((Ty.lin x α).pow e.1.1).mul ((Ty.lin y β).pow e.1.2))).add (ty_evL x y α β L)
    have e2 : 0 * (rp x e.1.1 * rp y e.1.2) + e.2 * (((e.1.1 : Nat) : Rat) * rp x (e.1.1 - 1) * α * rp y e.1.2 + rp x e.1.1 * (((e.1.2 : Nat) : Rat) * rp y (e.1.2 - 1) * β)) + dv L x y α β = dv (e :: L) x y α β := by
      show _ = e.2 * _ + dv L x y α β
      grind
    rw [e2] at h1
    exact h1
def slX (L : List En) : List En := L.map fun e => ((e.1.1 - 1, e.1.2), ((e.1.1 : Nat) : Rat) * e.2)
def slY (L : List En) : List En := L.map fun e => ((e.1.1, e.1.2 - 1), ((e.1.2 : Nat) : Rat) * e.2)
theorem cf_slX (i j : Nat) : ∀ L : List En, cf (slX L) i j = ((i + 1 : Nat) : Rat) * cf L (i + 1) j
  | [] => by show (0 : Rat) = _ * 0; rw [Rat.mul_zero]
  | e :: L => by
    obtain ⟨⟨u, v⟩, q⟩ := e
    have ih := cf_slX i j L
    unfold slX at ih ⊢
    rw [List.map_cons, cf_cons, ih, cf_cons]
    dsimp only
    cases u with
    | zero =>
      rw [if_neg (show ¬ (0, v) = (i + 1, j) from fun z => by cases z)]
      have e0 : (((0 : Nat) : Rat)) * q = 0 := by show (0 : Rat) * q = 0; rw [Rat.zero_mul]
      rw [e0]
      split <;> grind
    | succ u =>
      by_cases z : (u, v) = (i, j)
      · obtain ⟨rfl, rfl⟩ := Prod.mk.inj z
        rw [if_pos (show (u + 1 - 1, v) = (u, v) from rfl), if_pos rfl]
        grind
      · rw [if_neg (show ¬ (u + 1 - 1, v) = (i, j) from z), if_neg (show ¬ (u + 1, v) = (i + 1, j) from fun y => z (by
          obtain ⟨y1, y2⟩ := Prod.mk.inj y
          rw [show u = i by omega, y2]))]
        grind
theorem cf_slY (i j : Nat) : ∀ L : List En, cf (slY L) i j = ((j + 1 : Nat) : Rat) * cf L i (j + 1)
  | [] => by show (0 : Rat) = _ * 0; rw [Rat.mul_zero]
  | e :: L => by
    obtain ⟨⟨u, v⟩, q⟩ := e
    have ih := cf_slY i j L
    unfold slY at ih ⊢
    rw [List.map_cons, cf_cons, ih, cf_cons]
    dsimp only
    cases v with
    | zero =>
      rw [if_neg (show ¬ (u, 0) = (i, j + 1) from fun z => by cases z)]
      have e0 : (((0 : Nat) : Rat)) * q = 0 := by show (0 : Rat) * q = 0; rw [Rat.zero_mul]
      rw [e0]
      split <;> grind
    | succ v =>
      by_cases z : (u, v) = (i, j)
      · obtain ⟨rfl, rfl⟩ := Prod.mk.inj z
        rw [if_pos (show (u, v + 1 - 1) = (u, v) from rfl), if_pos rfl]
        grind
      · rw [if_neg (show ¬ (u, v + 1 - 1) = (i, j) from z), if_neg (show ¬ (u, v + 1) = (i, j + 1) from fun y => z (by
          obtain ⟨y1, y2⟩ := Prod.mk.inj y
          rw [y1, show v = j by omega]))]
        grind
theorem ev_slX (x y : Rat) : ∀ L : List En, evL (slX L) x y = dv L x y 1 0
  | [] => rfl
  | e :: L => by
    have ih := ev_slX x y L
    unfold slX at ih ⊢
    rw [List.map_cons, evL_cons, ih]
    show _ = e.2 * _ + dv L x y 1 0
    dsimp only
    grind
theorem ev_slY (x y : Rat) : ∀ L : List En, evL (slY L) x y = dv L x y 0 1
  | [] => rfl
  | e :: L => by
    have ih := ev_slY x y L
    unfold slY at ih ⊢
    rw [List.map_cons, evL_cons, ih]
    show _ = e.2 * _ + dv L x y 0 1
    dsimp only
    grind
end
end LW

namespace LW
open PySem PySem.Spec PyProof.Rows L2 GL
section
variable {P : Program} {w : World} {K : PySem.W.Frag} {mg : Str → Option Value} {base : Heap}
section
variable {σ : L2.St} {H : Hp} {g : TG} {te : TE} {ta : TA} {vs : List Nat} {Q : VK} {a b : Addr} {xs ys : List V} {R : Nat → V → Hp → Prop}
theorem l_lcZP (st : ∀ k, Stays (R k)) (of : Off R) (h : VA ta σ H [.ref a, .ref b]) (hx : SqL K H a xs) (hy : SqL K H b ys) (hl : xs.length = ys.length) (hn : xs.length ≤ 10000)
    (hs : ∀ (i : Nat) x y T H1, xs[i]? = some x → ys[i]? = some y → Same H H1 → H1 T = some (.tup [x, y]) → Turn1 g te vs σ (.ref T) H1 (R i))
    (q : ∀ p zs H', Same H H' → H' p = some (.lst zs) → Rows R 0 xs.length zs H' → Q (.ref p) H') : tLc (iZip K ta) g tYes te vs σ H Q := by
  refine h _ ⟨a, b, xs, ys, rfl, hx, hy, fun D hD => ⟨fun i m H1 => m = xs.length - i ∧ i ≤ xs.length ∧ LcP R H D i H1, ⟨_, rfl, Nat.zero_le _, [], Same.new' hD, upd_same, hD, trivial, rfl⟩, ?_⟩⟩
  rintro i m H1 ⟨rfl, hi, p⟩
  have q1 := p.choose_spec.1.seq hx
  have q2 := p.choose_spec.1.seq hy
  rcases Nat.lt_or_ge i xs.length with lt | ge
  · have e : xs[i]? = some xs[i] := List.getElem?_eq_getElem lt
    have e' : ys[i]? = some (ys[i]'(by omega)) := List.getElem?_eq_getElem (by omega)
    refine .inr ⟨⟨xs, ys, xs[i], _, q1, q2, e, e'⟩, LcP R H D (i + 1), fun H' p' => ⟨xs.length - (i + 1), by omega, rfl, lt, p'⟩, ?_⟩
    rintro v H' ⟨T, x, y, rfl, hT, rfl, f, f'⟩
    have ex := f xs q1
    have ey := f' ys q2
    obtain ⟨zs, s, eD, nD, r⟩ := p
    have sT := Same.new' (o := .tup [x, y]) hT
    exact lc_step st of (H := H) ⟨zs, s.trans sT, sT _ _ eD, nD, Rows.stays st zs _ _ sT r⟩ (by omega) fun s2 => hs i x y T _ ex ey s2 upd_same
  · obtain rfl : i = xs.length := by omega
    obtain ⟨zs, s, e, _, r⟩ := p
    exact .inl ⟨⟨xs, ys, q1, q2, .inl (Nat.le_refl _)⟩, q D zs H1 s e r⟩
end
def spLPoly : Sp := fun vs H Q _ => ∃ (l : Addr) (xs : List Rat), vs = [.ref l] ∧ Lst H l xs ∧ xs.length ≤ 1000 ∧ ∀ (l' : Addr) (H' : Hp), L2.Same H H' → H l' = none → Lst H' l' (trim xs) → Q (.ref l') H'
theorem ok_law_poly (T : Txt K mg) : FnOk P w K mg base CX0 1 (fA mg "_law_poly") (fDat K (fA mg "_law_poly")) ["_law_numbers"] spLPoly := by
  refine T._law_poly.F.ok sc_law_poly (fun vs H Q E h => ?_) (fun cdv A outer s H vs Q E hr h => ?_)
  · obtain ⟨l, xs, rfl, _⟩ := h
    rfl
  obtain ⟨l, xs, rfl, ⟨vs, hl, al⟩, hn, k⟩ := h
  refine ⟨_, (pss_cons (ps_set (i := 1) sc_law_poly.nd rfl (Or.inl rfl) (pe_callTy call_list_of (by rfl) T.list (by decide +kernel) (pa_cons (pv 0) pa_nil)))
  (pss_cons (ps_for PassesOwn.never rfl (pi_range1 (by rfl) T.range (pa_cons (pe_callB call_len_seq (by rfl) T.len PySem.boot_len (pa_cons (pv 0) pa_nil)) pa_nil)) (pg_name (i := 2) sc_law_poly.nd rfl (Or.inl rfl))
  (pss_cons (ps_if (PW.pt (pw_or (pt_cmpR (op_eqD (hu64 hr)) (pv 1) (pe_lst pa_nil) (nomark _)) (pw_or1 (pt_cmpR op_ne (pe_ix ix_tup (pe_ix ix_list (pv 1) (pe_un un_neg pe_int) (fun _ _ => rfl)) pe_int (fun _ _ => rfl)) pe_int (nomark _))))) (pss_one ps_break) pss_nil)
  (pss_one (ps_expr (pe_bm0 PySem.F.plainAttrs_list PySem.F.slot_list_pop PySem.F.type_list_pop mt_pop (pv 1))))))
  (pss_one (ps_ret (pv 1))))), ?_⟩
  refine q_asg ((va_cons (val_var rfl) va_nil) _ ⟨l, vs, rfl, .inl (SqL.of hl), fun l' hl' => ?_⟩)
  have s0 := Same.new' (o := .lst vs) hl'
  have len := al.len
  have done : ∀ j H', Same H H' → j ≤ xs.length → H' l' = some (.lst (vs.take j)) → (∀ i q, j ≤ i → xs[i]? = some q → q = 0) → (j = 0 ∨ ∃ q, xs[j - 1]? = some q ∧ q ≠ 0) → Q (.ref l') H' := fun j H' s hj e z h => k l' H' s hl' (by
    have t := tlen_of hj z h
    unfold trim
    rw [t]
    exact ⟨_, e, (al.imp fun v q ⟨p, e, lo⟩ => ⟨p, e, lo.same s⟩).take j⟩)
  refine q_forR1 (n := xs.length) (va_cons (Val.is (v_len (xs := vs) (val_var rfl) (.inl (SqL.of (s0 _ _ hl)))) (by rw [len])) va_nil) (by omega) (fun i σ H1 => ∃ z, σ = [some (.ref l), some (.ref l'), z] ∧ Same H H1 ∧ H1 l' = some (.lst (vs.take (xs.length - i))) ∧ ∀ j q, xs.length - i ≤ j → xs[j]? = some q → q = 0)
    ⟨_, rfl, s0, by rw [Nat.sub_zero, ← len, List.take_length]; exact upd_same, fun j q h e => by have := (List.getElem?_eq_some_iff.mp e).1; omega⟩ (fun i σ H1 hi z => ?_) (fun σ H1 z => ?_)
  · obtain ⟨z, rfl, s1, e1, z1⟩ := z
    obtain ⟨j, hj⟩ : ∃ j, xs.length - i = j + 1 := ⟨xs.length - i - 1, by omega⟩
    rw [hj] at e1 z1
    have lj : j < xs.length := by omega
    have gx : xs[j]? = some xs[j] := List.getElem?_eq_getElem lj
    generalize xs[j] = q at gx
    obtain ⟨v, gv⟩ : ∃ v, vs[j]? = some v := ⟨_, List.getElem?_eq_getElem (by omega)⟩
    obtain ⟨q', hq', p, rfl, lo⟩ := al.get gv
    rw [gx] at hq'
    cases hq'
    have lt : (vs.take (j + 1)).length = j + 1 := by rw [List.length_take]; omega
    have last : (vs.take (j + 1))[(vs.take (j + 1)).length - 1]? = some (.ref p) := by
      rw [lt, List.getElem?_take, if_pos (by omega)]
      exact gv
    refine g_name (q_ifOr (t_op ((val_var rfl) _ (l_lst va_nil (by decide) fun e he => ?_))))
    have s2 := Same.new' (o := .lst []) he
    have L2 : Lst (upd H1 e (.lst [])) l' (xs.take (j + 1)) := ⟨_, s2 _ _ e1, (al.imp fun v q ⟨p, e, lo⟩ => ⟨p, e, lo.same (s1.trans s2)⟩).take (j + 1)⟩
    refine ⟨_, listD [], lst_dp L2, .lst (SqL.of upd_same) .nil, listD_shaped _, listD_shaped _, _, rfl, ?_⟩
    have ne : PyData.eqv (listD (xs.take (j + 1))) (listD []) = false := by
      have : ∃ x r, xs.take (j + 1) = x :: r := by
        cases h : xs.take (j + 1) with
        | nil =>
          have : (xs.take (j + 1)).length = 0 := by rw [h]; rfl
          rw [List.length_take] at this
          omega
        | cons x r => exact ⟨x, r, rfl⟩
      obtain ⟨x, r, h⟩ := this
      rw [h]
      rfl
    rw [ne]
    refine iteF (t_op ?_)
    have ev : Val (tOp (rIxT K) (tOp (rIxL K) (tVar 1) (tUn (rU fun i => .int (-i)) (tC (.int 1)))) (tC (.int 0))) [some (.ref l), some (.ref l'), some (.int (i : Int))] (upd H1 e (.lst [])) (.int q.num) :=
      v_ixT (n := 0) (xs := [.int q.num, .int (q.den : Int)]) (val_op (val_var rfl) (v_neg val_c) fun Q q => ⟨l', _, _, _, rfl, rfl, SqL.of (s2 _ _ e1), atI_m1 last, q⟩) val_c (SqT.of (lo.same (s1.trans s2))) rfl
    refine ev _ (val_c _ ⟨rfl, _, rfl, ?_⟩)
    by_cases q0 : q = 0
    · have n0 : (!decide (V.int q.num = V.int 0)) = false := by rw [q0]; rfl
      rw [n0]
      refine iteF ?_
      refine st_bm0 (x := .ref l') (val_var rfl) ⟨?_, l', _, _, rfl, rfl, s2 _ _ e1, last, ?_⟩
      · exact .inl ⟨rfl, _, SqL.of (s2 _ _ e1)⟩
      refine ⟨_, rfl, Same.updN (s1.trans s2) hl', ?_, fun i' q' h e => ?_⟩
      · rw [upd_same, show xs.length - (i + 1) = j by omega, List.dropLast_eq_take, lt, Nat.add_sub_cancel, List.take_take, Nat.min_eq_left (Nat.le_succ j)]
      · rcases Nat.lt_or_ge i' (j + 1) with lt | ge
        · have : i' = j := by omega
          subst this
          rw [gx] at e
          cases e
          exact q0
        · exact z1 i' q' ge e
    · have n1 : (!decide (V.int q.num = V.int 0)) = true := by
        rw [decide_eq_false (fun z => q0 (by
          have : q.num = 0 := by injection z
          exact Rat.num_eq_zero.mp this))]
        rfl
      rw [n1]
      exact iteT ((val_var (v := .ref l') rfl) _ (done (j + 1) _ (s1.trans s2) (by omega) (s2 _ _ e1) z1 (.inr ⟨q, by simpa using gx, q0⟩)))
  · obtain ⟨z, rfl, s1, e1, z1⟩ := z
    rw [Nat.sub_self] at e1 z1
    exact st_ret (val_var rfl) (done 0 _ s1 (Nat.zero_le _) e1 z1 (.inl rfl))
def psum (xs ys : List Rat) : List Rat := ofN (max xs.length ys.length) fun i => co xs i + co ys i
def rsum : Nat → (Nat → Rat) → Rat
  | 0, _ => 0
  | n + 1, f => rsum n f + f n
theorem rsum_congr {n : Nat} {f g : Nat → Rat} (h : ∀ i, i < n → f i = g i) : rsum n f = rsum n g := by
  induction n with
  | zero => rfl
  | succ n ih => rw [rsum, rsum, ih fun i hi => h i (by omega), h n (by omega)]
def cvl (xs ys : List Rat) (i : Nat) : Rat := rsum (i + 1) fun s => co xs s * co ys (i - s)
def pmul (xs ys : List Rat) : List Rat := ofN (xs.length + ys.length) (cvl xs ys)
theorem rows_lst {f : Nat → Rat} {n : Nat} {l : Addr} {vs : List V} {H : Hp} (e : H l = some (.lst vs)) (r : Rows (fun i v H => ∃ p, v = V.ref p ∧ Lo H p (f i)) 0 n vs H) : Lst H l ((List.range n).map f) :=
  ⟨vs, e, All2.mk (by rw [r.2, List.length_map, List.length_range]) fun i v q hv hq => by
    have hi : i < n := by rw [← r.2]; exact (List.getElem?_eq_some_iff.mp hv).1
    obtain ⟨p, rfl, lo⟩ := r.1.get hv
    rw [Nat.zero_add] at lo
    rw [List.getElem?_map, List.getElem?_range hi] at hq
    cases hq
    exact ⟨p, rfl, lo⟩⟩
theorem Lst.len {H : Hp} {l : Addr} {xs : List Rat} (h : Lst H l xs) : ∃ vs, H l = some (.lst vs) ∧ vs.length = xs.length := by
  obtain ⟨vs, e, al⟩ := h
  exact ⟨vs, e, al.len⟩
theorem v_lenQ {σ : L2.St} {H : Hp} {te : TE} {l : Addr} {xs : List Rat} (h : Val te σ H (.ref l)) (q : Lst H l xs) : Val (tCB (fun xs H Q => ∃ p ys, xs = [.ref p] ∧ (SqL K H p ys ∨ SqT K H p ys) ∧ Q (.int ys.length) H) (tCons te tNil)) σ H (.int (xs.length : Int)) := by
  obtain ⟨vs, e, n⟩ := q.len
  exact Val.is (v_len h (.inl (SqL.of e))) (by rw [n])
theorem rep_flat (v : V) : ∀ k, (List.replicate k [v]).flatten = List.replicate k v
  | 0 => rfl
  | k + 1 => by rw [List.replicate_succ, List.replicate_succ, List.flatten_cons, rep_flat v k]; rfl
theorem pad_all {H : Hp} {t : Addr} {vs : List V} {xs : List Rat} (al : All2 (fun v q => ∃ p, v = V.ref p ∧ Lo H p q) vs xs) (lt : Lo H t 0) {k : Nat} : All2 (fun v q => ∃ p, v = V.ref p ∧ Lo H p q) (vs ++ List.replicate k (V.ref t)) (xs ++ List.replicate k 0) := by
  have rep : ∀ k, All2 (fun v q => ∃ p, v = V.ref p ∧ Lo H p q) (List.replicate k (V.ref t)) (List.replicate k (0 : Rat)) := fun k => by
    induction k with
    | zero => exact .nil
    | succ k ih => exact .cons ⟨t, rfl, lt⟩ ih
  induction al with
  | nil => exact rep k
  | cons h _ ih => exact .cons h ih
theorem l_pad {σ : L2.St} {H : Hp} {t1 t2 : TE} {l : Addr} {xs : List Rat} {k : Nat} {Q : VK} (h : Val t1 σ H (.ref l)) (hl : Lst H l xs) (hn : xs.length ≤ 1000) (hk : k ≤ 1000) (h2 : ∀ H1, Same H H1 → Val t2 σ H1 (.int (k : Int)))
    (q : ∀ p H', Same H H' → Lst H' p (xs ++ List.replicate k 0) → Q (.ref p) H') : tOp rCat t1 (tOp rRep (tLst (tCons (tTup (tCons (tC (.int 0)) (tCons (tC (.int 1)) tNil))) tNil)) t2) σ H Q := by
  obtain ⟨vs, e, al⟩ := hl
  have len := al.len
  refine op_l h ?_
  refine l_s (va_1 (l_tup (va_cons val_c (va_cons val_c va_nil)) (by decide) fun t ht => ⟨by show 1 ≤ sizeLine; decide, fun z hz => ?_⟩))
  have s1 := Same.new' (o := .tup [.int 0, .int 1]) ht
  have s2 := Same.new' (o := .lst [.ref t]) hz
  refine (h2 _ (s1.trans s2)) _ ⟨z, k, [.ref t], rfl, rfl, upd_same, by omega, by omega, ?_, fun r hr => ?_⟩
  · rw [Int.toNat_natCast]
    exact Nat.le_trans (by show 1 * k ≤ 1000; omega) (show 1000 ≤ sizeLine by decide)
  have s3 := Same.new' (o := .lst (List.replicate (k : Int).toNat [V.ref t]).flatten) hr
  refine ⟨l, r, vs, _, rfl, rfl, s3 _ _ (s2 _ _ (s1 _ _ e)), upd_same, ?_, fun p hp => ?_⟩
  · rw [Int.toNat_natCast, List.length_flatten, List.map_replicate, List.sum_replicate_nat]
    exact Nat.le_trans (by show vs.length + k * 1 ≤ 2000; omega) (show 2000 ≤ sizeLine by decide)
  · have s4 := Same.new' (o := .lst (vs ++ (List.replicate (k : Int).toNat [V.ref t]).flatten)) hp
    have S := ((s1.trans s2).trans s3).trans s4
    refine q p _ S ⟨_, upd_same, ?_⟩
    have fl : (List.replicate (k : Int).toNat [V.ref t]).flatten = List.replicate k (V.ref t) := by rw [Int.toNat_natCast, rep_flat]
    rw [fl] at S s4 s3 ⊢
    exact pad_all (al.imp fun v q ⟨p, e, lo⟩ => ⟨p, e, lo.same S⟩) (s4 _ _ (s3 _ _ (s2 _ _ upd_same)))
theorem co_pad (xs : List Rat) (k i : Nat) (q : Rat) (h : (xs ++ List.replicate k 0)[i]? = some q) : q = co xs i := by
  rcases Nat.lt_or_ge i xs.length with lt | ge
  · rw [List.getElem?_append_left lt] at h
    exact (co_some h).symm
  · rw [List.getElem?_append_right ge, List.getElem?_replicate] at h
    split at h
    · cases h
      exact (co_none ge).symm
    · cases h
def spLPlus2 (f : List Rat → List Rat → List Rat) : Sp := fun vs H Q _ => ∃ (l b : Addr) (xs ys : List Rat) (n m : Nat), vs = [.ref l, .ref b] ∧ Lst H l xs ∧ Lst H b ys ∧ Sms n xs ∧ Sms m ys ∧ 1 ≤ n ∧ 1 ≤ m ∧ n ≤ 900 ∧ m ≤ 900 ∧ xs.length ≤ 500 ∧ ys.length ≤ 500 ∧ ∀ (l' : Addr) (H' : Hp), Same H H' → Lst H' l' (f xs ys) → Q (.ref l') H'
theorem ok_law_p_plus (T : Txt K mg) : FnOk P w K mg base CX0 4 (fA mg "_law_p_plus") (fDat K (fA mg "_law_p_plus")) ["_law_one", "_law_two"] (spLPlus2 psum) := by
  have G_law_poly := ok_law_poly (P := P) (w := w) (base := base) T
  have G_law_plus := ok_law_plus (P := P) (w := w) (base := base) T
  refine T._law_p_plus.F.ok sc_law_p_plus (fun vs H Q E h => ?_) (fun cdv A outer s H vs Q E hr h => ?_)
  · obtain ⟨l, b, xs, ys, n, m, rfl, _⟩ := h
    rfl
  obtain ⟨l, b, xs, ys, n, m, rfl, Lx, Ly, sx, sy, n1, m1, hn, hm, hx, hy, k⟩ := h
  refine ⟨_, (pss_cons (ps_set (i := 2) sc_law_p_plus.nd rfl (Or.inl rfl) (pe_callB (cr_max rfl) (by rfl) T.max (by decide +kernel) (pa_cons (pe_lst (pa_cons (pe_callB call_len_seq (by rfl) T.len PySem.boot_len (pa_cons (pv 0) pa_nil)) (pa_cons (pe_callB call_len_seq (by rfl) T.len PySem.boot_len (pa_cons (pv 1) pa_nil)) pa_nil))) pa_nil)))
  (pss_cons (ps_par (i := 3) (j := 4) (by rfl) sc_law_p_plus.nd rfl rfl (by decide) rfl rfl (pa_cons (pe_op op_cat (pv 0) (pe_op op_rep (pe_lst (pa_cons (pe_tup (pa_cons pe_int (pa_cons pe_int pa_nil))) pa_nil)) (pe_op op_sub (pv 2) (pe_callB call_len_seq (by rfl) T.len PySem.boot_len (pa_cons (pv 0) pa_nil))))) (pa_cons (pe_op op_cat (pv 1) (pe_op op_rep (pe_lst (pa_cons (pe_tup (pa_cons pe_int (pa_cons pe_int pa_nil))) pa_nil)) (pe_op op_sub (pv 2) (pe_callB call_len_seq (by rfl) T.len PySem.boot_len (pa_cons (pv 1) pa_nil))))) pa_nil)) (by rfl))
  (pss_one (ps_ret (pe_c T._law_poly G_law_poly (hr.mono (by decide)) (pa_cons (pe_lc (own := [("_law_a", 5), ("_law_b", 6)]) (g := gTup K 2 (gCons (gName 5) (gCons (gName 6) gNil))) (tt := tYes) (by rfl) sc_law_p_plus.nd (pi_zip (by rfl) T.zip (pa_cons (pv 3) (pa_cons (pv 4) pa_nil))) (blkOk_by (own := [("_law_a", 5), ("_law_b", 6)]) (N := ["_law_one", "_law_two", "_law_many", "_law_first", "_law_second", "_law_a", "_law_b"]) (sc := defScope s_law_p_plus) (by decide +kernel)) (fun _ _ _ _ _ => pg_tup rfl (pgs_cons (pg_name (i := 5) sc_law_p_plus.nd rfl (Or.inl rfl)) (pgs_cons (pg_name (i := 6) sc_law_p_plus.nd rfl (Or.inl rfl)) pgs_nil))) (fun _ _ _ _ _ => pts_nil) (fun _ _ _ _ _ => (pe_c T._law_plus G_law_plus (hr.mono (by decide)) (pa_cons (pv 5) (pa_cons (pv 6) pa_nil))))) pa_nil)))))), ?_⟩
  refine q_asg (va_1 (l_s (va_s (v_lenQ (val_var rfl) Lx) (va_1 ((v_lenQ (val_var rfl) Ly) _ ⟨by show 2 ≤ sizeLine; decide, fun q hq => ⟨q, [(xs.length : Int), (ys.length : Int)], rfl, SqL.of upd_same, by show 0 < 2; decide, fun mx hm1 hm2 => ?_⟩⟩)))))
  obtain rfl : mx = ((max xs.length ys.length : Nat) : Int) := by
    have h1 := hm2 (xs.length : Int) (by simp)
    have h2 := hm2 (ys.length : Int) (by simp)
    simp at hm1
    rcases hm1 with e | e <;> omega
  have s1 := Same.new' (o := .lst [V.int (xs.length : Int), V.int (ys.length : Int)]) hq
  refine q_par (ta_two (l_pad (k := max xs.length ys.length - xs.length) (val_var rfl) (Lx.same s1) (by omega) (by omega) (fun H2 s2 => ?_) fun l1 H2 s2 L1 => l_pad (k := max xs.length ys.length - ys.length) (val_var rfl) ((Ly.same s1).same s2) (by omega) (by omega) (fun H3 s3 => ?_) fun l2 H3 s3 L2 => ⟨_, _, rfl, ?_⟩))
  · exact Val.is (v_sub (val_var rfl) (v_lenQ (val_var rfl) ((Lx.same s1).same s2))) (by congr 1; omega)
  · exact Val.is (v_sub (val_var rfl) (v_lenQ (val_var rfl) (((Ly.same s1).same s2).same s3))) (by congr 1; omega)
  obtain ⟨vs1, e1, al1⟩ := L1.same s3
  obtain ⟨vs2, e2, al2⟩ := L2
  have len1 : vs1.length = max xs.length ys.length := by rw [al1.len, List.length_append, List.length_replicate]; omega
  have len2 : vs2.length = max xs.length ys.length := by rw [al2.len, List.length_append, List.length_replicate]; omega
  refine r_ret (te := tCall _ _ _ _) (va_1 (l_lcZP (R := fun i v H => ∃ p, v = V.ref p ∧ Lo H p (co xs i + co ys i)) (fun i v H1 H2 s ⟨p, h1, lo⟩ => ⟨p, h1, lo.same s⟩) (lo_offR _) (va_cons (val_var rfl) (va_cons (val_var rfl) va_nil)) (SqL.of e1) (SqL.of e2) (by omega) (by omega) (fun i x y U H4 hx hy s4 eU => turn_two (SqT.of eU) rfl fun Q q => ?_) (fun l5 zs H5 s5 e5 r5 => ?_)))
  · obtain ⟨q1, hq1, p1, rfl, lo1⟩ := al1.get hx
    obtain ⟨q2, hq2, p2, rfl, lo2⟩ := al2.get hy
    have c1 := co_pad _ _ _ _ hq1
    have c2 := co_pad _ _ _ _ hq2
    subst c1 c2
    exact c_lplus (va_cons (val_var rfl) (va_cons (val_var rfl) va_nil)) (lo1.same s4) (lo2.same s4) (sx.co n1 i) (sy.co m1 i) (by omega) (by omega) fun c H6 s6 lo6 => q _ H6 s6 ⟨c, rfl, lo6⟩
  · rw [len1] at r5
    exact ⟨l5, _, rfl, rows_lst e5 r5, by rw [List.length_map, List.length_range]; omega, fun l' H' s _ h => k l' H' ((((s1.trans s2).trans s3).trans s5).trans s) h⟩
theorem op_l' {r : R2} {ta tb : TE} {σ : L2.St} {H : Hp} {Q : VK} (k : ta σ H fun x H1 => tb σ H1 fun y H2 => r x y H2 Q) : tOp r ta tb σ H Q := k
theorem ixN_nat {n j : Nat} (h : j < n) : ixN n (j : Int) = some j := by
  unfold ixN
  rw [if_pos (by omega), if_pos (by omega), Int.toNat_natCast]

theorem rsum_zero {n : Nat} {f : Nat → Rat} (h : ∀ i, i < n → f i = 0) : rsum n f = 0 := by
  induction n with
  | zero => rfl
  | succ n ih => rw [rsum, ih fun i hi => h i (by omega), h n (by omega), Rat.add_zero]
theorem rsum_cut (a : Nat) (f : Nat → Rat) : ∀ d, (∀ i, a ≤ i → i < a + d → f i = 0) → rsum (a + d) f = rsum a f
  | 0, _ => rfl
  | d + 1, h => by
    show rsum (a + d) f + f (a + d) = _
    rw [rsum_cut a f d fun i h1 h2 => h i h1 (by omega), h (a + d) (by omega) (by omega), Rat.add_zero]
theorem rsum_cut' {a b : Nat} {f : Nat → Rat} (l : a ≤ b) (h : ∀ i, a ≤ i → i < b → f i = 0) : rsum b f = rsum a f := by
  obtain ⟨d, rfl⟩ : ∃ d, b = a + d := ⟨b - a, by omega⟩
  exact rsum_cut a f d h
def trm (xs ys : List Rat) (t s : Nat) : Rat := if s ≤ t then co xs s * co ys (t - s) else 0
theorem cvl_trm (xs ys : List Rat) (t : Nat) : cvl xs ys t = rsum xs.length (trm xs ys t) := by
  have e1 : cvl xs ys t = rsum (t + 1) (trm xs ys t) := rsum_congr fun i hi => by
    unfold trm
    rw [if_pos (by omega)]
  rw [e1]
  rcases Nat.le_total (t + 1) xs.length with l | l
  · exact (rsum_cut' l fun i h1 h2 => by unfold trm; rw [if_neg (by omega)]).symm
  · exact rsum_cut' l fun i h1 h2 => by
      unfold trm
      split
      · rw [co_none h1, Rat.zero_mul]
      · rfl
theorem cvl_zero {xs ys : List Rat} {t : Nat} (h : xs.length + ys.length - 1 ≤ t) : cvl xs ys t = 0 := by
  rw [cvl_trm]
  refine rsum_zero fun s hs => ?_
  unfold trm
  split
  · rw [co_none (xs := ys) (by omega), Rat.mul_zero]
  · rfl
theorem trm_sm {xs ys : List Rat} {n m : Nat} (sx : Sms n xs) (sy : Sms m ys) (n1 : 1 ≤ n) (m1 : 1 ≤ m) (t s : Nat) : Sm (n + m) (trm xs ys t s) := by
  unfold trm
  split
  · exact (sx.co n1 s).mul (sy.co m1 _)
  · exact Sm.zero (by omega)
theorem rsum_sm {f : Nat → Rat} {n : Nat} (h : ∀ s, Sm n (f s)) : ∀ i, Sm ((n + 1) * i + 1) (rsum i f)
  | 0 => Sm.zero (by omega)
  | i + 1 => ((rsum_sm h i).add (h i)).mono (by rw [Nat.mul_succ]; omega)
def Acc (H : Hp) (f : Addr) (N : Nat) (F : Nat → Rat) : Prop := ∃ ws, H f = some (.lst ws) ∧ ws.length = N ∧ ∀ (t : Nat) v, ws[t]? = some v → ∃ p, v = .ref p ∧ Lo H p (F t)
theorem Acc.congr {H : Hp} {f : Addr} {N : Nat} {F G : Nat → Rat} (h : Acc H f N F) (e : ∀ t, t < N → F t = G t) : Acc H f N G := by
  obtain ⟨ws, h1, h2, h3⟩ := h
  refine ⟨ws, h1, h2, fun t v hv => ?_⟩
  have lt : t < N := by rw [← h2]; exact (List.getElem?_eq_some_iff.mp hv).1
  rw [← e t lt]
  exact h3 t v hv
theorem Acc.lst {H : Hp} {f : Addr} {N : Nat} {F : Nat → Rat} (h : Acc H f N F) : Lst H f ((List.range N).map F) := by
  obtain ⟨ws, h1, h2, h3⟩ := h
  refine ⟨ws, h1, All2.mk (by rw [h2, List.length_map, List.length_range]) fun i v q hv hq => ?_⟩
  have hi : i < N := by rw [← h2]; exact (List.getElem?_eq_some_iff.mp hv).1
  rw [List.getElem?_map, List.getElem?_range hi] at hq
  cases hq
  exact h3 i v hv
def spLTimes : Sp := fun vs H Q _ => ∃ (l b : Addr) (xs ys : List Rat) (n m : Nat), vs = [.ref l, .ref b] ∧ Lst H l xs ∧ Lst H b ys ∧ Sms n xs ∧ Sms m ys ∧ 1 ≤ n ∧ 1 ≤ m ∧ (n + m + 1) * xs.length + n + m + 1 ≤ 900 ∧ xs.length ≤ 400 ∧ ys.length ≤ 400 ∧ ∀ (l' : Addr) (H' : Hp), Same H H' → Lst H' l' (pmul xs ys) → Q (.ref l') H'
theorem ok_law_p_times (T : Txt K mg) : FnOk P w K mg base CX0 4 (fA mg "_law_p_times") (fDat K (fA mg "_law_p_times")) ["_law_one", "_law_two"] spLTimes := by
  have G_law_poly := ok_law_poly (P := P) (w := w) (base := base) T
  have G_law_plus := ok_law_plus (P := P) (w := w) (base := base) T
  have G_law_times := ok_law_times (P := P) (w := w) (base := base) T
  refine T._law_p_times.F.ok sc_law_p_times (fun vs H Q E h => ?_) (fun cdv A outer s H vs Q E hr h => ?_)
  · obtain ⟨l, b, xs, ys, n, m, rfl, _⟩ := h
    rfl
  obtain ⟨l, b, xs, ys, n, m, rfl, Lx, Ly, sx, sy, n1, m1, hn, hx, hy, k⟩ := h
  refine ⟨_, (pss_cons (ps_set (i := 2) sc_law_p_times.nd rfl (Or.inl rfl) (pe_op op_rep (pe_lst (pa_cons (pe_tup (pa_cons pe_int (pa_cons pe_int pa_nil))) pa_nil)) (pe_callB (cr_max rfl) (by rfl) T.max (by decide +kernel) (pa_cons (pe_lst (pa_cons pe_int (pa_cons (pe_op op_sub (pe_op op_add (pe_callB call_len_seq (by rfl) T.len PySem.boot_len (pa_cons (pv 0) pa_nil)) (pe_callB call_len_seq (by rfl) T.len PySem.boot_len (pa_cons (pv 1) pa_nil))) pe_int) pa_nil))) pa_nil))))
  (pss_cons (ps_for PassesOwn.never rfl (pi_range1 (by rfl) T.range (pa_cons (pe_callB call_len_seq (by rfl) T.len PySem.boot_len (pa_cons (pv 0) pa_nil)) pa_nil)) (pg_name (i := 3) sc_law_p_times.nd rfl (Or.inl rfl))
  (pss_one (ps_for PassesOwn.never rfl (pi_range1 (by rfl) T.range (pa_cons (pe_callB call_len_seq (by rfl) T.len PySem.boot_len (pa_cons (pv 1) pa_nil)) pa_nil)) (pg_name (i := 4) sc_law_p_times.nd rfl (Or.inl rfl))
  (pss_one (ps_asg (pe_c T._law_plus G_law_plus (hr.mono (by decide)) (pa_cons (pe_ix ix_list (pv 2) (pe_op op_add (pv 3) (pv 4)) (fun _ _ => rfl)) (pa_cons (pe_c T._law_times G_law_times (hr.mono (by decide)) (pa_cons (pe_ix ix_list (pv 0) (pv 3) (fun _ _ => rfl)) (pa_cons (pe_ix ix_list (pv 1) (pv 4) (fun _ _ => rfl)) pa_nil))) pa_nil))) (pg_sub (pv 2) (pe_op op_add (pv 3) (pv 4)) set_list))))))
  (pss_one (ps_ret (pe_c T._law_poly G_law_poly (hr.mono (by decide)) (pa_cons (pv 2) pa_nil)))))), ?_⟩
  let N := xs.length + ys.length - 1
  refine q_asg (op_l' (l_s (va_1 (l_tup (va_cons val_c (va_cons val_c va_nil)) (by decide) fun t ht => ⟨by show 1 ≤ sizeLine; decide, fun z hz => ?_⟩))))
  have s1 := Same.new' (o := .tup [.int 0, .int 1]) ht
  have s2 := Same.new' (o := .lst [.ref t]) hz
  refine va_1 (l_s (va_s val_c (va_1 ((v_sub (v_add (v_lenQ (val_var rfl) ((Lx.same s1).same s2)) (v_lenQ (val_var rfl) ((Ly.same s1).same s2))) val_c) _ ⟨by show 2 ≤ sizeLine; decide, fun q hq => ⟨q, [0, (xs.length : Int) + (ys.length : Int) - 1], rfl, SqL.of upd_same, by show 0 < 2; decide, fun mx hm1 hm2 => ?_⟩⟩))))
  have s3 := Same.new' (o := .lst [.int 0, .int ((xs.length : Int) + (ys.length : Int) - 1)]) hq
  obtain rfl : mx = (N : Int) := by
    have h1 := hm2 0 (by simp)
    have h2 := hm2 ((xs.length : Int) + (ys.length : Int) - 1) (by simp)
    simp at hm1
    show mx = ((xs.length + ys.length - 1 : Nat) : Int)
    rcases hm1 with e | e <;> omega
  have hN : N ≤ 800 := by show xs.length + ys.length - 1 ≤ 800; omega
  refine ⟨z, (N : Int), [.ref t], rfl, rfl, s3 _ _ upd_same, by omega, by omega, Nat.le_trans (by show 1 * (N : Int).toNat ≤ 1000; omega) (show 1000 ≤ sizeLine by decide), fun f hf => ?_⟩
  have s4 := Same.new' (o := .lst (List.replicate (N : Int).toNat [V.ref t]).flatten) hf
  have fl : (List.replicate (N : Int).toNat [V.ref t]).flatten = List.replicate N (V.ref t) := by rw [Int.toNat_natCast, rep_flat]
  have A0 : Acc _ f N (fun _ => 0) := ⟨_, upd_same (o := .lst (List.replicate (N : Int).toNat [V.ref t]).flatten), by rw [fl, List.length_replicate], fun i v hv => by
    rw [fl, List.getElem?_replicate] at hv
    split at hv
    · cases hv
      exact ⟨t, rfl, s4 _ _ (s3 _ _ (s2 _ _ (show Lo _ t 0 from upd_same)))⟩
    · cases hv⟩
  have S := ((s1.trans s2).trans s3).trans s4
  have fH : H f = none := by
    cases h : H f with
    | none => rfl
    | some o => rw [((s1.trans s2).trans s3) _ _ h] at hf; cases hf
  revert A0 S
  generalize upd _ f (.lst (List.replicate (N : Int).toNat [V.ref t]).flatten) = H0
  intro A0 S
  refine q_forR1 (n := xs.length) (va_cons (v_lenQ (val_var rfl) (Lx.same S)) va_nil) (by omega) (fun i σ H1 => ∃ z z', σ = [some (.ref l), some (.ref b), some (.ref f), z, z'] ∧ Same H H1 ∧ Acc H1 f N (fun t => rsum i (trm xs ys t))) ⟨_, _, rfl, S, A0⟩ (fun i σ H1 hi z => ?_) (fun σ H1 z => ?_)
  · obtain ⟨z, z', rfl, S1, A1⟩ := z
    refine g_name (st_forR1 (n := ys.length) (va_cons (v_lenQ (val_var rfl) (Ly.same S1)) va_nil) (by omega) (fun k σ H2 => ∃ z', σ = [some (.ref l), some (.ref b), some (.ref f), some (.int (i : Int)), z'] ∧ Same H H2 ∧ Acc H2 f N (fun t => rsum i (trm xs ys t) + if i ≤ t ∧ t < i + k then co xs i * co ys (t - i) else 0))
      ⟨_, rfl, S1, A1.congr fun t _ => by rw [if_neg (by omega), Rat.add_zero]⟩ (fun k σ H2 hk z => ?_) (fun σ H2 z => ?_))
    · obtain ⟨z', rfl, S2, A2⟩ := z
      obtain ⟨ws, e1, e2, e3⟩ := A2
      have lj : i + k < N := by show i + k < xs.length + ys.length - 1; omega
      have gw : ws[i + k]? = some ws[i + k] := List.getElem?_eq_getElem (by omega)
      generalize ws[i + k] = v at gw
      obtain ⟨p, rfl, lo⟩ := e3 _ _ gw
      have lo : Lo H2 p (rsum i (trm xs ys (i + k)) + if i ≤ i + k ∧ i + k < i + k then co xs i * co ys (i + k - i) else 0) := lo
      rw [if_neg (by omega), Rat.add_zero] at lo
      obtain ⟨us, hu, alu⟩ := Lx.same S2
      obtain ⟨vs, hv, alv⟩ := Ly.same S2
      obtain ⟨u, gu⟩ : ∃ u, us[i]? = some u := ⟨_, List.getElem?_eq_getElem (by rw [alu.len]; exact hi)⟩
      obtain ⟨v, gv⟩ : ∃ v, vs[k]? = some v := ⟨_, List.getElem?_eq_getElem (by rw [alv.len]; exact hk)⟩
      obtain ⟨x, gx, px, rfl, lx⟩ := alu.get gu
      obtain ⟨y, gy, py, rfl, ly⟩ := alv.get gv
      have sx1 := sx x (get_mem gx)
      have sy1 := sy y (get_mem gy)
      have ei : (i : Int) + (k : Int) = ((i + k : Nat) : Int) := by omega
      have bd : (n + m + 1) * (i + 1) ≤ (n + m + 1) * xs.length := Nat.mul_le_mul_left _ (by omega)
      have bd' : (n + m + 1) * (i + 1) = (n + m + 1) * i + (n + m + 1) := Nat.mul_succ _ _
      refine g_name (call_1 ((v_ixL (n := i + k) (val_var rfl) (Val.is (v_add (val_var rfl) (val_var rfl)) (by rw [ei])) (SqL.of e1) gw) _ (va_1 (c_ltimes (va_cons (v_ixL (n := i) (val_var rfl) (val_var rfl) (SqL.of hu) gu) (va_cons (v_ixL (n := k) (val_var rfl) (val_var rfl) (SqL.of hv) gv) va_nil)) lx ly sx1 sy1 (by omega) (by omega) fun c H3 s3 lo3 => ?_))))
      refine cs_lplus (lo.same s3) lo3 (rsum_sm (trm_sm sx sy n1 m1 _) i) (sx1.mul sy1) (by omega) (by omega) fun d H4 s4 lo4 => ?_
      have e4 := s4 _ _ (s3 _ _ e1)
      refine (val_var (v := .ref f) rfl) _ ((Val.is (v_add (val_var rfl) (val_var rfl)) (by rw [ei])) _ ⟨f, ws, _, i + k, rfl, rfl, e4, ixN_nat (by omega), ?_⟩)
      refine ⟨_, rfl, Same.updN ((S2.trans s3).trans s4) fH, ws.set (i + k) (.ref d), upd_same, by rw [List.length_set]; exact e2, fun t v hv => ?_⟩
      rw [List.getElem?_set] at hv
      split at hv
      · rename_i et
        subst et
        rw [if_pos (by omega)] at hv
        cases hv
        refine ⟨d, rfl, ?_⟩
        show Lo _ d (rsum i (trm xs ys (i + k)) + if i ≤ i + k ∧ i + k < i + (k + 1) then co xs i * co ys (i + k - i) else 0)
        rw [if_pos (by omega), co_some gx, Nat.add_sub_cancel_left, co_some gy]
        exact lo_upd e4 lo4
      · rename_i et
        obtain ⟨p', e', lo'⟩ := e3 t v hv
        refine ⟨p', e', ?_⟩
        have iff : (i ≤ t ∧ t < i + (k + 1)) ↔ (i ≤ t ∧ t < i + k) := by omega
        have lo2 := lo_upd (zs := ws.set (i + k) (.ref d)) e4 ((lo'.same s3).same s4)
        show Lo _ p' (rsum i (trm xs ys t) + if i ≤ t ∧ t < i + (k + 1) then co xs i * co ys (t - i) else 0)
        simp only [iff]
        exact lo2
    · obtain ⟨z', rfl, S2, A2⟩ := z
      refine ⟨_, _, rfl, S2, A2.congr fun t _ => ?_⟩
      show _ = rsum i (trm xs ys t) + trm xs ys t i
      unfold trm
      by_cases h1 : i ≤ t
      · rw [if_pos h1]
        by_cases h2 : t < i + ys.length
        · rw [if_pos ⟨h1, h2⟩]
        · rw [if_neg (by omega), co_none (xs := ys) (by omega), Rat.mul_zero]
      · rw [if_neg h1, if_neg (by omega)]
  · obtain ⟨z, z', rfl, S1, A1⟩ := z
    have L1 := A1.lst
    refine r_ret (te := tCall _ _ _ _) (c_call (va_cons (val_var rfl) va_nil) ⟨f, _, rfl, L1, by rw [List.length_map, List.length_range]; omega, fun l' H' s _ L' => k l' H' (S1.trans s) ?_⟩)
    have : trim ((List.range N).map fun t => rsum xs.length (trm xs ys t)) = pmul xs ys := by
      refine eq_of_co (tlen_ofN (n := N)) tlen_ofN fun i => ?_
      show co (ofN N fun t => rsum xs.length (trm xs ys t)) i = _
      unfold pmul
      rw [co_ofN, co_ofN, ← cvl_trm]
      by_cases h1 : i < N
      · rw [if_pos h1, if_pos (by have : N = xs.length + ys.length - 1 := rfl; omega)]
      · rw [if_neg h1]
        split
        · exact (cvl_zero (by have : N = xs.length + ys.length - 1 := rfl; omega)).symm
        · rfl
    rw [← this]
    exact L'
end
end LW

namespace LW
open PySem PySem.Spec PyProof.Rows L2 GL
section
variable {P : Program} {w : World} {K : PySem.W.Frag} {mg : Str → Option Value} {base : Heap}
/-! ### rows of numbers by values -/
theorem co_psum (xs ys : List Rat) (i : Nat) : co (psum xs ys) i = co xs i + co ys i := by
  unfold psum
  rw [co_ofN]
  split
  · rfl
  · rw [co_none (xs := xs) (by omega), co_none (xs := ys) (by omega), Rat.add_zero]
theorem cvl_line {xs ys : List Rat} (h : ys.length ≤ 2) (t : Nat) : cvl xs ys t = co ys 0 * co xs t + (if t = 0 then 0 else co ys 1 * co xs (t - 1)) := by
  unfold cvl
  match t with
  | 0 =>
    show (0 : Rat) + co xs 0 * co ys 0 = co ys 0 * co xs 0 + 0
    grind
  | k + 1 =>
    show rsum k (fun s => co xs s * co ys (k + 1 - s)) + co xs k * co ys (k + 1 - k) + co xs (k + 1) * co ys (k + 1 - (k + 1)) = co ys 0 * co xs (k + 1) + co ys 1 * co xs (k + 1 - 1)
    rw [rsum_zero fun i hi => by rw [co_none (xs := ys) (by omega), Rat.mul_zero], show k + 1 - k = 1 by omega, Nat.sub_self, Nat.add_sub_cancel]
    grind
theorem co_pmul_line {xs ys : List Rat} (h : ys.length ≤ 2) (t : Nat) : co (pmul xs ys) t = co ys 0 * co xs t + (if t = 0 then 0 else co ys 1 * co xs (t - 1)) := by
  unfold pmul
  rw [co_ofN]
  split
  · exact cvl_line h t
  · rename_i n
    rw [← cvl_line h]
    exact (cvl_zero (by omega)).symm
theorem tlen_below {xs : List Rat} {k : Nat} (h : ∀ i, k ≤ i → co xs i = 0) : tlen xs ≤ k := by
  rcases Nat.lt_or_ge k (tlen xs) with lt | ge
  · obtain ⟨q, hq, nz⟩ := tlen_last (k := tlen xs - 1) (by omega : tlen xs = tlen xs - 1 + 1)
    have := h (tlen xs - 1) (by omega)
    rw [co_some hq] at this
    exact (nz this).elim
  · exact ge
theorem pmul_len {xs ys : List Rat} {k : Nat} (h : ys.length ≤ 2) (hk : xs.length ≤ k) : (pmul xs ys).length ≤ k + 1 := by
  have e : tlen (pmul xs ys) = (pmul xs ys).length := tlen_ofN
  rw [← e]
  refine tlen_below fun i hi => ?_
  rw [co_pmul_line h, co_none (xs := xs) (i := i) (by omega), co_none (xs := xs) (i := i - 1) (by omega), Rat.mul_zero, Rat.mul_zero]
  split <;> grind
theorem mem_ofN {n : Nat} {f : Nat → Rat} {q : Rat} (h : q ∈ ofN n f) : ∃ i, i < n ∧ q = f i := by
  unfold ofN trim at h
  obtain ⟨i, hi, rfl⟩ := List.mem_map.mp (List.mem_of_mem_take h)
  exact ⟨i, List.mem_range.mp hi, rfl⟩
theorem pmul_bd {D M E' N : Nat} {xs ys : List Rat} (hx : Bds D M xs) (hy : Bds E' N ys) (h : ys.length ≤ 2) : Bds (D * E') (M * N + M * N) (pmul xs ys) := fun q hq => by
  obtain ⟨i, _, rfl⟩ := mem_ofN hq
  rw [cvl_line h, Rat.mul_comm]
  refine ((hx.co i).mul (hy.co 0)).add ?_
  split
  · exact Bd.zero
  · rw [Rat.mul_comm]
    exact (hx.co _).mul (hy.co 1)
theorem psum_bd {D M N : Nat} {xs ys : List Rat} (hx : Bds D M xs) (hy : Bds D N ys) : Bds D (M + N) (psum xs ys) := fun q hq => by
  obtain ⟨i, _, rfl⟩ := mem_ofN hq
  exact (hx.co i).add (hy.co i)
theorem psum_len {xs ys : List Rat} {k : Nat} (hx : xs.length ≤ k) (hy : ys.length ≤ k) : (psum xs ys).length ≤ k := by
  have e : tlen (psum xs ys) = (psum xs ys).length := tlen_ofN
  rw [← e]
  refine tlen_below fun i hi => ?_
  rw [co_psum, co_none (by omega), co_none (by omega), Rat.add_zero]
end
end LW

namespace GL
open PySem PySem.Spec PyProof.Rows L2
section
variable {pg : Program} {wd : World} {KT' : Type} [DecidableEq KT'] {kd : HeapKind pg wd KT'} {Ar : Around} {XE : Value → Shared → Prop} {st : Shared}
/-- two dicts with keys in the heap, of one size, each pair of the first found in the second -/
theorem pairsSame {nm : String} {a b : Addr} {xs ys : List (KT' × Addr × Value)} {Q : Bool → Shared → Prop} (na : (a == sysModules) = false) (nb : (b == sysModules) = false) (hr : kd.room Ar) (da : st.heap.DictOfH kd a xs) (db : st.heap.DictOfH kd b ys) (sz : xs.length = ys.length)
    (hits : ∀ x ∈ xs, ∃ (j : Nat) (p : Addr) (u : Value), ys[j]? = some (x.1, p, u) ∧ SeqAt.EqAt Ar st x.2.2 u true) (q : Q true st) : wpAny (model pg wd) Ar (Builtin.Dict.samePairs nm a b) Q XE st := by
  obtain ⟨o1, e1, p1, g1, _, d1, l1, i1, n1⟩ := da
  obtain ⟨o2, e2, p2, g2, _, d2, l2, i2, n2⟩ := db
  have z1 : e1.size = xs.length := size_of_entries l1
  have z2 : e2.size = ys.length := size_of_entries l2
  unfold Builtin.Dict.samePairs Builtin.Dict.showsAll
  rw [if_neg (by rw [na]; decide), if_neg (by rw [nb]; decide)]
  refine wpAny_bind (wpAny_pure (wpAny_bind (wpAny_pure (wpAny_bind (wpAny_dictEntries g1 d1 ?_)))))
  show wpAny _ _ (_ >>= _) _ _ _
  refine wpAny_bind (wpAny_dictEntries g2 d2 ?_)
  rw [if_neg (by rw [z1, z2, sz]; simp)]
  refine wpAny_bind (wpAny_dictEpoch g1 d1 (wpAny_bind ?_))
  rw [Std.Legacy.Range.forIn_eq_forIn_range']
  simp only [Std.Legacy.Range.size, Nat.sub_zero, Nat.add_sub_cancel, Nat.div_one]
  refine wpAny_forIn_list _ (fun more r t => t = st ∧ r = (none, ()) ∧ ∃ i, i ≤ e1.size ∧ more = List.range' i (e1.size - i)) _ ?step ?fin _ _ ⟨rfl, rfl, 0, Nat.zero_le _, by rw [Nat.sub_zero]⟩
  case fin =>
    rintro r t ⟨rfl, rfl, _⟩
    exact wpAny_pure q
  case step =>
    rintro x more r t ⟨rfl, rfl, i, li, em⟩
    have lt : i < e1.size := by
      refine Nat.lt_of_le_of_ne li fun z => ?_
      rw [z, Nat.sub_self] at em
      cases em
    rw [show e1.size - i = (e1.size - (i + 1)) + 1 by omega, List.range'_succ] at em
    obtain ⟨rfl, rfl⟩ := List.cons.inj em
    have lx : x < xs.length := by omega
    have ee : e1[x]? = some (entryOfKey kd xs[x]) := by rw [entry_at l1, List.getElem?_eq_getElem lx]; rfl
    obtain ⟨j, p, u, hj, eq⟩ := hits xs[x] (List.getElem_mem lx)
    refine wpAny_bind (wpAny_dictEntries g1 d1 ?_)
    rw [ee]
    refine wpAny_bind (wpAny_holding (wpAny_bind ?_))
    refine wpAny_dictFind_heap hr (i1 _ (List.getElem_mem lx)) g2 d2 l2 i2 n2 (fun no => ?_) (fun j' p' hj' => ?_)
    · exact (no j (p, u) hj).elim
    · have jj : j' = j := by
        have a1 := (List.getElem?_eq_some_iff.mp hj').1
        have a2 := (List.getElem?_eq_some_iff.mp hj).1
        have b1 : (ys.map (·.1))[j']? = some xs[x].1 := by rw [List.getElem?_map, hj']; rfl
        have b2 : (ys.map (·.1))[j]? = some xs[x].1 := by rw [List.getElem?_map, hj]; rfl
        exact (List.getElem?_inj (by rw [List.length_map]; exact a1) n2).mp (b1.trans b2.symm)
      subst jj
      refine wpAny_bind (wpAny_dictEntries g2 d2 ?_)
      have e2j : e2[j']? = some (entryOfKey kd (xs[x].1, p, u)) := by rw [entry_at l2, hj]; rfl
      rw [e2j]
      refine wpAny_holding (eq pg wd _ _ ?_)
      show wpAny _ _ (if (!true) = true then _ else _) _ _ _
      rw [if_neg (by decide)]
      refine wpAny_bind (wpAny_dictEpoch g1 d1 ?_)
      rw [if_neg (by simp)]
      exact wpAny_pure ⟨rfl, rfl, x + 1, lt, rfl⟩
theorem neDicts {a b : Addr} {xs ys : List (KT' × Addr × Value)} {Q : Value → Shared → Prop} (na : (a == sysModules) = false) (nb : (b == sysModules) = false) (da : st.heap.DictOfH kd a xs) (db : st.heap.DictOfH kd b ys) (un : Ar.units < cLine) (hr : kd.room Ar.in1) (sz : xs.length = ys.length)
    (hits : ∀ x ∈ xs, ∃ (j : Nat) (p : Addr) (u : Value), ys[j]? = some (x.1, p, u) ∧ SeqAt.EqAt Ar.in1 st x.2.2 u true) (q : Q (.bool false) st) : wpAny (model pg wd) Ar (compareOp .NotEq (.ref a) (.ref b)) Q XE st := by
  have ta := da.typeIs
  have tb := db.typeIs
  refine wpAny_richCompare_same_room (op := .NotEq) ta tb PySem.F.slot_dict_ne ?_ un
  refine wpAny_call_entry PySem.F.slot_dict_ne ta PySem.F.entry_dict_ne ?_ (PySem.F.args_dict_ne_2 _ _)
  show wpAny _ _ (Builtin.Dict.dictSlotArgs "__ne__" ⟨[.ref a, .ref b], []⟩ >>= _) _ _ st
  unfold Builtin.Dict.dictSlotArgs
  refine wpAny_bind (wpAny_bind (wpAny_notOrdered_dict ta ?_))
  show wpAny _ _ (pure (Value.ref a, Value.ref b)) _ _ st
  refine wpAny_pure (wpAny_bind (wpAny_isInstance (T := "dict") tb PySem.F.sub_dict_dict ?_))
  simp only [Bool.not_true, Bool.false_eq_true, if_false]
  refine wpAny_bind (wpAny_pure (wpAny_bind (wpAny_pure (wpAny_bind (pairsSame na nb hr da db sz hits ?_)))))
  exact wpAny_pure ⟨_, rfl, (fun z => nomatch z), by simpa using q⟩
end
section
variable {X : Cx}
theorem pairR {α β : Type} {F : α → β → Prop} : ∀ {l : List α} {r : List β}, Paired F l r → ∀ {i : Nat} {b : β}, r[i]? = some b → ∃ a, l[i]? = some a ∧ F a b
  | _, _, .nil, i, b, h => nomatch h
  | _, _, .cons f t, 0, b, h => by cases h; exact ⟨_, rfl, f⟩
  | _, _, .cons f t, i + 1, b, h => pairR t (i := i) h
theorem pairL {α β : Type} {F : α → β → Prop} : ∀ {l : List α} {r : List β}, Paired F l r → ∀ {i : Nat} {a : α}, l[i]? = some a → ∃ b, r[i]? = some b ∧ F a b
  | _, _, .nil, i, a, h => nomatch h
  | _, _, .cons f t, 0, a, h => by cases h; exact ⟨_, rfl, f⟩
  | _, _, .cons f t, i + 1, a, h => pairL t (i := i) h
/-- dicts with tuples as keys and data as values, alike -/
def rNeDT (K : PySem.W.Frag) : R2 := fun x y H Q => ∃ a b kvs kvs', x = .ref a ∧ y = .ref b ∧ H a = some (.dT kvs) ∧ H b = some (.dT kvs') ∧ kvs.length = kvs'.length ∧
  (∀ kv ∈ kvs, ∃ v' d, (kv.1, v') ∈ kvs' ∧ Dp K H kv.2 d ∧ Dp K H v' d ∧ SeqAt.shaped d = true ∧ PyData.eqv d d = true) ∧ Q (.bl false) H
theorem op_neDT (hu : X.A.units + 65 < cLine) : OpR X (compareOp .NotEq) (rNeDT X.K) := by
  intro pins s σ H x y v u Q I rx ry h
  obtain ⟨a, b, kvs, kvs', rfl, rfl, ea, eb, sz, al, q⟩ := h
  obtain rfl : v = Value.ref a := rx
  obtain rfl : u = Value.ref b := ry
  obtain ⟨_, ya, xs, ka, da⟩ := dt_of I.hok ea
  obtain ⟨_, yb, ys, kb, db⟩ := dt_of I.hok eb
  have l1 := ka.length
  have l2 := kb.length
  refine neDicts (kd := tupleKind (mixKind X.prog X.w)) ya yb da db (by omega) (tupleKind_room_in1 (by omega)) (by omega) (fun z hz => ?_) ⟨.bl false, H, I, rfl, q⟩
  obtain ⟨i, hi⟩ := List.getElem?_of_mem hz
  obtain ⟨kv, hkv, e1, _, r1⟩ := pairR ka hi
  obtain ⟨v', d, mem, d1, d2, sh, eq⟩ := al kv (List.mem_of_getElem? hkv)
  obtain ⟨j, hj⟩ := List.getElem?_of_mem mem
  obtain ⟨w, hw, e2, _, r2⟩ := pairL kb hj
  obtain ⟨as, ra⟩ := Dp.reads I d _ _ d1 r1
  obtain ⟨bs, rb⟩ := Dp.reads I d _ _ d2 r2
  have at' := PySem.W.keq_at (A := X.A) ra rb sh sh (show X.A.units + 1 + 64 < cLine by omega)
  rw [eq] at at'
  refine ⟨j, w.2.1, w.2.2, ?_, at'⟩
  rw [hw, ← e1]
  exact congrArg some (Prod.ext e2.symm rfl)
end
end GL

namespace LW
open PySem PySem.Spec PyProof.Rows L2 GL
section
variable {P : Program} {w : World} {K : PySem.W.Frag} {mg : Str → Option Value} {base : Heap}
/-! ### dicts of the law's own, compared -/
theorem sub_len {α : Type} [DecidableEq α] : ∀ {l m : List α}, l.Nodup → (∀ x ∈ l, x ∈ m) → l.length ≤ m.length
  | [], _, _, _ => Nat.zero_le _
  | a :: l, m, nd, h => by
    have ha := h a List.mem_cons_self
    have nd' := List.nodup_cons.mp nd
    have ih := sub_len (m := m.erase a) nd'.2 fun x hx => (List.mem_erase_of_ne (fun (z : x = a) => nd'.1 (by rw [← z]; exact hx))).mpr (h x (List.mem_cons_of_mem _ hx))
    rw [List.length_erase_of_mem ha] at ih
    have := List.length_pos_of_mem ha
    show l.length + 1 ≤ m.length
    omega
theorem en_mem {L M : List En} (nL : (L.map (·.1)).Nodup) (nM : (M.map (·.1)).Nodup) (z : nz L) (c : ∀ i j, cf L i j = cf M i j) {e : En} (he : e ∈ L) : e ∈ M := by
  have h1 := cf_in (k := e.1) (q := e.2) he nL
  by_cases k : e.1 ∈ M.map (·.1)
  · obtain ⟨e', he', ek⟩ := List.mem_map.mp k
    have h2 := cf_in (k := e'.1) (q := e'.2) he' nM
    rw [ek, ← c, h1] at h2
    have : e' = e := Prod.ext ek h2.symm
    rw [← this]
    exact he'
  · have h2 := cf_out k
    rw [← c, h1] at h2
    exact (z e he h2).elim
theorem nodup_en {L : List En} (n : (L.map (·.1)).Nodup) : L.Nodup := List.Pairwise.of_map (·.1) (fun _ _ h z => h (congrArg _ z)) n
theorem pr_shaped (x y : Int) : SeqAt.shaped (pr x y) = true := by simp [pr, SeqAt.shaped, PyData.canLay0, PyData.canLayAll0, PyData.depth, PyData.depthAll]
theorem pr_eqv (x y : Int) : PyData.eqv (pr x y) (pr x y) = true := by simp [pr, PyData.eqv, PyData.eqvAll]
theorem dicts_ne {H : Hp} {a b : Addr} {L M : List En} {Q : VK} (ha : DW H a L) (hb : DW H b M) (n1 : nz L) (n2 : nz M) (c : ∀ i j, cf L i j = cf M i j) (q : Q (.bl false) H) : GL.rNeDT K (.ref a) (.ref b) H Q := by
  obtain ⟨kvs, ea, al, nL⟩ := ha
  obtain ⟨kvs', eb, al', nM⟩ := hb
  have len : L.length = M.length := Nat.le_antisymm (sub_len (nodup_en nL) fun e he => en_mem nL nM n1 c he) (sub_len (nodup_en nM) fun e he => en_mem nM nL n2 (fun i j => (c i j).symm) he)
  refine ⟨a, b, kvs, kvs', rfl, rfl, ea, eb, by rw [al.len, al'.len, len], fun kv hkv => ?_, q⟩
  obtain ⟨i, hi⟩ := List.getElem?_of_mem hkv
  obtain ⟨e, he, ek, t, et, lo⟩ := al.get hi
  have hm := en_mem nL nM n1 c (List.mem_of_getElem? he)
  obtain ⟨j, hj⟩ := List.getElem?_of_mem hm
  have jl : j < kvs'.length := by rw [al'.len]; exact (List.getElem?_eq_some_iff.mp hj).1
  obtain ⟨e', he', ek', t', et', lo'⟩ := al'.get (List.getElem?_eq_getElem jl)
  rw [hj] at he'
  cases he'
  refine ⟨kvs'[j].2, pr e.2.num (e.2.den : Int), ?_, ?_, ?_, pr_shaped _ _, pr_eqv _ _⟩
  · have : kvs'[j] = (kv.1, kvs'[j].2) := Prod.ext (by rw [ek', ek]) rfl
    rw [← this]
    exact List.getElem_mem jl
  · rw [et]; exact lo_dp lo
  · rw [et']; exact lo_dp lo'
theorem hu65 {A : Around} {k : Nat} (hr : Room k A) : A.units + 65 < cLine := by
  have := hr.un
  omega
/-! ### what a plane refuses to move -/
end
end LW

namespace LW
open PySem PySem.Spec PyProof.Rows L2 GL
section
variable {P : Program} {w : World} {K : PySem.W.Frag} {mg : Str → Option Value} {base : Heap}
theorem s_ltimes {H : Hp} {p q : Addr} {x y : Rat} {n m : Nat} {Q : VK} {E : XK} (a : Lo H p x) (b : Lo H q y) (hx : Sm n x) (hy : Sm m y) (hn : n ≤ 1000) (hm : m ≤ 1000) (k : ∀ c H', Same H H' → Lo H' c (x * y) → Q (.ref c) H') : sp_law_times ([.ref p, .ref q] ++ []) H Q E :=
  c_ltimes (E := E) (σ := []) (ta := tCons (tC (.ref p)) (tCons (tC (.ref q)) tNil)) (va_cons val_c (va_cons val_c va_nil)) a b hx hy hn hm k
theorem s_lplus {H : Hp} {p q : Addr} {x y : Rat} {n m : Nat} {Q : VK} {E : XK} (a : Lo H p x) (b : Lo H q y) (hx : Sm n x) (hy : Sm m y) (hn : n ≤ 1000) (hm : m ≤ 1000) (k : ∀ c H', Same H H' → Lo H' c (x + y) → Q (.ref c) H') : sp_law_plus ([.ref p, .ref q] ++ []) H Q E :=
  c_lplus (E := E) (σ := []) (ta := tCons (tC (.ref p)) (tCons (tC (.ref q)) tNil)) (va_cons val_c (va_cons val_c va_nil)) a b hx hy hn hm k
theorem q_forRL {g : TG} {te : TE} {tb tz : TS} {D : Ends} {σ : L2.St} {H : Hp} {a : Addr} {xs : List V} (h : Val te σ H (.ref a)) (hx : SqL K H a xs) (k : ∀ p H1, Same H H1 → H1 p = some (.lst xs.reverse) → ∃ Pv : Nat → L2.St → Hp → Prop, Pv 0 σ H1 ∧ (∀ i σ H, i ≤ xs.reverse.length → Pv i σ H → SqL K H p xs.reverse) ∧
    (∀ i x σ H, xs.reverse[i]? = some x → Pv i σ H → g x σ H fun σ2 H2 => tb { D with nx := Pv (i + 1), ct := Pv (i + 1), bk := tz D } σ2 H2) ∧ ∀ σ H, Pv xs.reverse.length σ H → tz D σ H) : tSeq (tFor (iList K (tRevL K te)) g tb) tz D σ H :=
  h _ ⟨a, xs, rfl, hx, fun p hp => by
    obtain ⟨Pv, h0, hl, hs, hd⟩ := k p _ (Same.new' hp) upd_same
    exact ⟨p, rfl, ⟨_, SqL.of upd_same⟩, for_list (D := { D with nx := tz D }) Pv h0 hl hs hd⟩⟩
def spLAt : Sp := fun vs H Q _ => ∃ (l b : Addr) (xs : List Rat) (y : Rat) (n m : Nat), vs = [.ref l, .ref b] ∧ Lst H l xs ∧ Lo H b y ∧ Sms n xs ∧ Sm m y ∧ (n + m + 1) * xs.length + n + m + 1 ≤ 900 ∧ ∀ (c : Addr) (H' : Hp), Same H H' → Lo H' c (peval xs y) → Q (.ref c) H'
theorem ok_law_p_at (T : Txt K mg) : FnOk P w K mg base CX0 4 (fA mg "_law_p_at") (fDat K (fA mg "_law_p_at")) ["_law_one", "_law_point"] spLAt := by
  have G_law_plus := ok_law_plus (P := P) (w := w) (base := base) T
  have G_law_times := ok_law_times (P := P) (w := w) (base := base) T
  refine T._law_p_at.F.ok sc_law_p_at (fun vs H Q E h => ?_) (fun cdv A outer s H vs Q E hr h => ?_)
  · obtain ⟨l, b, xs, y, n, m, rfl, _⟩ := h
    rfl
  obtain ⟨l, b, xs, y, n, m, rfl, ⟨vs, hl, al⟩, lo, sx, sy, hn, k⟩ := h
  refine ⟨_, (pss_cons (ps_set (i := 2) sc_law_p_at.nd rfl (Or.inl rfl) (pe_tup (pa_cons pe_int (pa_cons pe_int pa_nil))))
  (pss_cons (ps_for PassesOwn.never rfl (pi_list (pe_revL (pv 0))) (pg_name (i := 3) sc_law_p_at.nd rfl (Or.inl rfl))
  (pss_one (ps_set (i := 2) sc_law_p_at.nd rfl (Or.inl rfl) (pe_c T._law_plus G_law_plus (hr.mono (by decide)) (pa_cons (pe_c T._law_times G_law_times (hr.mono (by decide)) (pa_cons (pv 2) (pa_cons (pv 1) pa_nil))) (pa_cons (pv 3) pa_nil))))))
  (pss_one (ps_ret (pv 2))))), ?_⟩
  have len := al.len
  refine q_asg (l_tup (va_cons val_c (va_cons val_c va_nil)) (by decide) fun t ht => ?_)
  have s0 := Same.new' (o := .tup [.int 0, .int 1]) ht
  refine q_forRL (xs := vs) (val_var rfl) (SqL.of (s0 _ _ hl)) fun r H1 s1 er => ⟨fun i σ H2 => ∃ c z, σ = [some (.ref l), some (.ref b), some (.ref c), z] ∧ Same H1 H2 ∧ Lo H2 c (peval (xs.drop (xs.length - i)) y) ∧ Sm ((n + m + 1) * i + 1) (peval (xs.drop (xs.length - i)) y),
    ⟨t, none, rfl, Same.refl _, ?_, ?_⟩, fun i σ H2 _ z => ?_, fun i x σ H2 hx z => ?_, fun σ H2 z => ?_⟩
  · rw [Nat.sub_zero, List.drop_length]
    exact Lo.same (q := 0) (zero_lo upd_same) s1
  · rw [Nat.sub_zero, List.drop_length]
    exact Sm.zero (by omega)
  · obtain ⟨c, z, rfl, s2, _⟩ := z
    exact SqL.of (s2 _ _ er)
  · obtain ⟨c, z, rfl, s2, loc, smc⟩ := z
    have li : i < vs.length := by
      have := (List.getElem?_eq_some_iff.mp hx).1
      rw [List.length_reverse] at this
      exact this
    rw [List.getElem?_reverse li, len] at hx
    obtain ⟨q, hq, p, rfl, lop⟩ := al.get hx
    have sq := sx q (get_mem hq)
    have S := (s0.trans s1).trans s2
    have bd : (n + m + 1) * (i + 1) ≤ (n + m + 1) * xs.length := Nat.mul_le_mul_left _ (by omega)
    have bd' : (n + m + 1) * (i + 1) = (n + m + 1) * i + (n + m + 1) := Nat.mul_succ _ _
    have pe : peval (xs.drop (xs.length - (i + 1))) y = q + y * peval (xs.drop (xs.length - i)) y := by
      have e1 : xs.length - (i + 1) < xs.length := by omega
      rw [List.drop_eq_getElem_cons e1, show xs.length - (i + 1) + 1 = xs.length - i by omega, peval]
      have : xs[xs.length - (i + 1)] = q := by
        have h := List.getElem?_eq_getElem e1
        have e2 : xs.length - 1 - i = xs.length - (i + 1) := by omega
        rw [e2, h] at hq
        exact Option.some.inj hq
      rw [this]
    have e : peval (xs.drop (xs.length - i)) y * y + q = q + y * peval (xs.drop (xs.length - i)) y := by grind
    refine g_name (call_1 (c_ltimes (va_cons (val_var rfl) (va_cons (val_var rfl) va_nil)) loc (lo.same S) smc sy (by omega) (by omega) fun d H3 s3 lo3 => va_1 ((val_var rfl) _ (s_lplus lo3 (lop.same (S.trans s3)) (smc.mul sy) sq (by omega) (by omega) fun f H4 s4 lo4 => ?_))))
    refine ⟨f, _, rfl, (s2.trans s3).trans s4, ?_, ?_⟩
    · rw [pe, ← e]
      exact lo4
    · rw [pe, ← e]
      exact ((smc.mul sy).add sq).mono (by omega)
  · obtain ⟨c, z, rfl, s2, loc, _⟩ := z
    rw [List.length_reverse, len, Nat.sub_self, List.drop_zero] at loc
    exact st_ret (val_var rfl) (k c _ ((s0.trans s1).trans s2) loc)

end
end LW

namespace LW
open PySem PySem.Spec PyProof.Rows L2 GL
section
variable {P : Program} {w : World} {K : PySem.W.Frag} {mg : Str → Option Value} {base : Heap}
def spDrawn : Sp := fun vs H Q _ => ∃ (p c : Addr) (m d k : Nat), vs = [.ref p, .int (d : Int), .int (k : Int)] ∧ PenAt H p c m ∧ d ≤ 5 ∧ m + 20 < most ∧ 1 ≤ k ∧ k ≤ 9 ∧ ∀ (l : Addr) (H' : Hp) (xs : List Rat), Lst H' l xs → Sms 10 xs → Bds L9 k xs → xs.length ≤ d + 1 → tlen xs = xs.length → But p H H' → PenAt H' p c (m + 20) → Q (.ref l) H'
theorem ok_law_drawn (T : Txt K mg) : FnOk P w K mg base CX0 6 (fA mg "_law_drawn") (fDat K (fA mg "_law_drawn")) ["_law_pen_here", "_law_degree", "_law_most"] spDrawn := by
  have G_law_draw := ok_draw (P := P) (w := w) (base := base) T._law_draw.F T
  have G_law_poly := ok_law_poly (P := P) (w := w) (base := base) T
  have G_law_ratio := ok_law_ratio (P := P) (w := w) (base := base) T
  refine T._law_drawn.F.ok sc_law_drawn (fun vs H Q E h => ?_) (fun cdv A outer s H vs Q E hr h => ?_)
  · obtain ⟨p, c, m, d, k, rfl, _⟩ := h
    rfl
  obtain ⟨p, c, m, d, k, rfl, hP, hd, hm, k1, k9, z⟩ := h
  refine ⟨_, (pss_one (ps_ret (pe_c T._law_poly G_law_poly (hr.mono (by decide)) (pa_cons (pe_lc (own := [("_law_k", 3)]) (g := gName 3) (tt := tYes) (by rfl) sc_law_drawn.nd (pi_range1 (by rfl) T.range (pa_cons (pe_op op_add pe_int (pe_c T._law_draw G_law_draw (hr.mono (by decide)) (pa_cons (pv 0) (pa_cons (pe_op op_add (pv 1) pe_int) pa_nil)))) pa_nil)) (blkOk_by (own := [("_law_k", 3)]) (N := ["_law_pen_here", "_law_degree", "_law_most", "_law_k"]) (sc := defScope s_law_drawn) (by decide +kernel)) (fun _ _ _ _ _ => pg_name (i := 3) sc_law_drawn.nd rfl (Or.inl rfl)) (fun _ _ _ _ _ => pts_nil) (fun _ _ _ _ _ => (pe_c T._law_ratio G_law_ratio (hr.mono (by decide)) (pa_cons (pv 0) (pa_cons (pv 2) pa_nil))))) pa_nil)))), ?_⟩
  refine r_ret (te := tCall _ _ _ _) (va_1 (l_rngU (va_1 (op_l val_c (c_call (va_cons (val_var rfl) (va_cons (v_add (val_var rfl) val_c) va_nil)) ⟨p, c, (d : Int) + 1, m, rfl, hP, by omega, by omega, by omega, fun r H1 r0 r1 b1 P1 => ⟨1, r, rfl, rfl, 1 + r, rfl, by omega, by omega, ?_⟩⟩)))))
  refine rngB (k := 3) (R := fun D i v H => ∃ t q, v = .ref t ∧ Lo H t q ∧ Sm 10 q ∧ Bd L9 k q) (fun D i v H H' p c m ⟨t, q, e, lo, sm⟩ P b => ⟨t, q, e, b.lo P lo, sm⟩) (fun D i v H ys zs ⟨t, q, e, lo, sm⟩ h => ⟨t, q, e, lo_upd h lo, sm⟩) P1 (by omega) (by omega) (fun _ => rfl) (fun D i x H2 hi b2 P2 _ _ => fun Q q => ?_) (fun D ys H2 b2 P2 nD e2 r2 l2 => ?_)
  · exact c_call (va_cons (val_var rfl) (va_cons (val_var rfl) va_nil)) ⟨p, c, _, k, rfl, P2, by omega, k1, k9, fun t H3 q3 lo sm bd b3 P3 => q _ H3 b3 (P3.le (by omega)) ⟨t, q3, rfl, lo, sm, bd⟩⟩
  · have key : ∀ {ys : List V} {i : Nat}, Run (fun i v H => ∃ t q, v = .ref t ∧ Lo H t q ∧ Sm 10 q ∧ Bd L9 k q) i ys H2 → ∃ xs, All2 (fun v q => ∃ p, v = .ref p ∧ Lo H2 p q) ys xs ∧ Sms 10 xs ∧ Bds L9 k xs := fun {ys} => by
      induction ys with
      | nil => exact fun _ => ⟨[], .nil, (fun _ h => nomatch h), (fun _ h => nomatch h)⟩
      | cons y ys ih =>
        intro i ⟨⟨t, q, e, lo, sm, bd⟩, h⟩
        obtain ⟨xs, al, s, b⟩ := ih h
        refine ⟨q :: xs, .cons ⟨t, e, lo⟩ al, fun q' hq => ?_, fun q' hq => ?_⟩
        · rcases List.mem_cons.mp hq with rfl | h
          · exact sm
          · exact s _ h
        · rcases List.mem_cons.mp hq with rfl | h
          · exact bd
          · exact b _ h
    obtain ⟨xs, al, sm, bd⟩ := key r2
    have len := al.len
    refine ⟨D, xs, rfl, ⟨ys, e2, al⟩, by omega, fun l' H' s nl L => z l' H' _ L sm.trim (fun q hq => bd q (List.mem_of_mem_take hq)) ?_ (tlen_trim _) ((b1.trans b2).trans (But.of s)) ((P2.le ?_).same s)⟩
    · have := tlen_le xs
      rw [trim_len]
      omega
    · omega
/-- the list moved: p(s0 + s1 t) -/
def mvd (s0 s1 : Rat) : List Rat → List Rat
  | [] => []
  | x :: xs => psum (pmul (mvd s0 s1 xs) (trim [s0, s1])) (trim [x])
theorem line_len (s0 s1 : Rat) : (trim [s0, s1]).length ≤ 2 := by
  rw [trim_len]
  exact tlen_le [s0, s1]
theorem mvd_len (s0 s1 : Rat) : ∀ xs : List Rat, (mvd s0 s1 xs).length ≤ xs.length
  | [] => Nat.le_refl _
  | x :: xs => psum_len (pmul_len (line_len s0 s1) (mvd_len s0 s1 xs)) (by rw [trim_len]; exact Nat.le_trans (tlen_le [x]) (by show 1 ≤ xs.length + 1; omega))
def mvM : Nat → Nat
  | 0 => 0
  | i + 1 => (mvM i * 4 + mvM i * 4) + 2
theorem bds_line {L : Nat} {s0 s1 : Rat} (b0 : Bd L 4 s0) (b1 : Bd L 4 s1) : Bds L 4 (trim [s0, s1]) := fun q hq => by
  have := List.mem_of_mem_take hq
  simp only [List.mem_cons, List.not_mem_nil, or_false] at this
  rcases this with rfl | rfl
  · exact b0
  · exact b1
theorem mvd_bd {E L : Nat} {s0 s1 : Rat} (b0 : Bd L 4 s0) (b1 : Bd L 4 s1) : ∀ xs : List Rat, Bds E 2 xs → Bds (E * L ^ xs.length) (mvM xs.length) (mvd s0 s1 xs)
  | [], _ => fun q hq => nomatch hq
  | x :: xs, h => by
    have ih := mvd_bd b0 b1 xs fun q hq => h q (List.mem_cons_of_mem _ hq)
    have e : E * L ^ (x :: xs).length = E * L ^ xs.length * L := by rw [List.length_cons, Nat.pow_succ, Nat.mul_assoc]
    rw [e]
    refine psum_bd (pmul_bd ih (bds_line b0 b1) (line_len s0 s1)) fun q hq => ?_
    have := List.mem_of_mem_take hq
    simp only [List.mem_cons, List.not_mem_nil, or_false] at this
    subst this
    exact (h q (List.mem_cons_self ..)).mono (by rw [Nat.mul_assoc]; exact Nat.dvd_mul_right _ _) (Nat.le_refl _)
/-- sizes -/
theorem mvd_sm {E L : Nat} {s0 s1 : Rat} (e0 : 0 < E) (eb : E ≤ 2 ^ 40) (l0 : 0 < L) (lb : L ≤ 2 ^ 12) (b0 : Bd L 4 s0) (b1 : Bd L 4 s1) {xs : List Rat} (hx : Bds E 2 xs) (h3 : xs.length ≤ 3) : Sms 90 (mvd s0 s1 xs) := fun q hq => by
  have b := mvd_bd b0 b1 xs hx q hq
  have hL : L ^ xs.length ≤ 2 ^ 36 := Nat.le_trans (Nat.pow_le_pow_left lb _) (Nat.le_trans (Nat.pow_le_pow_right (by decide) h3) (by decide))
  have hD : E * L ^ xs.length ≤ 2 ^ 40 * 2 ^ 36 := Nat.mul_le_mul eb hL
  have hM : mvM xs.length ≤ 146 := by
    have : ∀ i, i ≤ 3 → mvM i ≤ 146 := by decide
    exact this _ h3
  refine b.smA (Nat.mul_pos e0 (Nat.pow_pos l0)) (Nat.lt_of_le_of_lt hD (by decide)) (Nat.lt_of_le_of_lt (Nat.mul_le_mul hM hD) (by decide))
def spLMoved : Sp := fun vs H Q _ => ∃ (l a b : Addr) (xs : List Rat) (s0 s1 : Rat) (E L : Nat), vs = [.ref l, .ref a, .ref b] ∧ Lst H l xs ∧ Lo H a s0 ∧ Lo H b s1 ∧ 0 < E ∧ E ≤ 2 ^ 40 ∧ 0 < L ∧ L ≤ 2 ^ 12 ∧ Bds E 2 xs ∧ xs.length ≤ 3 ∧ Bd L 4 s0 ∧ Bd L 4 s1 ∧ ∀ (l' : Addr) (H' : Hp), Same H H' → Lst H' l' (mvd s0 s1 xs) → Q (.ref l') H'
theorem ok_law_p_moved (T : Txt K mg) : FnOk P w K mg base CX0 6 (fA mg "_law_p_moved") (fDat K (fA mg "_law_p_moved")) ["_law_one", "_law_start", "_law_step"] spLMoved := by
  have G_law_p_plus := ok_law_p_plus (P := P) (w := w) (base := base) T
  have G_law_p_times := ok_law_p_times (P := P) (w := w) (base := base) T
  have G_law_poly := ok_law_poly (P := P) (w := w) (base := base) T
  refine T._law_p_moved.F.ok sc_law_p_moved (fun vs H Q E h => ?_) (fun cdv A outer s H vs Q E hr h => ?_)
  · obtain ⟨l, a, b, xs, s0, s1, E, L, rfl, _⟩ := h
    rfl
  obtain ⟨l, a, b, xs, s0, s1, E, L, rfl, ⟨vs, hl, al⟩, la, lb, e0, eb, l0, lbd, hx, h3, b0, b1, k⟩ := h
  refine ⟨_, (pss_cons (ps_par (i := 3) (j := 4) (by rfl) sc_law_p_moved.nd rfl rfl (by decide) rfl rfl (pa_cons (pe_lst pa_nil) (pa_cons (pe_c T._law_poly G_law_poly (hr.mono (by decide)) (pa_cons (pe_lst (pa_cons (pv 1) (pa_cons (pv 2) pa_nil))) pa_nil)) pa_nil)) (by rfl))
  (pss_cons (ps_for PassesOwn.never rfl (pi_list (pe_revL (pv 0))) (pg_name (i := 5) sc_law_p_moved.nd rfl (Or.inl rfl))
  (pss_one (ps_set (i := 3) sc_law_p_moved.nd rfl (Or.inl rfl) (pe_c T._law_p_plus G_law_p_plus (hr.mono (by decide)) (pa_cons (pe_c T._law_p_times G_law_p_times (hr.mono (by decide)) (pa_cons (pv 3) (pa_cons (pv 4) pa_nil))) (pa_cons (pe_c T._law_poly G_law_poly (hr.mono (by decide)) (pa_cons (pe_lst (pa_cons (pv 5) pa_nil)) pa_nil)) pa_nil))))))
  (pss_one (ps_ret (pv 3))))), ?_⟩
  have len := al.len
  have s12 : Sm 15 s0 := b0.smA l0 (Nat.lt_of_le_of_lt lbd (by decide)) (Nat.lt_of_le_of_lt (Nat.mul_le_mul_left 4 lbd) (by decide))
  have s13 : Sm 15 s1 := b1.smA l0 (Nat.lt_of_le_of_lt lbd (by decide)) (Nat.lt_of_le_of_lt (Nat.mul_le_mul_left 4 lbd) (by decide))
  have sl : Sms 15 (trim [s0, s1]) := fun q hq => by
    have := List.mem_of_mem_take hq
    simp only [List.mem_cons, List.not_mem_nil, or_false] at this
    rcases this with rfl | rfl
    · exact s12
    · exact s13
  have sx : Sms 42 xs := fun q hq => (hx q hq).smA e0 (Nat.lt_of_le_of_lt eb (by decide)) (Nat.lt_of_le_of_lt (Nat.mul_le_mul_left 2 eb) (by decide))
  refine q_par (ta_two (l_lst va_nil (by decide) fun f hf => call_one (l_lst (va_cons (val_var rfl) (va_cons (val_var rfl) va_nil)) (by show 2 ≤ 100000; decide) fun g hg => ?_)))
  have u1 := Same.new' (o := .lst []) hf
  have u2 := Same.new' (o := .lst [V.ref a, .ref b]) hg
  refine ⟨g, [s0, s1], rfl, ⟨_, upd_same, .cons ⟨a, rfl, (la.same u1).same u2⟩ (.cons ⟨b, rfl, (lb.same u1).same u2⟩ .nil)⟩, by show 2 ≤ 1000; decide, fun ln H0 s0' nl Ln => ⟨_, _, rfl, ?_⟩⟩
  have S0 := (u1.trans u2).trans s0'
  have ef := s0' _ _ (u2 _ _ upd_same)
  refine q_forRL (xs := vs) (val_var rfl) (SqL.of (S0 _ _ hl)) fun r H1 s1' er => ⟨fun i σ H2 => ∃ fd z, σ = [some (.ref l), some (.ref a), some (.ref b), some (.ref fd), some (.ref ln), z] ∧ Same H1 H2 ∧ Lst H2 fd (mvd s0 s1 (xs.drop (xs.length - i))),
    ⟨f, none, rfl, Same.refl _, ?_⟩, fun i σ H2 _ z => ?_, fun i x σ H2 hx' z => ?_, fun σ H2 z => ?_⟩
  · rw [Nat.sub_zero, List.drop_length]
    exact ⟨[], s1' _ _ ef, .nil⟩
  · obtain ⟨c, z, rfl, s2, _⟩ := z
    exact SqL.of (s2 _ _ er)
  · obtain ⟨fd, z, rfl, s2, lf⟩ := z
    have li : i < vs.length := by
      have := (List.getElem?_eq_some_iff.mp hx').1
      rw [List.length_reverse] at this
      exact this
    rw [List.getElem?_reverse li, len] at hx'
    obtain ⟨q, hq, p, rfl, lop⟩ := al.get hx'
    have sq := sx q (get_mem hq)
    have S := (S0.trans s1').trans s2
    have pe : xs.drop (xs.length - (i + 1)) = q :: xs.drop (xs.length - i) := by
      have e1 : xs.length - (i + 1) < xs.length := by omega
      rw [List.drop_eq_getElem_cons e1, show xs.length - (i + 1) + 1 = xs.length - i by omega]
      have : xs[xs.length - (i + 1)] = q := by
        have h := List.getElem?_eq_getElem e1
        have e2 : xs.length - 1 - i = xs.length - (i + 1) := by omega
        rw [e2, h] at hq
        exact Option.some.inj hq
      rw [this]
    have hd : Bds E 2 (xs.drop (xs.length - i)) := fun q hq => hx q (List.mem_of_mem_drop hq)
    have ld : (xs.drop (xs.length - i)).length ≤ 2 := by rw [List.length_drop]; omega
    have sm := mvd_sm e0 eb l0 lbd b0 b1 hd (by omega)
    have lm := mvd_len s0 s1 (xs.drop (xs.length - i))
    have lp := pmul_len (line_len s0 s1) lm
    refine g_name (call_1 (c_call (va_cons (val_var rfl) (va_cons (val_var rfl) va_nil)) ⟨fd, ln, _, _, 90, 15, rfl, lf, (Ln.same s1').same s2, sm, sl, by decide, by decide, ?_, by omega, Nat.le_trans (line_len s0 s1) (by decide), fun t H3 s3 Lt => va_1 (call_one (l_lst (va_cons (val_var rfl) va_nil) (by show 1 ≤ 100000; decide) fun g2 hg2 => ?_))⟩))
    · have := Nat.mul_le_mul_left (90 + 15 + 1) (Nat.le_trans lm ld)
      omega
    have u3 := Same.new' (o := .lst [V.ref p]) hg2
    refine ⟨g2, [q], rfl, ⟨_, upd_same, .cons ⟨p, rfl, ((lop.same S).same s3).same u3⟩ .nil⟩, by show 1 ≤ 1000; decide, fun t2 H4 s4 n4 Lt2 => ?_⟩
    refine ⟨t, t2, _, _, 107, 42, rfl, (Lt.same u3).same s4, Lt2, ?_, fun q' hq' => ?_, by decide, by decide, by decide, by decide, ?_, ?_, fun t3 H5 s5 Lt3 => ?_⟩
    · intro q' hq'
      have bp := pmul_bd (mvd_bd b0 b1 _ hd) (bds_line b0 b1) (line_len s0 s1) q' hq'
      have hL : L ^ (xs.drop (xs.length - i)).length ≤ 2 ^ 24 := Nat.le_trans (Nat.pow_le_pow_left lbd _) (Nat.le_trans (Nat.pow_le_pow_right (by decide) ld) (by decide))
      have hD : E * L ^ (xs.drop (xs.length - i)).length * L ≤ 2 ^ 40 * 2 ^ 24 * 2 ^ 12 := Nat.mul_le_mul (Nat.mul_le_mul eb hL) lbd
      have hM : mvM (xs.drop (xs.length - i)).length ≤ 18 := by
        have : ∀ i, i ≤ 2 → mvM i ≤ 18 := by decide
        exact this _ ld
      have hM2 : mvM (xs.drop (xs.length - i)).length * 4 + mvM (xs.drop (xs.length - i)).length * 4 ≤ 144 := by omega
      exact bp.smA (Nat.mul_pos (Nat.mul_pos e0 (Nat.pow_pos l0)) l0) (Nat.lt_of_le_of_lt hD (by decide)) (Nat.lt_of_le_of_lt (Nat.mul_le_mul hM2 hD) (by decide))
    · have := List.mem_of_mem_take hq'
      simp only [List.mem_cons, List.not_mem_nil, or_false] at this
      subst this
      exact sq
    · omega
    · rw [trim_len]
      exact Nat.le_trans (tlen_le [q]) (by show 1 ≤ 500; decide)
    · refine ⟨t3, _, rfl, (((s2.trans s3).trans u3).trans s4).trans s5, ?_⟩
      rw [pe]
      exact Lt3
  · obtain ⟨fd, z, rfl, s2, lf⟩ := z
    rw [List.length_reverse, len, Nat.sub_self, List.drop_zero] at lf
    exact st_ret (val_var rfl) (k fd _ ((S0.trans s1').trans s2) lf)
end
end LW

namespace LW
open PySem PySem.Spec PyProof.Rows L2 GL
/-! ### slopes along a field, by values: a series solves its field -/
theorem Ty.smul {f : Rat → Rat} {f0 f1 : Rat} (c : Rat) (a : Ty f f0 f1) : Ty (fun h => c * f h) (c * f0) (c * f1) := by
  have h := (Ty.const c).mul a
  rwa [show (0 : Rat) * f0 + c * f1 = c * f1 by grind] at h
def De (p q F G : Rat → Rat → Rat) : Prop := ∀ x y, Ty (fun h => F (x + p x y * h) (y + q x y * h)) (F x y) (G x y)
variable {p q : Rat → Rat → Rat}
theorem De.to {F G G' : Rat → Rat → Rat} (h : De p q F G) (e : ∀ x y, G x y = G' x y) : De p q F G' := fun x y => e x y ▸ h x y
theorem De.uniq {F G G' : Rat → Rat → Rat} (h : De p q F G) (h' : De p q F G') (x y : Rat) : G x y = G' x y := (h x y).uniq (h' x y)
theorem De.const (c : Rat) : De p q (fun _ _ => c) (fun _ _ => 0) := fun _ _ => Ty.const c
theorem De.x : De p q (fun x _ => x) p := fun x y => Ty.lin x (p x y)
theorem De.y : De p q (fun _ y => y) q := fun x y => Ty.lin y (q x y)
theorem De.add {F G F' G' : Rat → Rat → Rat} (a : De p q F F') (b : De p q G G') : De p q (fun x y => F x y + G x y) (fun x y => F' x y + G' x y) := fun x y => (a x y).add (b x y)
theorem De.mul {F G F' G' : Rat → Rat → Rat} (a : De p q F F') (b : De p q G G') : De p q (fun x y => F x y * G x y) (fun x y => F' x y * G x y + F x y * G' x y) := fun x y => (a x y).mul (b x y)
theorem De.smul {F F' : Rat → Rat → Rat} (c : Rat) (a : De p q F F') : De p q (fun x y => c * F x y) (fun x y => c * F' x y) := fun x y => (a x y).smul c
theorem De.ofL (L : List En) : De p q (evL L) (fun x y => dv L x y (p x y) (q x y)) := fun x y => ty_evL x y _ _ L
theorem De.rsum {f g : Nat → Rat → Rat → Rat} : ∀ n : Nat, (∀ i, i < n → De p q (f i) (g i)) → De p q (fun x y => LW.rsum n fun i => f i x y) (fun x y => LW.rsum n fun i => g i x y)
  | 0, _ => De.const 0
  | n + 1, h => (De.rsum n fun i hi => h i (Nat.lt_succ_of_lt hi)).add (h n (Nat.lt_succ_self n))
theorem nat_s (k : Nat) : ((k + 1 : Nat) : Rat) = (k : Rat) + 1 := by simp
theorem nat_s0 (k : Nat) : ((k + 1 : Nat) : Rat) ≠ 0 := fun h => by
  have := Rat.natCast_inj (a := k + 1) (b := 0)
  simp at this
  rw [nat_s] at h
  exact absurd h (by
    intro z
    have h3 : (0 : Rat) ≤ (k : Rat) := by exact_mod_cast Nat.zero_le k
    grind)
/-- a series that solves the field up to the n-th term -/
def Ch (p q : Rat → Rat → Rat) (n : Nat) (F : Nat → Rat → Rat → Rat) : Prop := ∀ k, k < n → De p q (F k) (fun x y => ((k + 1 : Nat) : Rat) * F (k + 1) x y)
theorem Ch.uniq {n : Nat} {F G : Nat → Rat → Rat → Rat} (a : Ch p q n F) (b : Ch p q n G) (h : ∀ x y, F 0 x y = G 0 x y) : ∀ k, k ≤ n → ∀ x y, F k x y = G k x y
  | 0, _ => h
  | k + 1, hk => fun x y => by
    have ih := Ch.uniq a b h k (by omega)
    have e : F k = G k := funext fun x => funext fun y => ih x y
    have h1 := a k (by omega)
    rw [e] at h1
    have := h1.uniq (b k (by omega)) x y
    have n0 := nat_s0 k
    grind
theorem rsum_mul (c : Rat) (f : Nat → Rat) : ∀ n, c * rsum n f = rsum n fun i => c * f i
  | 0 => Rat.mul_zero c
  | n + 1 => by show c * (rsum n f + f n) = rsum n (fun i => c * f i) + c * f n; rw [← rsum_mul c f n]; grind
theorem rsum_add (f g : Nat → Rat) : ∀ n, rsum n f + rsum n g = rsum n fun i => f i + g i
  | 0 => Rat.add_zero 0
  | n + 1 => by show (rsum n f + f n) + (rsum n g + g n) = rsum n (fun i => f i + g i) + (f n + g n); rw [← rsum_add f g n]; grind
theorem rsum_shift (f : Nat → Rat) : ∀ n, rsum (n + 1) f = f 0 + rsum n fun i => f (i + 1)
  | 0 => by show 0 + f 0 = f 0 + 0; grind
  | n + 1 => by show rsum (n + 1) f + f (n + 1) = f 0 + (rsum n (fun i => f (i + 1)) + f (n + 1)); rw [rsum_shift f n]; grind
def cvP (F G : Nat → Rat) (k : Nat) : Rat := rsum (k + 1) fun i => F i * G (k - i)
theorem cvP_step (F G : Nat → Rat) (k : Nat) : (rsum (k + 1) fun i => (((i + 1 : Nat) : Rat) * F (i + 1)) * G (k - i) + F i * (((k - i + 1 : Nat) : Rat) * G (k - i + 1))) = ((k + 1 : Nat) : Rat) * cvP F G (k + 1) := by
  unfold cvP
  rw [rsum_mul, ← rsum_add]
  have e1 : (rsum (k + 1) fun i => (((i + 1 : Nat) : Rat) * F (i + 1)) * G (k - i)) = rsum (k + 1 + 1) fun i => (i : Rat) * (F i * G (k + 1 - i)) := by
    rw [rsum_shift (fun i => (i : Rat) * (F i * G (k + 1 - i))) (k + 1)]
    rw [show ((0 : Nat) : Rat) * (F 0 * G (k + 1 - 0)) = 0 by simp, Rat.zero_add]
    exact rsum_congr fun i hi => by rw [show k + 1 - (i + 1) = k - i by omega, Rat.mul_assoc]
  have e2 : (rsum (k + 1) fun i => F i * (((k - i + 1 : Nat) : Rat) * G (k - i + 1))) = rsum (k + 1 + 1) fun i => ((k + 1 - i : Nat) : Rat) * (F i * G (k + 1 - i)) := by
    show _ = rsum (k + 1) _ + ((k + 1 - (k + 1) : Nat) : Rat) * (F (k + 1) * G (k + 1 - (k + 1)))
    rw [Nat.sub_self, show ((0 : Nat) : Rat) * (F (k + 1) * G 0) = 0 by simp, Rat.add_zero]
    exact rsum_congr fun i hi => by
      rw [show k + 1 - i = k - i + 1 by omega]
      grind
  rw [e1, e2, rsum_add]
  refine rsum_congr fun i hi => ?_
  have e3 : ((k + 1 : Nat) : Rat) = (i : Rat) + ((k + 1 - i : Nat) : Rat) := by
    have : k + 1 = i + (k + 1 - i) := by omega
    exact (congrArg (fun n : Nat => (n : Rat)) this).trans (by simp)
  rw [e3]
  grind
theorem Ch.mul {n : Nat} {F G : Nat → Rat → Rat → Rat} (a : Ch p q n F) (b : Ch p q n G) : Ch p q n fun k x y => cvP (fun i => F i x y) (fun i => G i x y) k := fun k hk => by
  refine De.to (De.rsum (f := fun i x y => F i x y * G (k - i) x y) (k + 1) fun i hi => (a i (by omega)).mul (b (k - i) (by omega))) fun x y => ?_
  exact cvP_step (fun i => F i x y) (fun i => G i x y) k
theorem Ch.add {n : Nat} {F G : Nat → Rat → Rat → Rat} (a : Ch p q n F) (b : Ch p q n G) : Ch p q n fun k x y => F k x y + G k x y := fun k hk => ((a k hk).add (b k hk)).to fun x y => by grind
theorem Ch.zero (n : Nat) : Ch p q n fun _ _ _ => 0 := fun k _ => (De.const 0).to fun _ _ => (Rat.mul_zero _).symm
theorem Ch.const (n : Nat) (c : Rat) : Ch p q n fun k _ _ => if k = 0 then c else 0 := fun k _ => (De.const (if k = 0 then c else 0)).to fun _ _ => by show (0 : Rat) = ((k + 1 : Nat) : Rat) * (if k + 1 = 0 then c else 0); rw [if_neg (Nat.succ_ne_zero k), Rat.mul_zero]
theorem Ch.le {n m : Nat} {F : Nat → Rat → Rat → Rat} (a : Ch p q n F) (l : m ≤ n) : Ch p q m F := fun k hk => a k (by omega)
theorem Ch.shift {n : Nat} {F : Nat → Rat → Rat → Rat} (a : Ch p q (n + 1) F) : Ch p q n fun k x y => ((k + 1 : Nat) : Rat) * F (k + 1) x y := fun k hk => ((a (k + 1) (by omega)).smul _)
end LW

namespace LW
open PySem PySem.Spec PyProof.Rows L2 GL
/-! ### the terms of the series, by values -/
theorem rs_single {α : Type} {f : α → Rat} {a : α} : ∀ {l : List α}, l.Nodup → a ∈ l → (∀ b ∈ l, b ≠ a → f b = 0) → rs f l = f a
  | [], _, h, _ => nomatch h
  | b :: l, nd, h, z => by
    have nd' := List.nodup_cons.mp nd
    show f b + rs f l = f a
    by_cases e : b = a
    · subst e
      rw [rs_zero (l := l) fun c hc => z c (List.mem_cons_of_mem _ hc) fun y => nd'.1 (y ▸ hc)]
      grind
    · rw [z b (List.mem_cons_self ..) e, rs_single nd'.2 (by
        rcases List.mem_cons.mp h with y | y
        · exact (e y.symm).elim
        · exact y) fun c hc => z c (List.mem_cons_of_mem _ hc)]
      grind
theorem dv_split (x y a b : Rat) : ∀ L : List En, dv L x y a b = a * dv L x y 1 0 + b * dv L x y 0 1
  | [] => by show (0 : Rat) = a * 0 + b * 0; grind
  | e :: L => by
    have ih := dv_split x y a b L
    show _ + dv L x y a b = a * (_ + dv L x y 1 0) + b * (_ + dv L x y 0 1)
    rw [ih]
    dsimp only
    grind
theorem frac_mul (k : Nat) : ((k + 1 : Nat) : Rat) * frac k = 1 := by
  unfold frac
  rw [show ((k + 1 : Nat) : Rat) = (((k + 1 : Nat) : Int) : Rat) from rfl, Rat.divInt_eq_div]
  have n0 := nat_s0 k
  have n1 : (((k + 1 : Nat) : Int) : Rat) ≠ 0 := n0
  rw [show ((1 : Int) : Rat) = 1 from rfl]
  grind
theorem pm_one (q : Rat) (R : List (List Rat)) (i j : Nat) : cf2 (planeMul (planeR [[q]]) R) i j = q * cf2 R i j := by
  rw [cf2_planeMul]
  unfold pm
  rw [rs_single (a := (0, 0)) (nodup_box i j) (mem_box.mpr ⟨Nat.zero_le _, Nat.zero_le _⟩) fun b _ nb => by
    rw [cf2_one, if_neg (fun y => nb (Prod.ext y.1 y.2)), Rat.zero_mul]]
  show cf2 (planeR [[q]]) 0 0 * cf2 R (i - 0) (j - 0) = _
  rw [cf2_one, if_pos ⟨rfl, rfl⟩]
  rfl
theorem cf_slx {L : List En} {R : List (List Rat)} (c : ∀ i j, cf2 R i j = cf L i j) (i j : Nat) : cf2 (planeSx R) i j = cf (slX L) i j := by
  rw [cf2_planeSx, c, cf_slX]
theorem cf_sly {L : List En} {R : List (List Rat)} (c : ∀ i j, cf2 R i j = cf L i j) (i j : Nat) : cf2 (planeSy R) i j = cf (slY L) i j := by
  rw [cf2_planeSy, c, cf_slY]
theorem sr_step {R S W : List (List Rat)} {LR LS N M : List En} {k : Nat} (cR : ∀ i j, cf2 R i j = cf LR i j) (cS : ∀ i j, cf2 S i j = cf LS i j) (cN : ∀ i j, cf2 W i j = cf N i j) (cM : ∀ i j, cf2 (planeMul (planeR [[frac k]]) (lieR R S W)) i j = cf M i j) (x y : Rat) :
    ((k + 1 : Nat) : Rat) * evL M x y = dv N x y (evL LR x y) (evL LS x y) := by
  have e : ∀ i j, cf M i j = cf (prL LR (slX N) ++ prL LS (slY N)) i j * frac k := fun i j => by
    rw [← cM, pm_one]
    unfold lieR
    rw [cf2_planeSum, tm_pm cR (cf_slx cN), tm_pm cS (cf_sly cN), cf_app, cf_prL, cf_prL, Rat.mul_comm]
  rw [ev_scaled e, evL_app, evL_prL, evL_prL, ev_slX, ev_slY, dv_split x y (evL LR x y)]
  have := frac_mul k
  grind
theorem ser_ch {R S U : List (List Rat)} {LR LS : List En} {N : Nat → List En} {n : Nat} (cR : ∀ i j, cf2 R i j = cf LR i j) (cS : ∀ i j, cf2 S i j = cf LS i j) (cN : ∀ k, k ≤ n → ∀ i j, cf2 (srN R S U k) i j = cf (N k) i j) : Ch (evL LR) (evL LS) n fun k => evL (N k) := fun k hk => by
  refine (De.ofL (N k)).to fun x y => ?_
  exact (sr_step cR cS (cN k (by omega)) (cN (k + 1) hk) x y).symm
theorem cf_uX (i j : Nat) : cf2 uX i j = if i = 1 ∧ j = 0 then 1 else 0 := by
    unfold uX
    rw [cf2_planeR]
    unfold cf2
    match i, j with
    | 0, j => rw [if_neg (by omega)]; exact co_none (Nat.zero_le _)
    | 1, 0 => exact co_some rfl
    | 1, j + 1 => rw [if_neg (by omega)]; exact co_none (by show 1 ≤ j + 1; omega)
    | i + 2, j => rw [if_neg (by omega), rowAt_none (by show 2 ≤ i + 2; omega)]; exact co_none (Nat.zero_le _)
theorem cf_uY (i j : Nat) : cf2 uY i j = if i = 0 ∧ j = 1 then 1 else 0 := by
    unfold uY
    rw [cf2_planeR]
    unfold cf2
    match i, j with
    | 0, 0 => exact co_some rfl
    | 0, 1 => exact co_some rfl
    | 0, j + 2 => rw [if_neg (by omega)]; exact co_none (by show 2 ≤ j + 2; omega)
    | i + 1, j => rw [if_neg (by omega), rowAt_none (by show 1 ≤ i + 1; omega)]; exact co_none (Nat.zero_le _)
theorem cf_single (a b i j : Nat) (q : Rat) : cf [((a, b), q)] i j = if i = a ∧ j = b then q else 0 := by
  show (if (a, b) = (i, j) then q else 0) + 0 = _
  by_cases h : i = a ∧ j = b
  · rw [if_pos h, if_pos (by rw [h.1, h.2]), Rat.add_zero]
  · rw [if_neg h, if_neg fun z => h ⟨(Prod.mk.inj z).1.symm, (Prod.mk.inj z).2.symm⟩, Rat.add_zero]
theorem ev_uX {N : List En} (c : ∀ i j, cf2 uX i j = cf N i j) (x y : Rat) : evL N x y = x := by
  have e : ∀ i j, cf N i j = cf [((1, 0), 1)] i j := fun i j => by rw [← c, cf_uX, cf_single]
  rw [ev_of_cf e, evL_cons, evL_nil]
  have h1 : rp x 1 = x := by show (rp x 0) * x = x; exact Rat.one_mul x
  have h0 : rp y 0 = 1 := rfl
  show 1 * (rp x 1 * rp y 0) + 0 = x
  rw [h1, h0]
  grind
theorem ev_uY {N : List En} (c : ∀ i j, cf2 uY i j = cf N i j) (x y : Rat) : evL N x y = y := by
  have e : ∀ i j, cf N i j = cf [((0, 1), 1)] i j := fun i j => by rw [← c, cf_uY, cf_single]
  rw [ev_of_cf e, evL_cons, evL_nil]
  have h1 : rp y 1 = y := by show (rp y 0) * y = y; exact Rat.one_mul y
  have h0 : rp x 0 = 1 := rfl
  show 1 * (rp x 0 * rp y 1) + 0 = y
  rw [h1, h0]
  grind
/-- what the law asks of the terms: (n + 1) X_{n+1} is the n-th term of p(X, Y) -/
theorem ser_due {R S U : List (List Rat)} {LR LS P0 : List En} {N : Nat → List En} {n : Nat} (cR : ∀ i j, cf2 R i j = cf LR i j) (cS : ∀ i j, cf2 S i j = cf LS i j) (cN : ∀ k, k ≤ n + 1 → ∀ i j, cf2 (srN R S U k) i j = cf (N k) i j) {F : Nat → Rat → Rat → Rat} (hF : Ch (evL LR) (evL LS) n F)
    (h0 : ∀ x y, dv (N 0) x y (evL LR x y) (evL LS x y) = F 0 x y) (k : Nat) (hk : k ≤ n) (x y : Rat) : ((k + 1 : Nat) : Rat) * evL (N (k + 1)) x y = F k x y := by
  have c := (ser_ch cR cS cN).shift
  exact Ch.uniq c hF (fun x y => by
    have := sr_step cR cS (cN 0 (by omega)) (cN 1 (by omega)) x y
    exact this.trans (h0 x y)) k hk x y
end LW

namespace LW
open PySem PySem.Spec PyProof.Rows L2 GL
section
variable {P : Program} {w : World} {K : PySem.W.Frag} {mg : Str → Option Value} {base : Heap}
/-! ### rows of polynomials: products up to a power -/
theorem st_forRU {g : TG} {ta : TA} {tb : TS} {D : Ends} {σ : L2.St} {H : Hp}
    (h : ta σ H fun vs H1 => ∃ j : Int, vs = [.int j] ∧ -2 ^ 62 ≤ j ∧ j < 2 ^ 62 ∧ ∃ W : Nat → Nat → L2.St → Hp → Prop, (∃ m, W 0 m σ H1) ∧ ∀ (i m : Nat) (σ : L2.St) (H : Hp), W i m σ H → (Itr 0 j.toNat).stop i H ∧ D.nx σ H ∨ (Itr 0 j.toNat).go i H ∧ ∃ N, (∀ (σ' : L2.St) (H' : Hp), N σ' H' → ∃ m', m' < m ∧ W (i + 1) m' σ' H') ∧ ∀ (x : V) (H' : Hp), (Itr 0 j.toNat).yld i H x H' → g x σ H' fun σ2 H2 => tb { nx := N, rt := D.rt, bk := D.nx, ct := N } σ2 H2) :
    tFor (iRng1 ta) g tb D σ H := h
theorem rngAt {g : TG} {tb : TS} {D : Ends} {σ : L2.St} {H : Hp} {n : Nat} {C : L2.St → Hp → Prop} (hn : n ≤ 100000) (Pv : Nat → L2.St → Hp → Prop) (h0 : Pv 0 σ H)
    (hs : ∀ i σ H, i < n → Pv i σ H → g (.int (i : Int)) σ H fun σ2 H2 => tb { nx := Pv (i + 1), rt := D.rt, bk := C, ct := Pv (i + 1) } σ2 H2) (hd : ∀ σ H, Pv n σ H → C σ H) :
    ∃ j : Int, [V.int (n : Int)] = [.int j] ∧ -2 ^ 62 ≤ j ∧ j < 2 ^ 62 ∧ ∃ W : Nat → Nat → L2.St → Hp → Prop, (∃ m, W 0 m σ H) ∧ ∀ (i m : Nat) (σ : L2.St) (H : Hp), W i m σ H → (Itr 0 j.toNat).stop i H ∧ C σ H ∨ (Itr 0 j.toNat).go i H ∧ ∃ N, (∀ (σ' : L2.St) (H' : Hp), N σ' H' → ∃ m', m' < m ∧ W (i + 1) m' σ' H') ∧ ∀ (x : V) (H' : Hp), (Itr 0 j.toNat).yld i H x H' → g x σ H' fun σ2 H2 => tb { nx := N, rt := D.rt, bk := C, ct := N } σ2 H2 :=
  ⟨(n : Int), rfl, by omega, by omega, for_range (lo := 0) (n := (n : Int).toNat) (D := { D with nx := C }) Pv h0 (fun i σ H hi p => by rw [Int.zero_add]; exact hs i σ H (by omega) p) (fun σ H p => hd σ H (by rw [Int.toNat_natCast] at p; exact p))⟩
/-- a dict's polynomial, its degree, its sizes and its values -/
def Dv (H : Hp) (v : V) (g D M : Nat) (F : Rat → Rat → Rat) : Prop := ∃ (d : Addr) (L : List En), v = .ref d ∧ DW H d L ∧ (∀ e ∈ L, e.1.1 + e.1.2 ≤ g) ∧ BdC D M L ∧ (∀ x y, evL L x y = F x y) ∧ nz L
theorem Dv.same {H H' : Hp} {v : V} {g D M : Nat} {F : Rat → Rat → Rat} (h : Dv H v g D M F) (s : L2.Same H H') : Dv H' v g D M F := by
  obtain ⟨d, L, e, dw, r⟩ := h
  exact ⟨d, L, e, dw.same s, r⟩
/-- a list of them -/
def Dl (H : Hp) (l : Addr) (N g : Nat) (D M : Nat → Nat) (F : Nat → Rat → Rat → Rat) : Prop := ∃ ws, H l = some (.lst ws) ∧ ws.length = N ∧ ∀ (t : Nat) v, ws[t]? = some v → Dv H v g (D t) (M t) (F t)
theorem Dl.same {H H' : Hp} {l : Addr} {N g : Nat} {D M : Nat → Nat} {F : Nat → Rat → Rat → Rat} (h : Dl H l N g D M F) (s : L2.Same H H') : Dl H' l N g D M F := by
  obtain ⟨ws, e, n, r⟩ := h
  exact ⟨ws, s _ _ e, n, fun t v hv => (r t v hv).same s⟩
/-- .. of which the first are known -/
def Dk (H : Hp) (l : Addr) (N cap g : Nat) (D M : Nat → Nat) (F : Nat → Rat → Rat → Rat) : Prop := ∃ ws, H l = some (.lst ws) ∧ ws.length = N ∧ ∀ (t : Nat) v, t < cap → ws[t]? = some v → Dv H v g (D t) (M t) (F t)
theorem Dk.same {H H' : Hp} {l : Addr} {N cap g : Nat} {D M : Nat → Nat} {F : Nat → Rat → Rat → Rat} (h : Dk H l N cap g D M F) (s : L2.Same H H') : Dk H' l N cap g D M F := by
  obtain ⟨ws, e, n, r⟩ := h
  exact ⟨ws, s _ _ e, n, fun t v ht hv => (r t v ht hv).same s⟩
theorem Dl.congr {H : Hp} {l : Addr} {N g : Nat} {D M M' : Nat → Nat} {F G : Nat → Rat → Rat → Rat} (h : Dl H l N g D M F) (hm : ∀ t, t < N → M t ≤ M' t) (e : ∀ t, t < N → ∀ x y, F t x y = G t x y) : Dl H l N g D M' G := by
  obtain ⟨ws, h1, h2, h3⟩ := h
  refine ⟨ws, h1, h2, fun t v hv => ?_⟩
  have lt : t < N := by rw [← h2]; exact (List.getElem?_eq_some_iff.mp hv).1
  obtain ⟨d, L, a, b, c, bd, f, z⟩ := h3 t v hv
  exact ⟨d, L, a, b, c, fun i j => (bd i j).le (hm t lt), fun x y => (f x y).trans (e t lt x y), z⟩
theorem bx_of {L : List En} {g : Nat} (h : ∀ e ∈ L, e.1.1 + e.1.2 ≤ g) (hg : g ≤ 15) : Bx bxN L := fun e he => by
  have := h e he
  show e.1.1 < 16 ∧ e.1.2 < 16
  omega
theorem en_len {L : List En} (nd : (L.map (·.1)).Nodup) (b : Bx bxN L) : L.length ≤ 256 := by
  have h := sub_len nd (m := boxP) fun p hp => by
    obtain ⟨e, he, rfl⟩ := List.mem_map.mp hp
    exact List.mem_flatMap.mpr ⟨e.1.1, List.mem_range.mpr (b e he).1, List.mem_map.mpr ⟨e.1.2, List.mem_range.mpr (b e he).2, rfl⟩⟩
  rw [List.length_map] at h
  exact Nat.le_trans h (by decide)
def kk (A B : Nat) : Nat := 256 * (A * B)
def spRowT : Sp := fun vs H Q _ => ∃ (l1 l2 : Addr) (many N1 N2 g1 g2 A B : Nat) (D1 D2 D3 : Nat → Nat) (F1 F2 : Nat → Rat → Rat → Rat), vs = [.ref l1, .ref l2, .int (many : Int)] ∧ Dl H l1 N1 g1 D1 (fun _ => A) F1 ∧ Dk H l2 N2 many g2 D2 (fun _ => B) F2 ∧ many ≤ 6 ∧ many ≤ N2 ∧ N1 ≤ 10 ∧ N2 ≤ 10 ∧ g1 + g2 ≤ 15 ∧
  1 ≤ A ∧ 1 ≤ B ∧ (∀ i j, i + j < many → 0 < D1 i ∧ 0 < D2 j ∧ D1 i * D2 j ∣ D3 (i + j)) ∧ (∀ n, n < many → Fz (D3 n) (6 * kk A B)) ∧
  ∀ (l : Addr) (H' : Hp), L2.Same H H' → Dl H' l many (g1 + g2) D3 (fun _ => 6 * kk A B) (fun n x y => cvP (fun i => if i < N1 then F1 i x y else 0) (fun j => F2 j x y) n) → Q (.ref l) H'
theorem DW.nd {H : Hp} {d : Addr} {L : List En} (h : DW H d L) : (L.map (·.1)).Nodup := by
  obtain ⟨_, _, _, n⟩ := h
  exact n
theorem DW.offL {H : Hp} {d D : Addr} {L : List En} {ys zs : List V} (h : DW H d L) (e : H D = some (.lst ys)) : DW (upd H D (.lst zs)) d L := by
  obtain ⟨kvs, ed, de⟩ := h
  exact ⟨kvs, by rw [upd_ne (ne_of ed e (by intro z; cases z))]; exact ed, de.tu (tu_lst e)⟩
theorem Dv.offL {H : Hp} {D : Addr} {v : V} {g D' M : Nat} {F : Rat → Rat → Rat} {ys zs : List V} (h : Dv H v g D' M F) (e : H D = some (.lst ys)) : Dv (upd H D (.lst zs)) v g D' M F := by
  obtain ⟨d, L, a, dw, r⟩ := h
  exact ⟨d, L, a, dw.offL e, r⟩
theorem v_lenW {σ : L2.St} {H : Hp} {te : TE} {l : Addr} {ws : List V} {n : Nat} (h : Val te σ H (.ref l)) (q : H l = some (.lst ws)) (e : ws.length = n) : Val (tCB (fun xs H Q => ∃ p ys, xs = [.ref p] ∧ (SqL K H p ys ∨ SqT K H p ys) ∧ Q (.int ys.length) H) (tCons te tNil)) σ H (.int (n : Int)) := by
  subst e
  exact v_cb (va_cons h va_nil) fun Q k => ⟨l, ws, rfl, .inl (SqL.of q), k⟩
def trF (F1 F2 : Nat → Rat → Rat → Rat) (t : Nat) (x y : Rat) (s : Nat) : Rat := if s ≤ t then F1 s x y * F2 (t - s) x y else 0
/-- range(min([a, b])) -/
theorem st_forMin {g : TG} {t1 t2 : TE} {tb : TS} {D : Ends} {σ : L2.St} {H : Hp} {a b : Nat} (h1 : Val t1 σ H (.int (a : Int))) (h2 : Val t2 σ H (.int (b : Int))) (hn : a ≤ 100000)
    (k : ∀ H1, L2.Same H H1 → ∃ Pv : Nat → L2.St → Hp → Prop, Pv 0 σ H1 ∧ (∀ i σ H, i < min a b → Pv i σ H → g (.int (i : Int)) σ H fun σ2 H2 => tb { nx := Pv (i + 1), rt := D.rt, bk := D.nx, ct := Pv (i + 1) } σ2 H2) ∧ ∀ σ H, Pv (min a b) σ H → D.nx σ H) :
    tFor (iRng1 (tCons (tCB (rMin K) (tCons (tLst (tCons t1 (tCons t2 tNil))) tNil)) tNil)) g tb D σ H := by
  refine st_forRU (va_1 ?_)
  change tCons (tLst (tCons t1 (tCons t2 tNil))) tNil σ H _
  refine va_1 (l_s (va_s h1 (va_1 (h2 _ ?_))))
  refine ⟨by show 2 ≤ sizeLine; decide, fun q hq => ⟨q, [(a : Int), (b : Int)], rfl, SqL.of upd_same, by show 0 < 2; decide, fun mn m1 m2 => ?_⟩⟩
  obtain rfl : mn = ((min a b : Nat) : Int) := by
    have h1 := m2 (a : Int) (by simp)
    have h2 := m2 (b : Int) (by simp)
    simp at m1
    rcases m1 with e | e <;> omega
  obtain ⟨Pv, p0, hs, hd⟩ := k _ (Same.new' (o := .lst [V.int (a : Int), .int (b : Int)]) hq)
  exact rngAt (D := D) (by omega) Pv p0 hs hd
theorem q_forMin {g : TG} {t1 t2 : TE} {tb tz : TS} {D : Ends} {σ : L2.St} {H : Hp} {a b : Nat} (h1 : Val t1 σ H (.int (a : Int))) (h2 : Val t2 σ H (.int (b : Int))) (hn : a ≤ 100000)
    (k : ∀ H1, L2.Same H H1 → ∃ Pv : Nat → L2.St → Hp → Prop, Pv 0 σ H1 ∧ (∀ i σ H, i < min a b → Pv i σ H → g (.int (i : Int)) σ H fun σ2 H2 => tb { nx := Pv (i + 1), rt := D.rt, bk := tz D, ct := Pv (i + 1) } σ2 H2) ∧ ∀ σ H, Pv (min a b) σ H → tz D σ H) :
    tSeq (tFor (iRng1 (tCons (tCB (rMin K) (tCons (tLst (tCons t1 (tCons t2 tNil))) tNil)) tNil)) g tb) tz D σ H := st_forMin (D := { D with nx := tz D }) h1 h2 hn k
theorem l_lcRf {n : Nat} {ta : TA} {g : TG} {te : TE} {vs : List Nat} {σ : L2.St} {H : Hp} {Q : VK} {R : Nat → V → Hp → Prop} (st : ∀ k, Stays (R k)) (of : Off R) (h : VA ta σ H [.int (n : Int)]) (hn : n ≤ 10000) (hs : ∀ i H1, i < n → Same H H1 → Turn1 g te vs σ (.int (i : Int)) H1 (R i))
    (q : ∀ p ys H', Same H H' → H p = none → H' p = some (.lst ys) → Rows R 0 n ys H' → Q (.ref p) H') : tLc (iRng1 ta) g tYes te vs σ H Q := by
  refine h _ ⟨(n : Int), rfl, by omega, by omega, fun D hD => lc_range (lo := 0) (n := (n : Int).toNat) (LcP R H D) ⟨[], Same.new' hD, upd_same, hD, trivial, rfl⟩ (fun i H1 hi p => ?_) (fun H1 ⟨ys, s, e, nD, r⟩ => q D ys H1 s nD e (by rw [Int.toNat_natCast] at r; exact r))⟩
  rw [Int.zero_add]
  exact lc_step st of p (by omega) (hs i H1 (by omega))
theorem cut_cv {F1 F2 : Nat → Rat → Rat → Rat} {many N1 t : Nat} (ht : t < many) (x y : Rat) : rsum (min many N1) (trF F1 F2 t x y) = cvP (fun i => if i < N1 then F1 i x y else 0) (fun j => F2 j x y) t := by
  let G : Nat → Rat := fun s => if s ≤ t then (if s < N1 then F1 s x y else 0) * F2 (t - s) x y else 0
  have e1 : rsum (min many N1) (trF F1 F2 t x y) = rsum (min many N1) G := rsum_congr fun i hi => by
    show (if i ≤ t then F1 i x y * F2 (t - i) x y else 0) = if i ≤ t then (if i < N1 then F1 i x y else 0) * F2 (t - i) x y else 0
    rw [if_pos (show i < N1 by omega)]
  have e2 : rsum many G = rsum (min many N1) G := rsum_cut' (by omega) fun i h1 h2 => by
    show (if i ≤ t then (if i < N1 then F1 i x y else 0) * F2 (t - i) x y else 0) = 0
    rw [if_neg (show ¬ i < N1 by omega), Rat.zero_mul]
    split <;> rfl
  have e3 : rsum many G = rsum (t + 1) G := rsum_cut' (by omega) fun i h1 h2 => if_neg (by omega)
  rw [e1, ← e2, e3]
  exact rsum_congr fun i hi => if_pos (by omega)
theorem ok_law_row_times (T : Txt K mg) : FnOk P w K mg base CX0 6 (fA mg "_law_row_times") (fDat K (fA mg "_law_row_times")) ["_law_one", "_law_two", "_law_many"] spRowT := by
  have G_law_v_plus := ok_law_v_plus (P := P) (w := w) (base := base) T
  have G_law_v_times := ok_law_v_times (P := P) (w := w) (base := base) T
  refine T._law_row_times.F.ok sc_law_row_times (fun vs H Q E h => ?_) (fun cdv A outer s H vs Q E hr h => ?_)
  · obtain ⟨l1, l2, many, N1, N2, g1, g2, A, B, D1, D2, D3, F1, F2, rfl, _⟩ := h
    rfl
  obtain ⟨l1, l2, many, N1, N2, g1, g2, A', B, D1, D2, D3, F1, F2, rfl, La, Lb, m6, mN, n10, n10', g15, A1, B1, hD, hz, k⟩ := h
  refine ⟨_, (pss_cons (ps_setLc (i := 3) (own := [("_law_k", 4)]) (g := gName 4) (tt := tYes) (by rfl) sc_law_row_times.nd rfl rfl (sw_true rfl rfl rfl (by decide +kernel)) (pi_range1 (by rfl) T.range (pa_cons (pv 2) pa_nil)) (blkOk_by (own := [("_law_k", 4)]) (N := ["_law_one", "_law_two", "_law_many", "_law_found", "_law_k", "_law_i", "_law_j"]) (sc := defScope s_law_row_times) (by decide +kernel)) (fun _ _ _ _ _ => pg_name (i := 4) sc_law_row_times.nd rfl (Or.inl rfl)) (fun _ _ _ _ _ => pts_nil) (fun _ _ _ _ _ => pe_dnewT))
  (pss_cons (ps_for PassesOwn.never rfl (pi_range1 (by rfl) T.range (pa_cons (pe_callB (cr_min rfl) (by rfl) T.min (by decide +kernel) (pa_cons (pe_lst (pa_cons (pv 2) (pa_cons (pe_callB call_len_seq (by rfl) T.len PySem.boot_len (pa_cons (pv 0) pa_nil)) pa_nil))) pa_nil)) pa_nil)) (pg_name (i := 5) sc_law_row_times.nd rfl (Or.inl rfl))
  (pss_one (ps_for PassesOwn.never rfl (pi_range1 (by rfl) T.range (pa_cons (pe_callB (cr_min rfl) (by rfl) T.min (by decide +kernel) (pa_cons (pe_lst (pa_cons (pe_op op_sub (pv 2) (pv 5)) (pa_cons (pe_callB call_len_seq (by rfl) T.len PySem.boot_len (pa_cons (pv 1) pa_nil)) pa_nil))) pa_nil)) pa_nil)) (pg_name (i := 6) sc_law_row_times.nd rfl (Or.inl rfl))
  (pss_one (ps_asg (pe_c T._law_v_plus G_law_v_plus (hr.mono (by decide)) (pa_cons (pe_ix ix_list (pv 3) (pe_op op_add (pv 5) (pv 6)) (fun _ _ => rfl)) (pa_cons (pe_c T._law_v_times G_law_v_times (hr.mono (by decide)) (pa_cons (pe_ix ix_list (pv 0) (pv 5) (fun _ _ => rfl)) (pa_cons (pe_ix ix_list (pv 1) (pv 6) (fun _ _ => rfl)) pa_nil))) pa_nil))) (pg_sub (pv 3) (pe_op op_add (pv 5) (pv 6)) set_list))))))
  (pss_one (ps_ret (pv 3))))), ?_⟩
  refine q_asg (l_lcRf (n := many) (R := fun _ v H => ∃ d, v = V.ref d ∧ DW H d []) (fun k v H H' s h => ?_) (fun k v H D ys zs h e => ?_) (va_cons (val_var rfl) va_nil) (by omega) (fun i H1 hi s1 => turn_name rfl fun Q q => ?_) fun f ys H1 s1 fH ef r1 => ?_)
  · obtain ⟨d, e, dw⟩ := h
    exact ⟨d, e, dw.same s⟩
  · obtain ⟨d, e', dw⟩ := h
    exact ⟨d, e', dw.offL e⟩
  · exact fun d hd => q _ _ (Same.new' hd) ⟨d, rfl, ⟨[], upd_same, .nil, List.nodup_nil⟩⟩
  have A0 : Dl H1 f many (g1 + g2) D3 (fun _ => 0 * kk A' B) (fun t x y => rsum 0 (trF F1 F2 t x y)) := ⟨ys, ef, r1.2, fun t v hv => by
    obtain ⟨d, e, dw⟩ := r1.1.get hv
    exact ⟨d, [], e, dw, (fun e he => nomatch he), fun i j => Bd.zero, fun x y => rfl, fun e he => nomatch he⟩⟩
  clear r1 ef
  obtain ⟨ws1, e1, len1, at1⟩ := La
  obtain ⟨ws2, e2, len2, at2⟩ := Lb
  refine q_forMin (a := many) (b := N1) (val_var rfl) (v_lenW (val_var rfl) (s1 _ _ e1) len1) (by omega) fun H2 s2 => ⟨fun i σ H3 => ∃ z z' z'', σ = [some (.ref l1), some (.ref l2), some (.int (many : Int)), some (.ref f), z, z', z''] ∧ L2.Same H H3 ∧ Dl H3 f many (g1 + g2) D3 (fun _ => i * kk A' B) (fun t x y => rsum i (trF F1 F2 t x y)), ⟨_, _, _, rfl, s1.trans s2, A0.same s2⟩, fun i σ H3 hi z => ?_, fun σ H3 z => ?_⟩
  · obtain ⟨z, z', z'', rfl, S3, A3⟩ := z
    have hi1 : i < many := by omega
    have hi2 : i < N1 := by omega
    refine g_name (st_forMin (a := many - i) (b := N2) (Val.is (v_sub (val_var rfl) (val_var rfl)) (by congr 1; omega)) (v_lenW (val_var rfl) (S3 _ _ e2) len2) (by omega) fun H4 s4 => ⟨fun k σ H5 => ∃ z z', σ = [some (.ref l1), some (.ref l2), some (.int (many : Int)), some (.ref f), z, some (.int (i : Int)), z'] ∧ L2.Same H H5 ∧ Dl H5 f many (g1 + g2) D3 (fun t => i * kk A' B + if i ≤ t ∧ t < i + k then kk A' B else 0) (fun t x y => rsum i (trF F1 F2 t x y) + if i ≤ t ∧ t < i + k then F1 i x y * F2 (t - i) x y else 0), ⟨_, _, rfl, S3.trans s4, (A3.same s4).congr (fun t _ => by rw [if_neg (by omega)]; exact Nat.le_refl _) fun t _ x y => by rw [if_neg (by omega), Rat.add_zero]⟩, fun k σ H5 hk z => ?_, fun σ H5 z => ?_⟩)
    · obtain ⟨z, z', rfl, S5, A5⟩ := z
      have lk : i + k < many := by omega
      obtain ⟨ws, ef, lw, at5⟩ := A5
      obtain ⟨v, gw⟩ : ∃ v, ws[i + k]? = some v := ⟨_, List.getElem?_eq_getElem (by omega)⟩
      obtain ⟨u, gu⟩ : ∃ v, ws1[i]? = some v := ⟨_, List.getElem?_eq_getElem (by omega)⟩
      obtain ⟨u', gu'⟩ : ∃ v, ws2[k]? = some v := ⟨_, List.getElem?_eq_getElem (by omega)⟩
      obtain ⟨d, L, rfl, dw, dg, bd, vl, _⟩ := at5 _ _ gw
      obtain ⟨da, Ja, rfl, dwa, dga, bda, vla, _⟩ := at1 _ _ gu
      obtain ⟨db, Jb, rfl, dwb, dgb, bdb, vlb, _⟩ := at2 _ _ (by omega) gu'
      dsimp only at bd vl bda bdb
      rw [if_neg (by omega), Nat.add_zero] at bd
      have vl : ∀ x y, evL L x y = rsum i (trF F1 F2 (i + k) x y) := fun x y => by
        rw [vl, if_neg (by omega), Rat.add_zero]
      obtain ⟨d1, d2, d3⟩ := hD i k lk
      have fz := hz _ lk
      have ks : A' * B ≤ kk A' B := Nat.le_mul_of_pos_left _ (by decide)
      have dl : D1 i * D2 k ≤ D3 (i + k) := Nat.le_of_dvd fz.d0 d3
      have la := en_len dwa.nd (bx_of dga (by omega))
      have fM : Fz (D1 i * D2 k) (A' * B) := fz.dn (Nat.mul_pos d1 d2) dl (by omega)
      have fK : Fz (D1 i * D2 k) (Ja.length * (A' * B)) := fz.dn (Nat.mul_pos d1 d2) dl (Nat.le_trans (Nat.mul_le_mul_right (A' * B) la) (show kk A' B ≤ _ by omega))
      have f1 : Fz (D1 i) A' := fM.dn d1 (Nat.le_mul_of_pos_right _ d2) (Nat.le_mul_of_pos_right _ B1)
      have f2 : Fz (D2 k) B := fM.dn d2 (Nat.le_mul_of_pos_left _ d1) (Nat.le_mul_of_pos_left _ A1)
      have ei : (i : Int) + (k : Int) = ((i + k : Nat) : Int) := by omega
      have gg : (g1 + g2 + 1) * (g1 + g2 + 1) ≤ 900 := Nat.le_trans (Nat.mul_le_mul (show g1 + g2 + 1 ≤ 16 by omega) (show g1 + g2 + 1 ≤ 16 by omega)) (by decide)
      refine g_name (call_1 ((v_ixL (n := i + k) (val_var rfl) (Val.is (v_add (val_var rfl) (val_var rfl)) (by rw [ei])) (SqL.of ef) gw) _ (va_1 (c_call (va_cons (v_ixL (n := i) (val_var rfl) (val_var rfl) (SqL.of (S5 _ _ e1)) gu) (va_cons (v_ixL (n := k) (val_var rfl) (val_var rfl) (SqL.of (S5 _ _ e2)) gu') va_nil)) ⟨da, db, Ja, Jb, D1 i, A', D2 k, B, g1 + g2, rfl, (dwa.same S5).dp, (dwb.same S5).dp, fun a ha b hb => by have := dga a ha; have := dgb b hb; omega, gg, bda, bdb, f1, f2, fM, fK, fun p H6 M s6 nH dwM cfM kM lM => ?_⟩))))
      have dgM : ∀ e ∈ M, e.1.1 + e.1.2 ≤ g1 + g2 := fun e he => by
        obtain ⟨⟨a, ha, b, hb, ee⟩, _⟩ := kM e he
        have := dga a ha
        have := dgb b hb
        rw [ee]
        show a.1.1 + b.1.1 + (a.1.2 + b.1.2) ≤ g1 + g2
        omega
      have bdM : BdC (D3 (i + k)) (kk A' B) M := fun a b => by
        rw [cfM]
        exact (tm_bd dwb.nd bdb a b fun e he => bda.mem dwa.nd he).mono d3 (Nat.mul_le_mul_right (A' * B) la)
      refine ⟨d, p, L, M, 1000, 1000, rfl, (dw.same s6).dp, dwM.dp, bx_of dg (by omega), Nat.le_trans (en_len dw.nd (bx_of dg (by omega))) (by decide), Nat.le_trans (en_len dwM.nd (bx_of dgM (by omega))) (by decide), bd.sm (fz.le (Nat.mul_le_mul_right _ (by omega))), bdM.sm (fz.le (by omega)), Nat.le_refl _, Nat.le_refl _, fun p2 H7 M2 s7 n7 dw2 cf2 k2 l2 => ?_⟩
      have e4 := s7 _ _ (s6 _ _ ef)
      refine (val_var (v := .ref f) rfl) _ ((Val.is (v_add (val_var rfl) (val_var rfl)) (by rw [ei])) _ ⟨f, ws, _, i + k, rfl, rfl, e4, ixN_nat (by omega), ?_⟩)
      refine ⟨_, _, rfl, Same.updN ((S5.trans s6).trans s7) fH, ws.set (i + k) (.ref p2), upd_same, by rw [List.length_set]; exact lw, fun t v hv => ?_⟩
      rw [List.getElem?_set] at hv
      split at hv
      · rename_i et
        subst et
        rw [if_pos (by omega)] at hv
        cases hv
        refine ⟨p2, M2, rfl, dw2.offL e4, fun e he => ?_, fun a b => ?_, fun x y => ?_, fun e he => (k2 e he).2⟩
        · rcases (k2 e he).1 with h | h
          · obtain ⟨e', he', ee⟩ := List.mem_map.mp h
            rw [← ee]
            exact dg e' he'
          · obtain ⟨e', he', ee⟩ := List.mem_map.mp h
            rw [← ee]
            exact dgM e' he'
        · dsimp only
          rw [if_pos (by omega), cf2]
          exact (bd a b).add (bdM a b)
        · dsimp only
          rw [if_pos (by omega), ev_sum cf2, vl, ev_tm cfM, vla, vlb, Nat.add_sub_cancel_left]
      · rename_i et
        have iff : (i ≤ t ∧ t < i + (k + 1)) ↔ (i ≤ t ∧ t < i + k) := by omega
        have := (((at5 t v hv).same s6).same s7).offL (zs := ws.set (i + k) (.ref p2)) e4
        simp only [iff]
        exact this
    · obtain ⟨z, z', rfl, S5, A5⟩ := z
      refine ⟨_, _, _, rfl, S5, A5.congr (fun t ht => ?_) fun t ht x y => ?_⟩
      · split
        · rw [Nat.succ_mul]; exact Nat.le_refl _
        · rw [Nat.succ_mul]; omega
      · show _ = rsum i (trF F1 F2 t x y) + trF F1 F2 t x y i
        unfold trF
        by_cases h1 : i ≤ t
        · rw [if_pos h1, if_pos (by omega)]
        · rw [if_neg h1, if_neg (by omega)]
  · obtain ⟨z, z', z'', rfl, S3, A3⟩ := z
    refine st_ret (val_var rfl) (k f _ S3 (A3.congr (fun t ht => Nat.mul_le_mul_right _ (by omega)) fun t ht x y => cut_cv ht x y))
end
end LW

namespace LW
open PySem PySem.Spec PyProof.Rows L2 GL
/-! ### f(X, Y) as a chain -/
def itc (X : Nat → Rat → Rat → Rat) : Nat → (Nat → Rat → Rat → Rat) → Nat → Rat → Rat → Rat
  | 0, F => F
  | k + 1, F => fun n x y => cvP (fun i => itc X k F i x y) (fun j => X j x y) n
def tch (X Y : Nat → Rat → Rat → Rat) (e : En) : Nat → Rat → Rat → Rat := itc Y e.1.2 (itc X e.1.1 fun n _ _ => if n = 0 then e.2 else 0)
def due (X Y : Nat → Rat → Rat → Rat) (L : List En) (n : Nat) (x y : Rat) : Rat := rs (fun e => tch X Y e n x y) L
theorem itc_ch {p q : Rat → Rat → Rat} {n : Nat} {X F : Nat → Rat → Rat → Rat} (hX : Ch p q n X) (hF : Ch p q n F) : ∀ k, Ch p q n (itc X k F)
  | 0 => hF
  | k + 1 => (itc_ch hX hF k).mul hX
theorem tch_ch {p q : Rat → Rat → Rat} {n : Nat} {X Y : Nat → Rat → Rat → Rat} (hX : Ch p q n X) (hY : Ch p q n Y) (e : En) : Ch p q n (tch X Y e) := itc_ch hY (itc_ch hX (Ch.const n e.2) _) _
theorem due_ch {p q : Rat → Rat → Rat} {n : Nat} {X Y : Nat → Rat → Rat → Rat} (hX : Ch p q n X) (hY : Ch p q n Y) : ∀ L : List En, Ch p q n (due X Y L)
  | [] => Ch.zero n
  | e :: L => (tch_ch hX hY e).add (due_ch hX hY L)
theorem itc_0 (X F : Nat → Rat → Rat → Rat) (x y : Rat) : ∀ k, itc X k F 0 x y = F 0 x y * rp (X 0 x y) k
  | 0 => (Rat.mul_one _).symm
  | k + 1 => by
    show (0 : Rat) + itc X k F 0 x y * X (0 - 0) x y = F 0 x y * (rp (X 0 x y) k * X 0 x y)
    rw [itc_0 X F x y k]
    grind
theorem due_0 {X Y : Nat → Rat → Rat → Rat} (hX : ∀ x y, X 0 x y = x) (hY : ∀ x y, Y 0 x y = y) (x y : Rat) : ∀ L : List En, due X Y L 0 x y = evL L x y
  | [] => rfl
  | e :: L => by
    show tch X Y e 0 x y + due X Y L 0 x y = _
    rw [due_0 hX hY x y L, evL_cons]
    unfold tch
    rw [itc_0, itc_0, hX, hY, if_pos rfl]
    grind
theorem due_take {X Y : Nat → Rat → Rat → Rat} {L : List En} {i : Nat} {e : En} (h : L[i]? = some e) (n : Nat) (x y : Rat) : due X Y (L.take (i + 1)) n x y = due X Y (L.take i) n x y + tch X Y e n x y := by
  unfold due
  rw [List.take_add_one, h, rs_app]
  show _ + (tch X Y e n x y + 0) = _
  rw [Rat.add_zero]
/-- the laws' own check comes out -/
theorem solves_val {R S : List (List Rat)} {LR LS : List En} {NX NY : Nat → List En} {n : Nat} (cR : ∀ i j, cf2 R i j = cf LR i j) (cS : ∀ i j, cf2 S i j = cf LS i j) (cX : ∀ k, k ≤ n + 1 → ∀ i j, cf2 (srN R S uX k) i j = cf (NX k) i j) (cY : ∀ k, k ≤ n + 1 → ∀ i j, cf2 (srN R S uY k) i j = cf (NY k) i j) (k : Nat) (hk : k ≤ n) (x y : Rat) :
    ((k + 1 : Nat) : Rat) * evL (NX (k + 1)) x y = due (fun k => evL (NX k)) (fun k => evL (NY k)) LR k x y ∧ ((k + 1 : Nat) : Rat) * evL (NY (k + 1)) x y = due (fun k => evL (NX k)) (fun k => evL (NY k)) LS k x y := by
  have hX := (ser_ch cR cS cX).le (Nat.le_succ n)
  have hY := (ser_ch cR cS cY).le (Nat.le_succ n)
  have x0 : ∀ x y, evL (NX 0) x y = x := ev_uX (cX 0 (by omega))
  have y0 : ∀ x y, evL (NY 0) x y = y := ev_uY (cY 0 (by omega))
  refine ⟨ser_due (P0 := []) cR cS cX (due_ch hX hY LR) (fun x y => ?_) k hk x y, ser_due (P0 := []) cR cS cY (due_ch hX hY LS) (fun x y => ?_) k hk x y⟩
  · rw [due_0 x0 y0]
    exact (De.ofL (p := evL LR) (q := evL LS) (NX 0)).uniq (by
      have e : evL (NX 0) = fun x _ => x := funext fun x => funext fun y => x0 x y
      rw [e]
      exact De.x) x y
  · rw [due_0 x0 y0]
    exact (De.ofL (p := evL LR) (q := evL LS) (NY 0)).uniq (by
      have e : evL (NY 0) = fun _ y => y := funext fun x => funext fun y => y0 x y
      rw [e]
      exact De.y) x y
/-! ### sizes of the products -/
def aS (B : Nat) : Nat → Nat
  | 0 => 2
  | i + 1 => 6 * kk (aS B i) B
theorem aS_le {B : Nat} (hB : 1 ≤ B) (i : Nat) : aS B i ≤ aS B (i + 1) := by
  show aS B i ≤ 6 * (256 * (aS B i * B))
  have : aS B i ≤ aS B i * B := Nat.le_mul_of_pos_right _ hB
  omega
theorem aS_mono {B : Nat} (hB : 1 ≤ B) {i j : Nat} (h : i ≤ j) : aS B i ≤ aS B j := by
  obtain ⟨d, rfl⟩ := Nat.le.dest h
  clear h
  induction d with
  | zero => exact Nat.le_refl _
  | succ d ih => exact Nat.le_trans ih (aS_le hB (i + d))
theorem aS_pos {B : Nat} (hB : 1 ≤ B) (i : Nat) : 1 ≤ aS B i := Nat.le_trans (by show 1 ≤ 2; decide) (aS_mono hB (Nat.zero_le i))
section
variable {K : PySem.W.Frag} {σ : L2.St} {H : Hp} {g : TG} {te : TE} {ta : TA} {vs : List Nat} {Q : VK} {a b : Addr} {xs ys : List V} {R : Nat → V → Hp → Prop}
theorem zipAt (st : ∀ k, Stays (R k)) (of : Off R) (hx : SqL K H a xs) (hy : SqL K H b ys) (hl : xs.length ≤ ys.length) (hn : xs.length ≤ 10000)
    (hs : ∀ (i : Nat) x y T H1, xs[i]? = some x → ys[i]? = some y → Same H H1 → H1 T = some (.tup [x, y]) → Turn1 g te vs σ (.ref T) H1 (R i))
    (q : ∀ p zs H', Same H H' → H p = none → H' p = some (.lst zs) → Rows R 0 xs.length zs H' → Q (.ref p) H') : tLc (fun _ H R => R (Itz K a b) H) g tYes te vs σ H Q := by
  refine fun D hD => ⟨fun i m H1 => m = xs.length - i ∧ i ≤ xs.length ∧ LcP R H D i H1, ⟨_, rfl, Nat.zero_le _, [], Same.new' hD, upd_same, hD, trivial, rfl⟩, ?_⟩
  rintro i m H1 ⟨rfl, hi, p⟩
  have q1 := p.choose_spec.1.seq hx
  have q2 := p.choose_spec.1.seq hy
  rcases Nat.lt_or_ge i xs.length with lt | ge
  · have e : xs[i]? = some xs[i] := List.getElem?_eq_getElem lt
    have e' : ys[i]? = some (ys[i]'(by omega)) := List.getElem?_eq_getElem (by omega)
    refine .inr ⟨⟨xs, ys, xs[i], _, q1, q2, e, e'⟩, LcP R H D (i + 1), fun H' p' => ⟨xs.length - (i + 1), by omega, rfl, lt, p'⟩, ?_⟩
    rintro v H' ⟨T, x, y, rfl, hT, rfl, f, f'⟩
    have ex := f xs q1
    have ey := f' ys q2
    obtain ⟨zs, s, eD, nD, r⟩ := p
    have sT := Same.new' (o := .tup [x, y]) hT
    exact lc_step st of (H := H) ⟨zs, s.trans sT, sT _ _ eD, nD, Rows.stays st zs _ _ sT r⟩ (by omega) fun s2 => hs i x y T _ ex ey s2 upd_same
  · obtain rfl : i = xs.length := by omega
    obtain ⟨zs, s, e, nD, r⟩ := p
    exact .inl ⟨⟨xs, ys, q1, q2, .inl (Nat.le_refl _)⟩, q D zs H1 s nD e r⟩
theorem l_zipU {tt : TT} (h : ta σ H fun ws H1 => ∃ (a b : Addr) (xs ys : List V), ws = [.ref a, .ref b] ∧ SqL K H1 a xs ∧ SqL K H1 b ys ∧ tLc (fun _ H R => R (Itz K a b) H) g tt te vs σ H1 Q) : tLc (iZip K ta) g tt te vs σ H Q := h
end
end LW

namespace LW
open PySem PySem.Spec PyProof.Rows L2 GL
section
variable {P : Program} {w : World} {K : PySem.W.Frag} {mg : Str → Option Value} {base : Heap}
/-! ### f(X, Y), reckoned by the law -/
/-- {(i, j): c} made plain -/
theorem c_cst {t1 : TE} {σ : L2.St} {H : Hp} {x1 : Addr} {c : Rat} {Q : VK} {E : XK} {D M : Nat} (h1 : ∀ H', L2.Same H H' → Val t1 σ H' (.ref x1)) (la : Lo H x1 c) (bd : Bd D M c)
    (k : ∀ p H' F, L2.Same H H' → H p = none → DW H' p F → (∀ e ∈ F, e.1.1 + e.1.2 ≤ 0) → BdC D M F → (∀ x y, evL F x y = c) → nz F → Q (.ref p) H') :
    tCall spVPlain [] E (tCons (tDispT [(tTup (tCons (tC (.int 0)) (tCons (tC (.int 0)) tNil)), t1)]) tNil) σ H Q := by
  refine call_1 fun p hp => ?_
  have sp := Same.new' (o := .dT []) hp
  refine l_tup (va_cons val_c (va_cons val_c va_nil)) (by show 2 ≤ 100000; decide) fun k1 e1 => ?_
  have n1 := Same.new' (o := .tup [.int 0, .int 0]) e1
  have s1 := sp.trans n1
  refine h1 _ s1 _ ?_
  have ep := n1 _ _ (upd_same (H := H) (a := p) (o := .dT []))
  refine ⟨ep, [(kN (0, 0), .ref x1)], .cons ⟨⟨k1, rfl, upd_same⟩, rfl⟩ .nil, by show 1 ≤ 15; decide, ?_⟩
  have tu := Tu.putT (kvs' := mergeT [] [(kN (0, 0), V.ref x1)]) ep
  have nd : ([((0, 0), c)] : List En).map (·.1) |>.Nodup := by simp
  have dw : DW (upd _ p (.dT (mergeT [] [(kN (0, 0), V.ref x1)]))) p [((0, 0), c)] := ⟨_, upd_same, .cons ⟨rfl, x1, rfl, (la.same s1).tu tu⟩ .nil, nd⟩
  have sU := Same.updN (o := .dT (mergeT [] [(kN (0, 0), V.ref x1)])) s1 hp
  refine ⟨p, [((0, 0), c)], rfl, dw.dp, by show 1 ≤ 900; decide, fun p2 H2 N s4 np dN cN mN lN => k p2 H2 N (sU.trans s4) (Same.free sU np) dN (fun e he => ?_) (fun i j => ?_) (fun x y => ?_) fun e he => (mN e he).2⟩
  · have := (mN e he).1
    simp only [List.mem_cons, List.not_mem_nil, or_false] at this
    rw [this]
    exact Nat.le_refl _
  · rw [cN, cf_single]
    split
    · exact bd
    · exact Bd.zero
  · rw [ev_of_cf cN, evL_cons, evL_nil]
    show c * (1 * 1) + 0 = c
    grind
theorem Dl.lock {H HL : Hp} {d l : Addr} {kvs : List (List Key × V)} {N g : Nat} {D M : Nat → Nat} {F : Nat → Rat → Rat → Rat} (h : Dl H l N g D M F) (off : ∀ b, b ≠ d → HL b = H b) (hd : Rd H d (.dT kvs)) (ni : ∀ ws, H l = some (.lst ws) → V.ref d ∉ ws) : Dl HL l N g D M F := by
  obtain ⟨ws, e, n, r⟩ := h
  have nt : ∀ {b : Addr} {o : HO}, H b = some o → (∀ z, o ≠ .dT z) → (∀ y z, o ≠ .frz y z) → b ≠ d := fun {b o} eb n1 n2 y => by
    rw [y] at eb
    rcases hd with q | ⟨od, q⟩
    · rw [q] at eb; exact n1 _ (Option.some.inj eb).symm
    · rw [q] at eb; exact n2 _ _ (Option.some.inj eb).symm
  have tu : Tu H HL := fun b xs eb => by
    rw [off b (nt eb (fun _ z => nomatch z) (fun _ _ z => nomatch z))]
    exact eb
  refine ⟨ws, by rw [off l (nt e (fun _ z => nomatch z) (fun _ _ z => nomatch z))]; exact e, n, fun t v hv => ?_⟩
  obtain ⟨d', L, ev, ⟨k, ek, de⟩, rest⟩ := r t v hv
  refine ⟨d', L, ev, ⟨k, ?_, de.tu tu⟩, rest⟩
  rw [off d' fun y => ni ws e (by rw [← y, ← ev]; exact List.mem_of_getElem? hv)]
  exact ek
theorem Dk.lock {H HL : Hp} {d l : Addr} {kvs : List (List Key × V)} {N cap g : Nat} {D M : Nat → Nat} {F : Nat → Rat → Rat → Rat} (h : Dk H l N cap g D M F) (off : ∀ b, b ≠ d → HL b = H b) (hd : Rd H d (.dT kvs)) (ni : ∀ ws, H l = some (.lst ws) → V.ref d ∉ ws) : Dk HL l N cap g D M F := by
  obtain ⟨ws, e, n, r⟩ := h
  have nt : ∀ {b : Addr} {o : HO}, H b = some o → (∀ z, o ≠ .dT z) → (∀ y z, o ≠ .frz y z) → b ≠ d := fun {b o} eb n1 n2 y => by
    rw [y] at eb
    rcases hd with q | ⟨od, q⟩
    · rw [q] at eb; exact n1 _ (Option.some.inj eb).symm
    · rw [q] at eb; exact n2 _ _ (Option.some.inj eb).symm
  have tu : Tu H HL := fun b xs eb => by
    rw [off b (nt eb (fun _ z => nomatch z) (fun _ _ z => nomatch z))]
    exact eb
  refine ⟨ws, by rw [off l (nt e (fun _ z => nomatch z) (fun _ _ z => nomatch z))]; exact e, n, fun t v ht hv => ?_⟩
  obtain ⟨d', L, ev, ⟨k, ek, de⟩, rest⟩ := r t v ht hv
  refine ⟨d', L, ev, ⟨k, ?_, de.tu tu⟩, rest⟩
  rw [off d' fun y => ni ws e (by rw [← y, ← ev]; exact List.mem_of_getElem? hv)]
  exact ek
def Zk (X Y : Nat → Rat → Rat → Rat) (k : Nat) : Nat → Rat → Rat → Rat := if k = 0 then X else Y
def exk (e : En) (k : Nat) : Nat := if k = 0 then e.1.1 else e.1.2
def stgF (X Y : Nat → Rat → Rat → Rat) (e : En) : Nat → Nat → Rat → Rat → Rat
  | 0 => fun n _ _ => if n = 0 then e.2 else 0
  | k + 1 => itc (Zk X Y k) (exk e k) (stgF X Y e k)
def cnk (e : En) : Nat → Nat
  | 0 => 0
  | k + 1 => cnk e k + exk e k
/-- the term as it grows -/
def Tm (H : Hp) (t many g B c : Nat) (C : Nat → Nat) (G : Nat → Rat → Rat → Rat) (tt : Addr) : Prop := ∃ (Nt : Nat) (F : Nat → Rat → Rat → Rat), Dl H tt Nt (c * g) C (fun _ => aS B c) F ∧ Nt ≤ 10 ∧ ∀ n, n < many → ∀ x y, (if n < Nt then F n x y else 0) = G n x y
theorem cvP_congr {F G X : Nat → Rat} {n : Nat} (h : ∀ i, i ≤ n → F i = G i) : cvP F X n = cvP G X n := rsum_congr fun i hi => by rw [h i (by omega)]
def spRowOf : Sp := fun vs H Q _ => ∃ (dp lr l0 l1 : Addr) (J : List En) (many N g B : Nat) (C DX : Nat → Nat) (X Y : Nat → Rat → Rat → Rat), vs = [.ref dp, .ref lr, .int (many : Int)] ∧ DW H dp J ∧ H lr = some (.lst [.ref l0, .ref l1]) ∧ Dk H l0 N many g DX (fun _ => B) X ∧ Dk H l1 N many g DX (fun _ => B) Y ∧ (∀ ws, H l0 = some (.lst ws) → V.ref dp ∉ ws) ∧ (∀ ws, H l1 = some (.lst ws) → V.ref dp ∉ ws) ∧
  many ≤ 6 ∧ many ≤ N ∧ N ≤ 10 ∧ 3 * g ≤ 15 ∧ 1 ≤ B ∧ (∀ e ∈ J, e.1.1 + e.1.2 ≤ 3 ∧ Bd (C 0) 2 e.2) ∧ J.length ≤ 15 ∧ (∀ i j, i + j < many → 0 < C i ∧ 0 < DX j ∧ C i * DX j ∣ C (i + j)) ∧ (∀ n, n < many → Fz (C n) (16 * aS B 3)) ∧
  ∀ (l : Addr) (H' : Hp), L2.Same H H' → Dl H' l many (3 * g) C (fun _ => 16 * aS B 3) (due X Y J) → Q (.ref l) H'
theorem c_dvplus {ta : TA} {σ : L2.St} {H : Hp} {v u : V} {g D M M' : Nat} {F G : Rat → Rat → Rat} {Q : VK} {E : XK} (h : VA ta σ H [v, u]) (a : Dv H v g D M F) (b : Dv H u g D M' G) (hg : g ≤ 15) (f : Fz D (M + M')) (k : ∀ p H', L2.Same H H' → H p = none → Dv H' (.ref p) g D (M + M') (fun x y => F x y + G x y) → Q (.ref p) H') : tCall spVPlus [] E ta σ H Q := by
  obtain ⟨d1, L1, rfl, dw1, dg1, bd1, v1, _⟩ := a
  obtain ⟨d2, L2, rfl, dw2, dg2, bd2, v2, _⟩ := b
  refine c_call h ⟨d1, d2, L1, L2, 1000, 1000, rfl, dw1.dp, dw2.dp, bx_of dg1 hg, Nat.le_trans (en_len dw1.nd (bx_of dg1 hg)) (by decide), Nat.le_trans (en_len dw2.nd (bx_of dg2 hg)) (by decide), bd1.sm (f.le (by omega)), bd2.sm (f.le (by omega)), Nat.le_refl _, Nat.le_refl _, fun p H' N s np dwN cfN kN lN => k p H' s np ⟨p, N, rfl, dwN, fun e he => ?_, fun i j => ?_, fun x y => ?_, fun e he => (kN e he).2⟩⟩
  · rcases (kN e he).1 with h | h
    · obtain ⟨e', he', ee⟩ := List.mem_map.mp h
      rw [← ee]
      exact dg1 e' he'
    · obtain ⟨e', he', ee⟩ := List.mem_map.mp h
      rw [← ee]
      exact dg2 e' he'
  · rw [cfN]
    exact (bd1 i j).add (bd2 i j)
  · rw [ev_sum cfN, v1, v2]
theorem st_asg1 {te : TE} {i : Nat} {D : Ends} {σ : L2.St} {H : Hp} (h : te σ H fun v H' => D.nx (σ.set i (some v)) H') : tAsg te (gName i) D σ H := h
theorem Dv.le {H : Hp} {v : V} {g g' D M M' : Nat} {F G : Rat → Rat → Rat} (h : Dv H v g D M F) (hg : g ≤ g') (hM : M ≤ M') (e : ∀ x y, F x y = G x y) : Dv H v g' D M' G := by
  obtain ⟨d, L, ev, dw, dg, bd, vl, z⟩ := h
  exact ⟨d, L, ev, dw, fun e he => Nat.le_trans (dg e he) hg, fun i j => (bd i j).le hM, fun x y => (vl x y).trans (e x y), z⟩
theorem ok_law_row_of (T : Txt K mg) : FnOk P w K mg base CX0 8 (fA mg "_law_row_of") (fDat K (fA mg "_law_row_of")) ["_law_plane", "_law_rows", "_law_many"] spRowOf := by
  have G_law_v_plus := ok_law_v_plus (P := P) (w := w) (base := base) T
  have G_law_v_plain := ok_law_v_plain (P := P) (w := w) (base := base) T
  have G_law_row_times := ok_law_row_times (P := P) (w := w) (base := base) T
  refine T._law_row_of.F.ok sc_law_row_of (fun vs H Q E h => ?_) (fun cdv A outer s H vs Q E hr h => ?_)
  · obtain ⟨dp, lr, l0, l1, J, many, N, g, B, C, DX, X, Y, rfl, _⟩ := h
    rfl
  obtain ⟨dp, lr, l0, l1, J, many, N, g, B, C, DX, X, Y, rfl, ⟨k1, rd1, de1⟩, elr, L0, L1, ni0, ni1, m6, mN, n10, g15, B1, hJ, hJl, hD, hz, k⟩ := h
  refine ⟨_, (pss_cons (ps_setLc (i := 3) (own := [("_law_k", 4)]) (g := gName 4) (tt := tYes) (by rfl) sc_law_row_of.nd rfl rfl (sw_true rfl rfl rfl (by decide +kernel)) (pi_range1 (by rfl) T.range (pa_cons (pv 2) pa_nil)) (blkOk_by (own := [("_law_k", 4)]) (N := ["_law_plane", "_law_rows", "_law_many", "_law_found", "_law_k", "_law_spot", "_law_term", "_law_lap", "_law_one", "_law_two"]) (sc := defScope s_law_row_of) (by decide +kernel)) (fun _ _ _ _ _ => pg_name (i := 4) sc_law_row_of.nd rfl (Or.inl rfl)) (fun _ _ _ _ _ => pts_nil) (fun _ _ _ _ _ => pe_dnewT))
  (pss_cons (ps_lockO (ps_for PassesOwn.never rfl (pi_keys (pv 0)) (pg_name (i := 5) sc_law_row_of.nd rfl (Or.inl rfl))
  (pss_cons (ps_set (i := 6) sc_law_row_of.nd rfl (Or.inl rfl) (pe_lst (pa_cons (pe_c T._law_v_plain G_law_v_plain (hr.mono (by decide)) (pa_cons (pe_dispT (hu64 hr) (pps_cons (pe_tup (pa_cons pe_int (pa_cons pe_int pa_nil))) (pe_dget (hu_of hr) (pv 0) (pv 5) (fun _ _ => rfl)) pps_nil) (by rfl) (by rfl) (fun z => by cases z) (by decide)) pa_nil)) pa_nil)))
  (pss_cons (ps_for PassesOwn.never rfl (pi_range1 (by rfl) T.range (pa_cons pe_int pa_nil)) (pg_name (i := 4) sc_law_row_of.nd rfl (Or.inl rfl))
  (pss_one (ps_for PassesOwn.never rfl (pi_range1 (by rfl) T.range (pa_cons (pe_ix ix_tup (pv 5) (pv 4) (fun _ _ => rfl)) pa_nil)) (pg_name (i := 7) sc_law_row_of.nd rfl (Or.inl rfl))
  (pss_one (ps_set (i := 6) sc_law_row_of.nd rfl (Or.inl rfl) (pe_c T._law_row_times G_law_row_times (hr.mono (by decide)) (pa_cons (pv 6) (pa_cons (pe_ix ix_list (pv 1) (pv 4) (fun _ _ => rfl)) (pa_cons (pv 2) pa_nil)))))))))
  (pss_one (ps_setLc (i := 3) (own := [("_law_one", 8), ("_law_two", 9)]) (g := gTup K 2 (gCons (gName 8) (gCons (gName 9) gNil))) (tt := tYes) (by rfl) sc_law_row_of.nd rfl rfl (sw_true rfl rfl rfl (by decide +kernel)) (pi_zip (by rfl) T.zip (pa_cons (pv 3) (pa_cons (pe_op op_cat (pv 6) (pe_lc (own := [("_law_k", 4)]) (g := gName 4) (tt := tYes) (by rfl) sc_law_row_of.nd (pi_range1 (by rfl) T.range (pa_cons (pv 2) pa_nil)) (blkOk_by (own := [("_law_k", 4)]) (N := ["_law_plane", "_law_rows", "_law_many", "_law_found", "_law_k", "_law_spot", "_law_term", "_law_lap", "_law_one", "_law_two"]) (sc := defScope s_law_row_of) (by decide +kernel)) (fun _ _ _ _ _ => pg_name (i := 4) sc_law_row_of.nd rfl (Or.inl rfl)) (fun _ _ _ _ _ => pts_nil) (fun _ _ _ _ _ => pe_dnewT))) pa_nil))) (blkOk_by (own := [("_law_one", 8), ("_law_two", 9)]) (N := ["_law_plane", "_law_rows", "_law_many", "_law_found", "_law_k", "_law_spot", "_law_term", "_law_lap", "_law_one", "_law_two"]) (sc := defScope s_law_row_of) (by decide +kernel)) (fun _ _ _ _ _ => pg_tup rfl (pgs_cons (pg_name (i := 8) sc_law_row_of.nd rfl (Or.inl rfl)) (pgs_cons (pg_name (i := 9) sc_law_row_of.nd rfl (Or.inl rfl)) pgs_nil))) (fun _ _ _ _ _ => pts_nil) (fun _ _ _ _ _ => (pe_c T._law_v_plus G_law_v_plus (hr.mono (by decide)) (pa_cons (pv 8) (pa_cons (pv 9) pa_nil))))))))))
  (pss_one (ps_ret (pv 3))))), ?_⟩
  have rdd : Rd H dp (.dT k1) := .inl rd1
  refine q_asg (l_lcRf (n := many) (R := fun _ v H' => ∃ d, v = V.ref d ∧ DW H' d [] ∧ d ≠ dp) (fun k v H H' s h => ?_) (fun k v H D ys zs h e => ?_) (va_cons (val_var rfl) va_nil) (by omega) (fun i H1 hi s1 => turn_name rfl fun Q q => ?_) fun f ys H1 s1 fH ef r1 => ?_)
  · obtain ⟨d, e, dw, n⟩ := h
    exact ⟨d, e, dw.same s, n⟩
  · obtain ⟨d, e', dw, n⟩ := h
    exact ⟨d, e', dw.offL e, n⟩
  · exact fun d hd => q _ _ (Same.new' hd) ⟨d, rfl, ⟨[], upd_same, .nil, List.nodup_nil⟩, fun z => by rw [z, s1 _ _ rd1] at hd; cases hd⟩
  have A0 : Dl H1 f many (3 * g) C (fun _ => 0 * aS B 3) (due X Y (J.take 0)) := ⟨ys, ef, r1.2, fun t v hv => by
    obtain ⟨d, e, dw, _⟩ := r1.1.get hv
    exact ⟨d, [], e, dw, (fun e he => nomatch he), fun i j => Bd.zero, fun x y => rfl, fun e he => nomatch he⟩⟩
  have nf0 : ∀ ws, H1 f = some (.lst ws) → V.ref dp ∉ ws := fun ws e m => by
    rw [ef] at e
    cases e
    obtain ⟨i, hi⟩ := List.getElem?_of_mem m
    obtain ⟨d, e, _, n⟩ := r1.1.get hi
    cases e
    exact n rfl
  clear r1 ef
  have rd0 := Rd.same rdd s1
  have de0 := de1.tu (Tu.of s1)
  have ni : ∀ {l : Addr} {Z : Nat → Rat → Rat → Rat}, Dk H l N many g DX (fun _ => B) Z → (∀ ws, H l = some (.lst ws) → V.ref dp ∉ ws) → ∀ ws, H1 l = some (.lst ws) → V.ref dp ∉ ws := fun {l Z} L n ws e => by
    obtain ⟨w, e', _⟩ := L
    rw [s1 _ _ e'] at e
    cases e
    exact n _ e'
  have nd : ∀ {HL : Hp}, (∀ b, b ≠ dp → HL b = H1 b) → Tu H1 HL := fun {HL} off b xs e => by
    rw [off b (fun y => by
      rw [y] at e
      rcases rd0 with q | ⟨o, q⟩ <;> rw [e] at q <;> cases q)]
    exact e
  refine q_keys (kvs := k1) (d := dp) rfl rd0 (fun HL x σ H' => ∃ (z4 z5 z6 z7 z8 z9 : Option V) (fd : Addr), σ = [some (.ref dp), some (.ref lr), some (.int (many : Int)), some (.ref fd), z4, z5, z6, z7, z8, z9] ∧ (∀ b, b ≠ dp → HL b = H1 b) ∧ Rd HL dp (.dT k1) ∧ L2.Same HL H' ∧ Dl H' fd many (3 * g) C (fun _ => x * aS B 3) (due X Y (J.take x)) ∧ ∀ ws, H' fd = some (.lst ws) → V.ref dp ∉ ws)
    (fun HL off rdL => ⟨_, _, _, _, _, _, f, rfl, off, rdL, L2.Same.refl _, A0.lock off rd0 nf0, fun ws e => ?_⟩) (fun HL x σ H' ⟨_, _, _, _, _, _, _, _, _, rdL, s, _⟩ => ?_) ?_ ?_
  · obtain ⟨w, e', _⟩ := A0
    refine nf0 ws ?_
    rw [← off f (fun y => by
      rw [y] at e'
      rcases rd0 with q | ⟨o, q⟩ <;> rw [e'] at q <;> cases q)]
    exact e
  · rcases rdL with q | ⟨o, q⟩ <;> rw [q] <;> exact s _ _ q
  · rintro HL x kk v b σ H' rdL hk ⟨z4, z5, z6, z7, z8, z9, fd, rfl, off, _, sL, lf, nf⟩ hb2 D' hnx hct
    obtain ⟨e, he, ek, _, _, _⟩ := de0.1.get hk
    dsimp only at ek
    subst ek
    have xlt : x < J.length := (List.getElem?_eq_some_iff.mp he).1
    have eL : e ∈ J := List.mem_of_getElem? he
    have tuH : Tu H1 H' := (nd off).trans (Tu.of sL)
    obtain ⟨t1, va1, lo1⟩ : ∃ t, valV k1 (kN e.1) = some (.ref t) ∧ Lo H1 t e.2 := by
      rcases DE.val de0.1 e.1 with ⟨_, n⟩ | ⟨t, q, e1, lo, hq⟩
      · exact (n (List.mem_map.mpr ⟨e, eL, rfl⟩)).elim
      · have eq : q = e.2 := (cf_in hq de1.2).symm.trans (cf_in (k := e.1) (q := e.2) eL de1.2)
        exact ⟨t, e1, eq ▸ lo⟩
    obtain ⟨e3, bc⟩ := hJ e eL
    have M0 := ((L0.same s1).lock off rd0 (ni L0 ni0)).same sL
    have M1 := ((L1.same s1).lock off rd0 (ni L1 ni1)).same sL
    have er : H' lr = some (.lst [.ref l0, .ref l1]) := sL _ _ (by
      have := s1 _ _ elr
      rw [off lr (fun y => by
        rw [y] at this
        rcases rd0 with q | ⟨o, q⟩ <;> rw [this] at q <;> cases q)]
      exact this)
    refine q_asg (lst_one (c_cst (fun H2 s2 => v_dgetT (val_var rfl) (val_var rfl) (Rd.same (Rd.same rdL sL) s2) (s2 _ _ hb2) va1) (lo1.tu tuH) bc fun p H2 F s2 hp dwF dgF bdF evF nzF => ⟨by decide, fun tm htm => ?_⟩))
    have u2 := Same.new' (o := .lst [V.ref p]) htm
    have T0 : Tm (upd H2 tm (.lst [V.ref p])) 0 many g B (cnk e 0) C (stgF X Y e 0) tm := ⟨1, fun _ _ _ => e.2, ⟨[V.ref p], upd_same, rfl, fun t v hv => by
      match t, hv with
      | 0, hv =>
        cases hv
        exact ⟨p, F, rfl, dwF.same u2, fun e he => Nat.le_trans (dgF e he) (Nat.zero_le _), bdF, evF, nzF⟩⟩, by decide, fun n _ x y => by
      show (if n < 1 then e.2 else 0) = if n = 0 then e.2 else 0
      by_cases h : n = 0
      · rw [if_pos h, if_pos (by omega)]
      · rw [if_neg h, if_neg (by omega)]⟩
    have cb : ∀ i, i < 2 → cnk e i + exk e i ≤ 3 := fun i hi => by
      match i with
      | 0 => show 0 + e.1.1 ≤ 3; omega
      | 1 => show 0 + e.1.1 + e.1.2 ≤ 3; omega
      | i + 2 => omega
    refine q_forR1 (n := 2) (va_cons val_c va_nil) (by decide) (fun i σ H3 => ∃ (z4 z7 z8 z9 : Option V) (tm : Addr), σ = [some (.ref dp), some (.ref lr), some (.int (many : Int)), some (.ref fd), z4, some (.ref b), some (.ref tm), z7, z8, z9] ∧ L2.Same H' H3 ∧ Tm H3 0 many g B (cnk e i) C (stgF X Y e i) tm) ⟨_, _, _, _, tm, rfl, s2.trans u2, T0⟩ (fun i σ H3 hi z => ?_) (fun σ H3 z => ?_)
    · obtain ⟨z4, z7, z8, z9, tm, rfl, s3, tmI⟩ := z
      have vx : ([.int (exk e 0 : Int), .int (exk e 1 : Int)] : List V)[i]? = some (.int (exk e i : Int)) := by
        match i with
        | 0 => rfl
        | 1 => rfl
        | i + 2 => omega
      have hb3 : H3 b = some (.tup [.int (exk e 0 : Int), .int (exk e 1 : Int)]) := s3 _ _ hb2
      have c3 := cb i hi
      refine g_name (st_forR1 (n := exk e i) (va_cons (v_ixT (n := i) (v := .int (exk e i : Int)) (val_var rfl) (val_var rfl) (SqT.of hb3) vx) va_nil) (by omega) (fun j σ H4 => ∃ (z7 z8 z9 : Option V) (tm : Addr), σ = [some (.ref dp), some (.ref lr), some (.int (many : Int)), some (.ref fd), some (.int (i : Int)), some (.ref b), some (.ref tm), z7, z8, z9] ∧ L2.Same H' H4 ∧ Tm H4 0 many g B (cnk e i + j) C (itc (Zk X Y i) j (stgF X Y e i)) tm) ⟨_, _, _, tm, rfl, s3, tmI⟩ (fun j σ H4 hj z => ?_) (fun σ H4 z => ?_))
      · obtain ⟨z7, z8, z9, tm, rfl, s4, Nt, F, dl, nt, eqF⟩ := z
        have lx : ([.ref l0, .ref l1] : List V)[i]? = some (.ref (if i = 0 then l0 else l1)) := by
          match i with
          | 0 => rfl
          | 1 => rfl
          | i + 2 => omega
        have dlk : Dk H4 (if i = 0 then l0 else l1) N many g DX (fun _ => B) (Zk X Y i) := by
          match i with
          | 0 => exact M0.same s4
          | 1 => exact M1.same s4
          | i + 2 => omega
        have cg : (cnk e i + j + 1) * g ≤ 3 * g := Nat.mul_le_mul_right _ (by omega)
        rw [Nat.succ_mul] at cg
        have am : aS B (cnk e i + j + 1) ≤ aS B 3 := aS_mono B1 (by omega)
        refine g_name (c_call (va_cons (val_var rfl) (va_cons (v_ixL (n := i) (v := .ref (if i = 0 then l0 else l1)) (val_var rfl) (val_var rfl) (SqL.of (s4 _ _ er)) lx) (va_cons (val_var rfl) va_nil))) ⟨tm, if i = 0 then l0 else l1, many, Nt, N, (cnk e i + j) * g, g, aS B (cnk e i + j), B, C, DX, C, F, Zk X Y i, rfl, dl, dlk, m6, mN, nt, n10, by omega, aS_pos B1 _, B1, hD, fun n hn => (hz n hn).le (show aS B (cnk e i + j + 1) ≤ 16 * aS B 3 by omega), fun l H5 s5 dl5 => ?_⟩)
        refine ⟨_, _, _, l, rfl, s4.trans s5, many, fun n x y => cvP (fun i' => if i' < Nt then F i' x y else 0) (fun j' => Zk X Y i j' x y) n, ?_, by omega, fun n hn x y => ?_⟩
        · have eg : (cnk e i + j) * g + g = (cnk e i + (j + 1)) * g := by rw [← Nat.add_assoc, Nat.succ_mul]
          rw [eg] at dl5
          exact dl5
        · rw [if_pos hn]
          exact cvP_congr fun i' hi' => eqF i' (by omega) x y
      · obtain ⟨z7, z8, z9, tm, rfl, s4, t⟩ := z
        exact ⟨_, _, _, _, tm, rfl, s4, t⟩
    · obtain ⟨z4', z7', z8', z9', tm, rfl, s3, Nt, F, ⟨wt, et, lt, att⟩, nt, eqF⟩ := z
      obtain ⟨wf, ewf, lwf, awf⟩ := lf.same s3
      refine st_asg1 (l_zipU (va_s (val_var rfl) (va_1 (op_l' ((val_var rfl) _ (l_lcRf (n := many) (R := fun _ v H' => ∃ d, v = V.ref d ∧ DW H' d []) (fun k v H H' s ⟨d, e, dw⟩ => ⟨d, e, dw.same s⟩) (fun k v H D ys zs ⟨d, e', dw⟩ e => ⟨d, e', dw.offL e⟩) (va_cons (val_var rfl) va_nil) (by omega) (fun i H1 hi s1 => turn_name rfl fun Q q => fun d hd => q _ _ (Same.new' hd) ⟨d, rfl, ⟨[], upd_same, .nil, List.nodup_nil⟩⟩) fun f2 ys2 H4 s4 fH2 ef2 r2 => ⟨tm, f2, wt, ys2, rfl, rfl, s4 _ _ et, ef2, ?_, fun pz hpz => ?_⟩))))))
      · have := r2.2
        exact Nat.le_trans (show wt.length + ys2.length ≤ 1000 by omega) (by decide)
      have u5 := Same.new' (o := .lst (wt ++ ys2)) hpz
      have c2 : cnk e 2 ≤ 3 := cb 1 (by decide)
      have cg : cnk e 2 * g ≤ 3 * g := Nat.mul_le_mul_right _ c2
      have elem : ∀ n v, n < many → (wt ++ ys2)[n]? = some v → Dv (upd H4 pz (.lst (wt ++ ys2))) v (3 * g) (C n) (aS B 3) (tch X Y e n) := fun n v hn hv => by
        have eF := eqF n hn
        rcases Nat.lt_or_ge n Nt with l | l
        · rw [List.getElem?_append_left (by omega)] at hv
          exact (((att n v hv).same s4).same u5).le cg (aS_mono B1 c2) fun x y => by
            have := eF x y
            rw [if_pos l] at this
            exact this
        · rw [List.getElem?_append_right (by omega)] at hv
          obtain ⟨d, rfl, dw⟩ := r2.1.get hv
          exact ⟨d, [], rfl, dw.same u5, (fun e he => nomatch he), fun i j => Bd.zero, fun x y => by
            have := eF x y
            rw [if_neg (by omega)] at this
            exact this, fun e he => nomatch he⟩
      have xs15 : x * aS B 3 + aS B 3 ≤ 16 * aS B 3 := by
        have := Nat.mul_le_mul_right (aS B 3) (show x + 1 ≤ 16 by omega)
        rwa [Nat.succ_mul] at this
      have odp : ∃ o, H' dp = some o := by
        rcases rdL with q | ⟨o, q⟩
        · exact ⟨_, sL _ _ q⟩
        · exact ⟨_, sL _ _ q⟩
      obtain ⟨o, odp⟩ := odp
      have od5 := u5 _ _ (s4 _ _ (s3 _ _ odp))
      refine ⟨fd, pz, wf, wt ++ ys2, rfl, SqL.of (u5 _ _ (s4 _ _ ewf)), SqL.of upd_same, zipAt (R := fun n v H => Dv H v (3 * g) (C n) ((x + 1) * aS B 3) (due X Y (J.take (x + 1)) n) ∧ v ≠ V.ref dp) (fun k v H H' s ⟨a, b⟩ => ⟨a.same s, b⟩) (fun k v H D ys zs ⟨a, b⟩ e => ⟨a.offL e, b⟩) (SqL.of (u5 _ _ (s4 _ _ ewf))) (SqL.of upd_same) (by have := r2.2; rw [List.length_append]; omega) (by omega) (fun n v w T H5 hx hy s5 eT => turn_two (SqT.of eT) rfl fun Q q => ?_) fun fd2 zs H6 s6 nfd efd r6 => ?_⟩
      · have hn : n < many := by rw [← lwf]; exact (List.getElem?_eq_some_iff.mp hx).1
        refine c_dvplus (va_cons (val_var rfl) (va_cons (val_var rfl) va_nil)) ((((awf n v hx).same s4).same u5).same s5) ((elem n w hn hy).same s5) g15 ((hz n hn).le xs15) fun p H6 s6 np dv => q _ H6 s6 ⟨dv.le (Nat.le_refl _) (by rw [Nat.succ_mul]; exact Nat.le_refl _) fun x' y' => (due_take he n x' y').symm, fun z => ?_⟩
        cases z
        rw [s5 _ _ od5] at np
        cases np
      · show D'.nx _ _
        rw [hnx]
        refine ⟨_, _, _, _, _, _, fd2, rfl, off, rdL, ((((sL.trans s3).trans s4).trans u5).trans s6), ⟨zs, efd, r6.2.trans lwf, fun t v hv => by
          have := (r6.1.get hv).1
          rw [Nat.zero_add] at this
          exact this⟩, fun ws e m => ?_⟩
        rw [efd] at e
        cases e
        obtain ⟨i, hi⟩ := List.getElem?_of_mem m
        exact (r6.1.get hi).2 rfl
  · rintro HL σ H' ⟨z4, z5, z6, z7, z8, z9, fd, rfl, off, rdL, sL, lf, nf⟩ H2 h2 hd2
    have s2 : L2.Same H H2 := fun b o e => by
      have e0 := s1 _ _ e
      by_cases y : b = dp
      · rw [y, hd2, ← y]
        exact e0
      · rw [h2 b y]
        exact sL _ _ (by rw [off b y]; exact e0)
    have lf2 := lf.lock h2 (Rd.same rdL sL) nf
    rw [de1.len, List.take_length] at lf2
    exact st_ret (val_var rfl) (k fd H2 s2 (lf2.congr (fun t _ => Nat.mul_le_mul_right _ (by omega)) fun t _ x y => rfl))
end
end LW

namespace GL
open PySem PySem.Spec PyProof.Rows L2
section
variable {pg : Program} {wd : World} {KT' : Type} [DecidableEq KT'] {kd : HeapKind pg wd KT'} {Ar : Around} {XE : Value → Shared → Prop} {st : Shared}
/-- two dicts with keys in the heap, of one size, each pair of the first found in the second -/
theorem eqDicts {a b : Addr} {xs ys : List (KT' × Addr × Value)} {Q : Value → Shared → Prop} (na : (a == sysModules) = false) (nb : (b == sysModules) = false) (da : st.heap.DictOfH kd a xs) (db : st.heap.DictOfH kd b ys) (un : Ar.units < cLine) (hr : kd.room Ar.in1) (sz : xs.length = ys.length)
    (hits : ∀ x ∈ xs, ∃ (j : Nat) (p : Addr) (u : Value), ys[j]? = some (x.1, p, u) ∧ SeqAt.EqAt Ar.in1 st x.2.2 u true) (q : Q (.bool true) st) : wpAny (model pg wd) Ar (compareOp .Eq (.ref a) (.ref b)) Q XE st := by
  have ta := da.typeIs
  have tb := db.typeIs
  refine wpAny_richCompare_same_room (op := .Eq) ta tb PySem.F.slot_dict_eq ?_ un
  refine wpAny_call_entry PySem.F.slot_dict_eq ta PySem.F.entry_dict_eq ?_ (PySem.F.args_dict_eq_2 _ _)
  show wpAny _ _ (Builtin.Dict.dictSlotArgs "__eq__" ⟨[.ref a, .ref b], []⟩ >>= _) _ _ st
  unfold Builtin.Dict.dictSlotArgs
  refine wpAny_bind (wpAny_bind (wpAny_notOrdered_dict ta ?_))
  show wpAny _ _ (pure (Value.ref a, Value.ref b)) _ _ st
  refine wpAny_pure (wpAny_bind (wpAny_isInstance (T := "dict") tb PySem.F.sub_dict_dict ?_))
  simp only [Bool.not_true, Bool.false_eq_true, if_false]
  refine wpAny_bind (wpAny_pure (wpAny_bind (wpAny_pure (wpAny_bind (pairsSame na nb hr da db sz hits ?_)))))
  exact wpAny_pure ⟨_, rfl, (fun z => nomatch z), by simpa using q⟩
end
section
variable {X : Cx}
def rEqDT (K : PySem.W.Frag) : R2 := fun x y H Q => ∃ a b kvs kvs', x = .ref a ∧ y = .ref b ∧ H a = some (.dT kvs) ∧ H b = some (.dT kvs') ∧ kvs.length = kvs'.length ∧
  (∀ kv ∈ kvs, ∃ v' d, (kv.1, v') ∈ kvs' ∧ Dp K H kv.2 d ∧ Dp K H v' d ∧ SeqAt.shaped d = true ∧ PyData.eqv d d = true) ∧ Q (.bl true) H
theorem op_eqDT (hu : X.A.units + 65 < cLine) : OpR X (compareOp .Eq) (rEqDT X.K) := by
  intro pins s σ H x y v u Q I rx ry h
  obtain ⟨a, b, kvs, kvs', rfl, rfl, ea, eb, sz, al, q⟩ := h
  obtain rfl : v = Value.ref a := rx
  obtain rfl : u = Value.ref b := ry
  obtain ⟨_, ya, xs, ka, da⟩ := dt_of I.hok ea
  obtain ⟨_, yb, ys, kb, db⟩ := dt_of I.hok eb
  have l1 := ka.length
  have l2 := kb.length
  refine eqDicts (kd := tupleKind (mixKind X.prog X.w)) ya yb da db (by omega) (tupleKind_room_in1 (by omega)) (by omega) (fun z hz => ?_) ⟨.bl true, H, I, rfl, q⟩
  obtain ⟨i, hi⟩ := List.getElem?_of_mem hz
  obtain ⟨kv, hkv, e1, _, r1⟩ := pairR ka hi
  obtain ⟨v', d, mem, d1, d2, sh, eq⟩ := al kv (List.mem_of_getElem? hkv)
  obtain ⟨j, hj⟩ := List.getElem?_of_mem mem
  obtain ⟨w, hw, e2, _, r2⟩ := pairL kb hj
  obtain ⟨as, ra⟩ := Dp.reads I d _ _ d1 r1
  obtain ⟨bs, rb⟩ := Dp.reads I d _ _ d2 r2
  have at' := PySem.W.keq_at (A := X.A) ra rb sh sh (show X.A.units + 1 + 64 < cLine by omega)
  rw [eq] at at'
  refine ⟨j, w.2.1, w.2.2, ?_, at'⟩
  rw [hw, ← e1]
  exact congrArg some (Prod.ext e2.symm rfl)
end
end GL

namespace LW
open PySem PySem.Spec PyProof.Rows L2 GL
section
variable {P : Program} {w : World} {K : PySem.W.Frag} {mg : Str → Option Value} {base : Heap}
theorem pe_c0 {X : Cx} {x : Str} {st : Stmt} {ps : List Str} {sp : Sp} {k : Nat} {p pos : Pos} (d : Df X.K X.mg x st ps) (G : FnOk X.prog X.w X.K X.mg X.base CX0 k (fA X.mg x) (fDat X.K (fA X.mg x)) ps sp) (hr : Room k X.A) (hg : Gl X x := by rfl) (hdb : (x == ("__debug__" : Str)) = false := by decide) : PE X (.Call (.Name x p) [] [] pos) (tCall sp [] E0 tNil) :=
  L2.pe_call0 G hr hg d.g d.F.kp d.b .nil pass0 hdb
/-! ### the law's own check of the series -/
def spUnit (a b : Nat) : Sp := fun vs H Q _ => vs = [] ∧ ∀ (p : Addr) (H' : Hp), L2.Same H H' → DW H' p [((a, b), 1)] → Q (.ref p) H'
theorem disp_unit {σ : L2.St} {H : Hp} {a b : Nat} {Q : VK} (k : ∀ (p : Addr) (H' : Hp), L2.Same H H' → DW H' p [((a, b), 1)] → Q (.ref p) H') : tDispT [(tTup (tCons (tC (.int (a : Int))) (tCons (tC (.int (b : Int))) tNil)), tTup (tCons (tC (.int 1)) (tCons (tC (.int 1)) tNil)))] σ H Q := fun p hp => by
  have sp := Same.new' (o := .dT []) hp
  refine l_tup (va_cons val_c (va_cons val_c va_nil)) (by show 2 ≤ 100000; decide) fun k1 e1 => ?_
  have n1 := Same.new' (o := .tup [.int (a : Int), .int (b : Int)]) e1
  refine l_tup (va_cons val_c (va_cons val_c va_nil)) (by show 2 ≤ 100000; decide) fun x1 e2 => ?_
  have n2 := Same.new' (o := .tup [V.int 1, .int 1]) e2
  have ep := n2 _ _ (n1 _ _ (upd_same (H := H) (a := p) (o := .dT [])))
  refine ⟨ep, [(kN (a, b), .ref x1)], .cons ⟨⟨k1, rfl, n2 _ _ upd_same⟩, rfl⟩ .nil, by show 1 ≤ 15; decide, ?_⟩
  have tu := Tu.putT (kvs' := mergeT [] [(kN (a, b), V.ref x1)]) ep
  have nd : ([((a, b), 1)] : List En).map (·.1) |>.Nodup := by simp
  have lo : Lo (upd (upd (upd H p (.dT [])) k1 (.tup [.int (a : Int), .int (b : Int)])) x1 (.tup [V.int 1, .int 1])) x1 1 := upd_same
  exact k p _ (Same.updN ((sp.trans n1).trans n2) hp) ⟨_, upd_same, .cons ⟨rfl, x1, rfl, lo.tu tu⟩ .nil, nd⟩
theorem dicts_eq {H : Hp} {a b : Addr} {L M : List En} {Q : VK} (ha : DW H a L) (hb : DW H b M) (n1 : nz L) (n2 : nz M) (c : ∀ i j, cf L i j = cf M i j) (q : Q (.bl true) H) : GL.rEqDT K (.ref a) (.ref b) H Q := by
  obtain ⟨a', b', k1, k2, e1, e2, h1, h2, sz, al, _⟩ := dicts_ne (K := K) (Q := fun _ _ => True) ha hb n1 n2 c trivial
  exact ⟨a', b', k1, k2, e1, e2, h1, h2, sz, al, q⟩
/-- the terms as the law holds them -/
structure Tms (H : Hp) (l : Addr) (n g B : Nat) (DX : Nat → Nat) (d1 d2 : Addr) (R S U : List (List Rat)) (NX : Nat → List En) (ws : List V) : Prop where
  el : H l = some (.lst ws)
  len : ws.length = n + 1
  at_ : ∀ (t : Nat) v, ws[t]? = some v → ∃ d, v = V.ref d ∧ DW H d (NX t) ∧ ((∀ e ∈ NX t, e.1.1 + e.1.2 ≤ 15) ∧ (t < n → ∀ e ∈ NX t, e.1.1 + e.1.2 ≤ g)) ∧ BdC (DX t) B (NX t) ∧ nz (NX t) ∧ d ≠ d1 ∧ d ≠ d2
  cf : ∀ t, t ≤ n → ∀ i j, cf2 (srN R S U t) i j = LW.cf (NX t) i j
theorem Tms.same {H H' : Hp} {l : Addr} {n g B : Nat} {DX : Nat → Nat} {d1 d2 : Addr} {R S U : List (List Rat)} {NX : Nat → List En} {ws : List V} (h : Tms H l n g B DX d1 d2 R S U NX ws) (s : L2.Same H H') : Tms H' l n g B DX d1 d2 R S U NX ws := ⟨s _ _ h.el, h.len, fun t v hv => by
  obtain ⟨d, e, dw, r⟩ := h.at_ t v hv
  exact ⟨d, e, dw.same s, r⟩, h.cf⟩
theorem Tms.dl {H : Hp} {l : Addr} {n g B : Nat} {DX : Nat → Nat} {d1 d2 : Addr} {R S U : List (List Rat)} {NX : Nat → List En} {ws : List V} (h : Tms H l n g B DX d1 d2 R S U NX ws) : Dk H l (n + 1) n g DX (fun _ => B) (fun t => evL (NX t)) := ⟨ws, h.el, h.len, fun t v ht hv => by
  obtain ⟨d, e, dw, dg, bd, z, _⟩ := h.at_ t v hv
  exact ⟨d, _, e, dw, dg.2 ht, bd, fun _ _ => rfl, z⟩⟩
theorem Tms.ni1 {H : Hp} {l : Addr} {n g B : Nat} {DX : Nat → Nat} {d1 d2 : Addr} {R S U : List (List Rat)} {NX : Nat → List En} {ws : List V} (h : Tms H l n g B DX d1 d2 R S U NX ws) (k : Nat) : ∀ ws', H l = some (.lst ws') → V.ref (if k = 0 then d1 else d2) ∉ ws' := fun ws' e m => by
  rw [h.el] at e
  cases e
  obtain ⟨i, hi⟩ := List.getElem?_of_mem m
  obtain ⟨d, e, _, _, _, _, n1, n2⟩ := h.at_ i _ hi
  split at e
  · cases e; exact n1 rfl
  · cases e; exact n2 rfl
def spSolves : Sp := fun vs H Q _ => ∃ (f lr l0 l1 d1 d2 : Addr) (J1 J2 : List En) (R S : List (List Rat)) (NX NY : Nat → List En) (ws0 ws1 : List V) (n g B : Nat) (C DX : Nat → Nat), vs = [.ref f, .ref lr] ∧ H f = some (.tup [.ref d1, .ref d2]) ∧ DW H d1 J1 ∧ DW H d2 J2 ∧ H lr = some (.lst [.ref l0, .ref l1]) ∧ Tms H l0 n g B DX d1 d2 R S uX NX ws0 ∧ Tms H l1 n g B DX d1 d2 R S uY NY ws1 ∧
  (∀ i j, cf2 R i j = cf J1 i j) ∧ (∀ i j, cf2 S i j = cf J2 i j) ∧ n ≤ 6 ∧ 3 * g ≤ 15 ∧ 1 ≤ B ∧ (∀ e ∈ J1, e.1.1 + e.1.2 ≤ 3 ∧ Bd (C 0) 2 e.2) ∧ (∀ e ∈ J2, e.1.1 + e.1.2 ≤ 3 ∧ Bd (C 0) 2 e.2) ∧ J1.length ≤ 15 ∧ J2.length ≤ 15 ∧ (∀ i j, i + j < n → 0 < C i ∧ 0 < DX j ∧ C i * DX j ∣ C (i + j)) ∧ (∀ i, i < n → Fz (C i) (16 * aS B 3)) ∧ (∀ i, i ≤ n → Fz (DX i) B) ∧ ∀ H', L2.Same H H' → Q (.bl true) H'
theorem ok_law_x (T : Txt K mg) : FnOk P w K mg base CX0 1 (fA mg "_law_x") (fDat K (fA mg "_law_x")) [] (spUnit 1 0) := by
  refine T._law_x.F.ok sc_law_x (fun vs H Q E h => ?_) (fun cdv A outer s H vs Q E hr h => ?_)
  · obtain ⟨rfl, _⟩ := h
    rfl
  obtain ⟨rfl, k⟩ := h
  refine ⟨_, (pss_one (ps_ret (pe_dispT (hu64 hr) (pps_cons (pe_tup (pa_cons pe_int (pa_cons pe_int pa_nil))) (pe_tup (pa_cons pe_int (pa_cons pe_int pa_nil))) pps_nil) (by rfl) (by rfl) (fun z => by cases z) (by decide)))), ?_⟩
  exact r_ret (disp_unit k)
theorem ok_law_y (T : Txt K mg) : FnOk P w K mg base CX0 1 (fA mg "_law_y") (fDat K (fA mg "_law_y")) [] (spUnit 0 1) := by
  refine T._law_y.F.ok sc_law_y (fun vs H Q E h => ?_) (fun cdv A outer s H vs Q E hr h => ?_)
  · obtain ⟨rfl, _⟩ := h
    rfl
  obtain ⟨rfl, k⟩ := h
  refine ⟨_, (pss_one (ps_ret (pe_dispT (hu64 hr) (pps_cons (pe_tup (pa_cons pe_int (pa_cons pe_int pa_nil))) (pe_tup (pa_cons pe_int (pa_cons pe_int pa_nil))) pps_nil) (by rfl) (by rfl) (fun z => by cases z) (by decide)))), ?_⟩
  exact r_ret (disp_unit k)
theorem ok_law_solves (T : Txt K mg) : FnOk P w K mg base CX0 10 (fA mg "_law_solves") (fDat K (fA mg "_law_solves")) ["_law_f", "_law_rows"] spSolves := by
  have G_law_row_of := ok_law_row_of (P := P) (w := w) (base := base) T
  have G_law_v_scaled := ok_law_v_scaled (P := P) (w := w) (base := base) T
  have G_law_x := ok_law_x (P := P) (w := w) (base := base) T
  have G_law_y := ok_law_y (P := P) (w := w) (base := base) T
  refine T._law_solves.F.ok sc_law_solves (fun vs H Q E h => ?_) (fun cdv A outer s H vs Q E hr h => ?_)
  · obtain ⟨f, lr, l0, l1, d1, d2, J1, J2, R, S, NX, NY, ws0, ws1, n, g, B, C, DX, rfl, _⟩ := h
    rfl
  obtain ⟨f, lr, l0, l1, d1, d2, J1, J2, R, S, NX, NY, ws0, ws1, n, g, B, C, DX, rfl, ef, D1, D2, er, M0, M1, cR, cS, n6, g15, B1, hJ1, hJ2, len1, len2, hD, hz, hx, k⟩ := h
  refine ⟨_, (pss_cons (ps_set (i := 2) sc_law_solves.nd rfl (Or.inl rfl) (pe_op op_sub (pe_callB call_len_seq (by rfl) T.len PySem.boot_len (pa_cons (pe_ix ix_list (pv 1) pe_int (fun _ _ => rfl)) pa_nil)) pe_int))
  (pss_cons (ps_for PassesOwn.never rfl (pi_range1 (by rfl) T.range (pa_cons pe_int pa_nil)) (pg_name (i := 3) sc_law_solves.nd rfl (Or.inl rfl))
  (pss_cons (ps_set (i := 4) sc_law_solves.nd rfl (Or.inl rfl) (pe_c T._law_row_of G_law_row_of (hr.mono (by decide)) (pa_cons (pe_ix ix_tup (pv 0) (pv 3) (fun _ _ => rfl)) (pa_cons (pv 1) (pa_cons (pv 2) pa_nil)))))
  (pss_one (ps_for PassesOwn.never rfl (pi_range1 (by rfl) T.range (pa_cons (pv 2) pa_nil)) (pg_name (i := 5) sc_law_solves.nd rfl (Or.inl rfl))
  (pss_one (ps_if (pt_cmpR (GL.op_neDT (hu65 hr)) (pe_c T._law_v_scaled G_law_v_scaled (hr.mono (by decide)) (pa_cons (pe_ix ix_list (pe_ix ix_list (pv 1) (pv 3) (fun _ _ => rfl)) (pe_op op_add (pv 5) pe_int) (fun _ _ => rfl)) (pa_cons (pe_tup (pa_cons (pe_op op_add (pv 5) pe_int) (pa_cons pe_int pa_nil))) pa_nil))) (pe_ix ix_list (pv 4) (pv 5) (fun _ _ => rfl)) (nomark _)) (pss_one (ps_ret pe_bl)) pss_nil))))))
  (pss_one (ps_ret (pe_and (pe_cmpR (GL.op_eqDT (hu65 hr)) (pe_ix ix_list (pe_ix ix_list (pv 1) pe_int (fun _ _ => rfl)) pe_int (fun _ _ => rfl)) (pe_c0 T._law_x G_law_x (hr.mono (by decide))) (nomark _)) (pe_one (pe_cmpR (GL.op_eqDT (hu65 hr)) (pe_ix ix_list (pe_ix ix_list (pv 1) pe_int (fun _ _ => rfl)) pe_int (fun _ _ => rfl)) (pe_c0 T._law_y G_law_y (hr.mono (by decide))) (nomark _)))))))), ?_⟩
  have pick : ∀ i, i < 2 → ∃ (di li : Addr) (Ji : List En) (U : List (List Rat)) (Ni : Nat → List En) (wi : List V), ([V.ref d1, .ref d2] : List V)[i]? = some (.ref di) ∧ ([V.ref l0, .ref l1] : List V)[i]? = some (.ref li) ∧ DW H di Ji ∧ Tms H li n g B DX d1 d2 R S U Ni wi ∧ (∀ e ∈ Ji, e.1.1 + e.1.2 ≤ 3 ∧ Bd (C 0) 2 e.2) ∧ Ji.length ≤ 15 ∧ (∀ ws', H l0 = some (.lst ws') → V.ref di ∉ ws') ∧ (∀ ws', H l1 = some (.lst ws') → V.ref di ∉ ws') ∧
      ∀ k, k < n → ∀ x y, ((k + 1 : Nat) : Rat) * evL (Ni (k + 1)) x y = due (fun k => evL (NX k)) (fun k => evL (NY k)) Ji k x y := fun i hi => by
    have sv : ∀ k, k < n → ∀ x y, ((k + 1 : Nat) : Rat) * evL (NX (k + 1)) x y = due (fun k => evL (NX k)) (fun k => evL (NY k)) J1 k x y ∧ ((k + 1 : Nat) : Rat) * evL (NY (k + 1)) x y = due (fun k => evL (NX k)) (fun k => evL (NY k)) J2 k x y := fun k hk x y => by
      obtain ⟨m, rfl⟩ : ∃ m, n = m + 1 := ⟨n - 1, by omega⟩
      exact solves_val cR cS M0.cf M1.cf k (by omega) x y
    match i with
    | 0 => exact ⟨d1, l0, J1, uX, NX, ws0, rfl, rfl, D1, M0, hJ1, len1, M0.ni1 0, M1.ni1 0, fun k hk x y => (sv k hk x y).1⟩
    | 1 => exact ⟨d2, l1, J2, uY, NY, ws1, rfl, rfl, D2, M1, hJ2, len2, M0.ni1 1, M1.ni1 1, fun k hk x y => (sv k hk x y).2⟩
    | i + 2 => omega
  refine q_asg ((Val.is (w := .int (n : Int)) (v_sub (v_lenW (n := n + 1) (v_ixL (n := 0) (v := .ref l0) (val_var rfl) val_c (SqL.of er) rfl) M0.el M0.len) val_c) (by congr 1; omega)) _ ?_)
  refine q_forR1 (n := 2) (va_cons val_c va_nil) (by decide) (fun i σ H3 => ∃ (z3 z4 z5 : Option V), σ = [some (.ref f), some (.ref lr), some (.int (n : Int)), z3, z4, z5] ∧ L2.Same H H3) ⟨_, _, _, rfl, Same.refl _⟩ (fun i σ H3 hi z => ?_) (fun σ H3 z => ?_)
  · obtain ⟨z3, z4, z5, rfl, s3⟩ := z
    obtain ⟨di, li, Ji, U, Ni, wi, fx, lx, Di, Mi, hJi, leni, n0, n1, val⟩ := pick i hi
    have nis : ∀ {l : Addr} {N : Nat → List En} {U : List (List Rat)} {ws : List V}, Tms H l n g B DX d1 d2 R S U N ws → (∀ ws', H l = some (.lst ws') → V.ref di ∉ ws') → ∀ ws', H3 l = some (.lst ws') → V.ref di ∉ ws' := fun M h ws' e => by
      rw [s3 _ _ M.el] at e
      cases e
      exact h _ M.el
    refine g_name (q_asg (c_call (va_cons (v_ixT (n := i) (v := .ref di) (val_var rfl) (val_var rfl) (SqT.of (s3 _ _ ef)) fx) (va_cons (val_var rfl) (va_cons (val_var rfl) va_nil))) ⟨di, lr, l0, l1, Ji, n, n + 1, g, B, C, DX, fun t => evL (NX t), fun t => evL (NY t), rfl, Di.same s3, s3 _ _ er, (M0.same s3).dl, (M1.same s3).dl, nis M0 n0, nis M1 n1, n6, by omega, by omega, g15, B1, hJi, leni, hD, hz, fun l H4 s4 dl => ?_⟩))
    have S4 := s3.trans s4
    obtain ⟨wd, ed, lnd, atd⟩ := dl
    refine st_forR1 (n := n) (va_cons (val_var rfl) va_nil) (by omega) (fun j σ H5 => ∃ (z5 : Option V), σ = [some (.ref f), some (.ref lr), some (.int (n : Int)), some (.int (i : Int)), some (.ref l), z5] ∧ L2.Same H4 H5) ⟨_, rfl, Same.refl _⟩ (fun j σ H5 hj z => ?_) (fun σ H5 z => ?_)
    · obtain ⟨z5, rfl, s5⟩ := z
      have S5 := S4.trans s5
      obtain ⟨v, hv⟩ : ∃ v, wi[j + 1]? = some v := ⟨_, List.getElem?_eq_getElem (by rw [Mi.len]; omega)⟩
      obtain ⟨u, hu⟩ : ∃ v, wd[j]? = some v := ⟨_, List.getElem?_eq_getElem (by omega)⟩
      obtain ⟨a, rfl, dwa, dga, bda, nza, _⟩ := Mi.at_ _ _ hv
      obtain ⟨b, L, rfl, dwb, dgb, bdb, vlb, nzb⟩ := atd _ _ hu
      have ba := bx_of dga.1 (Nat.le_refl _)
      refine g_name (st_cmp (call_1 ((v_ixL (n := j + 1) (v := .ref a) (v_ixL (n := i) (v := .ref li) (val_var rfl) (val_var rfl) (SqL.of (S5 _ _ er)) lx) (show Val _ _ _ (.int ((j : Int) + 1)) from v_add (val_var rfl) val_c) (SqL.of (S5 _ _ Mi.el)) hv) _ (va_1 (l_tup (va_cons (show Val _ _ _ (.int ((j : Int) + 1)) from v_add (val_var rfl) val_c) (va_cons val_c va_nil)) (by show 2 ≤ 100000; decide) fun t ht => ?_)))))
      have u6 := Same.new' (o := .tup [V.int ((j : Int) + 1), .int 1]) ht
      have lo : Lo (upd H5 t (.tup [V.int ((j : Int) + 1), .int 1])) t ((j + 1 : Nat) : Rat) := upd_same
      have sq : Sm 10 ((j + 1 : Nat) : Rat) := ⟨by show (j + 1 : Nat) < 2 ^ 10; exact Nat.lt_of_lt_of_le (show j + 1 < 8 by omega) (by decide), by show 1 < 2 ^ 10; decide⟩
      refine ⟨a, t, Ni (j + 1), _, 1000, 10, rfl, ((dwa.same S5).same u6).dp, lo, sq, Nat.le_trans (en_len dwa.nd ba) (by decide), bda.sm (hx _ (by omega)), Nat.le_refl _, by decide, fun p H6 M s6 np dwM cfM kM lM => ?_⟩
      refine (v_ixL (n := j) (v := .ref b) (val_var rfl) (val_var rfl) (SqL.of (s6 _ _ (u6 _ _ (s5 _ _ ed)))) hu) _ (dicts_ne dwM (((dwb.same s5).same u6).same s6) (fun e he => (kM e he).2) nzb (fun i' j' => same_vals (fun x y => ?_) i' j') ⟨false, rfl, ?_⟩)
      · rw [ev_scaled cfM, vlb, ← val j hj, Rat.mul_comm]
      · exact iteF ⟨_, rfl, (s5.trans u6).trans s6⟩
    · obtain ⟨z5, rfl, s5⟩ := z
      exact ⟨_, _, _, rfl, S4.trans s5⟩
  · obtain ⟨z3, z4, z5, rfl, s3⟩ := z
    obtain ⟨v0, hv0⟩ : ∃ v, ws0[0]? = some v := ⟨_, List.getElem?_eq_getElem (by rw [M0.len]; omega)⟩
    obtain ⟨v1, hv1⟩ : ∃ v, ws1[0]? = some v := ⟨_, List.getElem?_eq_getElem (by rw [M1.len]; omega)⟩
    obtain ⟨a0, rfl, da0, _, _, na0, _⟩ := M0.at_ _ _ hv0
    obtain ⟨a1, rfl, da1, _, _, na1, _⟩ := M1.at_ _ _ hv1
    have nu : ∀ a b : Nat, nz [((a, b), 1)] := fun a b e he => by
      simp only [List.mem_cons, List.not_mem_nil, or_false] at he
      rw [he]
      show (1 : Rat) ≠ 0
      decide
    refine r_ret ?_
    refine (v_ixL (n := 0) (v := .ref a0) (v_ixL (n := 0) (v := .ref l0) (val_var rfl) val_c (SqL.of (s3 _ _ er)) rfl) val_c (SqL.of (s3 _ _ M0.el)) hv0) _ ⟨rfl, fun p H4 s4 dw => dicts_eq ((da0.same s3).same s4) dw na0 (nu 1 0) (fun i j => by rw [← M0.cf 0 (Nat.zero_le _), cf_single]; exact cf_uX i j) ⟨_, rfl, iteT ?_⟩⟩
    refine (v_ixL (n := 0) (v := .ref a1) (v_ixL (n := 1) (v := .ref l1) (val_var rfl) val_c (SqL.of (s4 _ _ (s3 _ _ er))) rfl) val_c (SqL.of (s4 _ _ (s3 _ _ M1.el))) hv1) _ ⟨rfl, fun p2 H5 s5 dw2 => dicts_eq (((da1.same s3).same s4).same s5) dw2 na1 (nu 0 1) (fun i j => by rw [← M1.cf 0 (Nat.zero_le _), cf_single]; exact cf_uY i j) (k _ ((s3.trans s4).trans s5))⟩
end
end LW

namespace LW
open PySem PySem.Spec PyProof.Rows L2 GL
/-! ### sizes: bottoms with factorials -/
def fc : Nat → Nat
  | 0 => 1
  | n + 1 => (n + 1) * fc n
def bn : Nat → Nat → Nat
  | 0, _ => 1
  | _ + 1, 0 => 1
  | i + 1, j + 1 => bn i (j + 1) + bn (i + 1) j
theorem fc_bn : ∀ n i j : Nat, i + j = n → fc (i + j) = bn i j * (fc i * fc j)
  | n, 0, j, _ => by
    rw [Nat.zero_add]
    cases j <;> (unfold bn fc; omega)
  | n, i + 1, 0, _ => by
    show fc (i + 1) = bn (i + 1) 0 * (fc (i + 1) * 1)
    unfold bn
    omega
  | 0, i + 1, j + 1, h => by omega
  | n + 1, i + 1, j + 1, h => by
    have h1 := fc_bn n i (j + 1) (by omega)
    have h2 := fc_bn n (i + 1) j (by omega)
    rw [show bn (i + 1) (j + 1) = bn i (j + 1) + bn (i + 1) j by rw [bn]]
    show (i + 1 + j + 1) * fc (i + 1 + j) = (bn i (j + 1) + bn (i + 1) j) * (((i + 1) * fc i) * ((j + 1) * fc j))
    have e1 : fc (i + 1 + j) = bn i (j + 1) * (fc i * ((j + 1) * fc j)) := by
      rw [show i + 1 + j = i + (j + 1) by omega, h1]
      rfl
    have e2 : fc (i + 1 + j) = bn (i + 1) j * (((i + 1) * fc i) * fc j) := h2
    rw [show (i + 1 + j + 1) = (i + 1) + (j + 1) by omega, Nat.add_mul (i + 1) (j + 1), Nat.add_mul (bn i (j + 1)) (bn (i + 1) j)]
    have f1 : (i + 1) * fc (i + 1 + j) = bn i (j + 1) * ((i + 1) * fc i * ((j + 1) * fc j)) := by rw [e1]; grind
    have f2 : (j + 1) * fc (i + 1 + j) = bn (i + 1) j * ((i + 1) * fc i * ((j + 1) * fc j)) := by rw [e2]; grind
    rw [f1, f2]
theorem fc_dvd (i j : Nat) : fc i * fc j ∣ fc (i + j) := ⟨bn i j, by rw [fc_bn (i + j) i j rfl, Nat.mul_comm]⟩
theorem fc_pos : ∀ n, 0 < fc n
  | 0 => Nat.one_pos
  | n + 1 => Nat.mul_pos (Nat.succ_pos n) (fc_pos n)
def dX (D n : Nat) : Nat := D ^ n * fc n
def dC (D n : Nat) : Nat := D * (D ^ n * fc n)
theorem dC_dvd {D : Nat} (i j : Nat) : dC D i * dX D j ∣ dC D (i + j) := by
  unfold dC dX
  rw [Nat.mul_assoc]
  refine Nat.mul_dvd_mul_left D ?_
  rw [Nat.pow_add, show D ^ i * fc i * (D ^ j * fc j) = D ^ i * D ^ j * (fc i * fc j) by grind]
  exact Nat.mul_dvd_mul_left _ (fc_dvd i j)
theorem szN_dX (D M d : Nat) : ∀ n, (szN D M d n).1 = dX D n
  | 0 => by show 1 = D ^ 0 * 1; rw [Nat.pow_zero]
  | n + 1 => by
    show (n + 1) * (D * (szN D M d n).1) = D ^ (n + 1) * ((n + 1) * fc n)
    rw [szN_dX D M d n, Nat.pow_succ]
    unfold dX
    grind
end LW

namespace LW
open PySem PySem.Spec PyProof.Rows L2 GL
/-! ### the sizes of the drawn fields' series -/
def fzB (D M : Nat) : Bool := decide (0 < D) && decide (D < 2 ^ 1000) && decide (M * D < 2 ^ 1000)
theorem fz_of {D M : Nat} (h : fzB D M = true) : Fz D M := by
  unfold fzB at h
  simp only [Bool.and_eq_true, decide_eq_true_iff] at h
  exact ⟨h.1.1, h.1.2, h.2⟩
def okN (D M d k n : Nat) : Bool := fzB D M && fzB (szN D M d k).1 (szN D M d k).2.1 && fzB (szN D M d k).1 ((szN D M d k).2.2 * (szN D M d k).2.1) && fzB (D * (szN D M d k).1) (2 ^ n * (M * ((szN D M d k).2.2 * (szN D M d k).2.1))) && fzB (D * (szN D M d k).1) (lieM d M (szN D M d k).2.2 (szN D M d k).2.1)
  && fzB ((k + 1) * (D * (szN D M d k).1)) (2 ^ 1 * (1 * lieM d M (szN D M d k).2.2 (szN D M d k).2.1)) && decide ((d + 1) * (d + 1) + 1 ≤ 2 ^ n) && decide (n ≤ 12) && decide (d ≤ 60) && decide ((szN D M d k).2.2 ≤ 200)
theorem szn_of {D M d k n : Nat} (h : okN D M d k n = true) : SzN D M d k := by
  unfold okN at h
  simp only [Bool.and_eq_true, decide_eq_true_iff] at h
  obtain ⟨⟨⟨⟨⟨⟨⟨⟨⟨h1, h2⟩, h3⟩, h4⟩, h5⟩, h6⟩, h7⟩, h8⟩, h9⟩, hA⟩ := h
  exact ⟨⟨fz_of h1, fz_of h2, fz_of h3, ⟨n, h7, h8, fz_of h4⟩, fz_of h5, h9, hA⟩, fz_of h6⟩
theorem szn1 : ∀ i, i < 6 → SzN L9 2 1 i := fun i hi => szn_of (n := 3) (by
  have : ∀ i, i < 6 → okN L9 2 1 i 3 = true := by decide +kernel
  exact this i hi)
theorem szn2 : ∀ i, i < 4 → SzN L9 2 2 i := fun i hi => szn_of (n := 4) (by
  have : ∀ i, i < 4 → okN L9 2 2 i 4 = true := by decide +kernel
  exact this i hi)
theorem szn3 : ∀ i, i < 3 → SzN L9 2 3 i := fun i hi => szn_of (n := 5) (by
  have : ∀ i, i < 3 → okN L9 2 3 i 5 = true := by decide +kernel
  exact this i hi)
end LW

namespace L2
open PySem PySem.Spec PyProof.Rows
section
variable {X : Cx}
/-- a key and its value in a tuple of two, the key a tuple -/
def PairT (K : PySem.W.Frag) (H : Hp) (p : Addr) (kv : List Key × V) : Prop := ∃ b, SqT K H p [.ref b, kv.2] ∧ H b = some (.tup (kv.1.map kV))
theorem pairsT_of {pins : List (Addr × Obj)} {σ : St} {H : Hp} {s : Shared} (I : Inv X pins σ H s) : ∀ {ps : List Addr} {kvs : List (List Key × V)}, Paired (PairT X.K H) ps kvs →
    ∃ rs : List (List Key × Addr × Value), KT H kvs rs ∧ rs.length = ps.length ∧ ∀ (j : Nat) q, rs[j]? = some q → ∃ (p : Addr), ps[j]? = some p ∧ IsTup s.heap p #[.ref q.2.1, q.2.2] ∧ (tupleKind (mixKind X.prog X.w)).is s.heap q.1 q.2.1
  | _, _, .nil => ⟨[], .nil, rfl, fun j q e => by simp at e⟩
  | _, _, .cons (a := p) (b := kv) h t => by
    obtain ⟨b, hp, hb⟩ := h
    obtain ⟨rs, r, hl, hh⟩ := pairsT_of I t
    obtain ⟨its, rv, ht, _⟩ := I.tuple hp
    obtain ⟨u, y, ei, ru, ry⟩ := vals2 rv
    subst ei
    cases (show u = Value.ref b from ru)
    refine ⟨(kv.1, b, y) :: rs, .cons ⟨rfl, hb, ry⟩ r, by rw [List.length_cons, List.length_cons, hl], fun j q e => ?_⟩
    cases j with
    | zero =>
      have e' : (kv.1, b, y) = q := Option.some.inj e
      subst e'
      exact ⟨p, rfl, ht, key_of I.hok hb⟩
    | succ j =>
      obtain ⟨b, e1, e2⟩ := hh j q (by simpa using e)
      exact ⟨b, by simpa using e1, e2⟩
/-- dict(xs) of a list of pairs (key, value), the keys tuples -/
def rDictPT (K : PySem.W.Frag) : List V → Hp → VK → Prop := fun xs H Q => ∃ (a : Addr) (ps : List Addr) (kvs : List (List Key × V)), xs = [.ref a] ∧ SqL K H a (ps.map V.ref) ∧ Paired (PairT K H) ps kvs ∧
  ∀ p, H p = none → Q (.ref p) (upd H p (.dT (mergeT [] kvs)))
theorem cr_dictPT (hcalm : X.calm = true) (hu : X.A.units + 65 < cLine) : CallR X (.type "dict") (rDictPT X.K) := by
  intro pins s σ H xs us Q I r q
  obtain ⟨a, ps, kvs, rfl, hq, hp, q⟩ := q
  obtain ⟨u, rfl, rx⟩ := r.one
  cases rx
  obtain ⟨its, rv, pl, hz⟩ := I.list hq
  have ei := refs_at rv
  subst ei
  rw [List.length_map] at hz
  obtain ⟨rs, rel, hl, hpr⟩ := pairsT_of I hp
  obtain ⟨o, n, ho, hc, hd, hdat⟩ := pl
  have hm : (s.heap.objs.size == sysModules) = false := beq_eq_false_iff_ne.mpr (Nat.ne_of_gt I.big)
  have lps : (rs.map fun x => ((Value.ref x.2.1, x.2.2) : Value × Value)).length = rs.length := List.length_map _
  refine call_dict_pairsH (knd := tupleKind (mixKind X.prog X.w)) (ps := rs) (PairArg.list a _ (fun j => (ps[j]?).getD 0) (rs.map fun x => (Value.ref x.2.1, x.2.2))) (I.ok.hd hcalm) (show X.A.units + 2 < cLine by omega) ⟨⟨o, n, ho, hc, hd, hdat⟩, ?_, fun j k v e => ?_⟩ ⟨?_, fun i key v e => ?_⟩ (fun h' hk x hx => ?_) (by rw [lps, hl]; exact hz) fun h' tk hd' hk => ?_
  · rw [lps, hl]; simp
  · rw [List.getElem?_map] at e
    obtain ⟨x, hx, e2⟩ := Option.map_eq_some_iff.mp e
    obtain ⟨p, e3, e4, e5⟩ := hpr j x hx
    cases e2
    refine ⟨?_, .inl ?_⟩
    · simp [e3]
    · dsimp only
      rw [e3]
      obtain ⟨o, ho, hc, n, hd⟩ := e4
      exact ⟨o, ho, hc, n, hd⟩
  · rw [lps]
  · have e : (rs.map fun x => ((Value.ref x.2.1, x.2.2) : Value × Value))[i]? = some (key, v) := e
    rw [List.getElem?_map] at e
    obtain ⟨x, hx, e2⟩ := Option.map_eq_some_iff.mp e
    cases e2
    exact ⟨x.1, x.2.1, hx, rfl⟩
  · obtain ⟨j, hj⟩ := List.getElem?_of_mem hx
    obtain ⟨p, e3, e4, e5⟩ := hpr j x hj
    exact tupleKind_stays.stays (fun b ob vs m e _ => hk b ob (Nat.ne_of_lt (Heap.lt_size e)) (fun z => nomatch z) e) e5
  · have hz' : (mergeT [] kvs).length ≤ sizeLine := by
      have h1 := length_mergeT kvs []
      have h2 := Paired.length rel
      rw [List.length_nil] at h1
      omega
    have fr := I.hok.fresh (Nat.le_refl s.heap.objs.size)
    have rk : KT H (mergeT [] kvs) (storedAllH [] rs) := rel.merge .nil
    obtain ⟨oo, es, ep, h1, h2, h3, h4, h5, h6⟩ := id hd'
    exact ⟨.ref s.heap.objs.size, upd H s.heap.objs.size (.dT (mergeT [] kvs)), I.laid (t' := tk) (fun b o e => hk b o (fun z => nomatch z) e) (Nat.le_refl _)
      (show ObjOk X.prog X.w _ _ _ (.dT (mergeT [] kvs)) from ⟨hz', hm, storedAllH [] rs, rk.keeps fun b ys e => by rw [upd_ne (ne_of_none e fr)]; exact e, oo, es, ep, h1, h2, h3, h4, h6⟩), rfl, q _ fr⟩
end
end L2

namespace LW
open PySem PySem.Spec PyProof.Rows L2 GL
section
variable {P : Program} {w : World} {K : PySem.W.Frag} {mg : Str → Option Value} {base : Heap}
/-! ### a dict of a list of pairs -/
theorem putK_new {kvs : List (List Key × V)} {k : List Key} {v : V} (h : k ∉ kvs.map (·.1)) : putK kvs k v = kvs ++ [(k, v)] := by
  have e : (kvs.any fun kv => decide (kv.1 = k)) = false := by
    rw [List.any_eq_false]
    intro kv hkv z
    exact h (List.mem_map.mpr ⟨kv, hkv, of_decide_eq_true z⟩)
  unfold putK
  rw [e]
  rfl
theorem mergeT_new : ∀ (more kvs : List (List Key × V)), ((kvs ++ more).map (·.1)).Nodup → mergeT kvs more = kvs ++ more
  | [], kvs, _ => (List.append_nil kvs).symm
  | kv :: more, kvs, h => by
    show mergeT (putK kvs kv.1 kv.2) more = _
    have h' : ((kvs ++ [kv] ++ more).map (·.1)).Nodup := by rw [List.append_assoc]; exact h
    have nk : kv.1 ∉ kvs.map (·.1) := fun z => by
      rw [List.map_append, List.map_cons] at h
      exact (List.nodup_append.mp h).2.2 _ z _ (List.mem_cons_self ..) rfl
    rw [putK_new nk, mergeT_new more _ h', List.append_assoc]
    rfl
def enL (pos : Nat → Nat × Nat) : Nat → List Rat → List En
  | _, [] => []
  | n, x :: xs => (pos n, x) :: enL pos (n + 1) xs
def kvL (pos : Nat → Nat × Nat) : Nat → List V → List (List Key × V)
  | _, [] => []
  | n, u :: us => (kN (pos n), u) :: kvL pos (n + 1) us
theorem enL_mem {pos : Nat → Nat × Nat} {e : En} : ∀ {xs : List Rat} {n : Nat}, e ∈ enL pos n xs → e.2 ∈ xs ∧ ∃ k, n ≤ k ∧ k < n + xs.length ∧ e.1 = pos k
  | x :: xs, n, h => by
    rcases List.mem_cons.mp h with rfl | h
    · exact ⟨List.mem_cons_self .., n, Nat.le_refl _, by rw [List.length_cons]; omega, rfl⟩
    · obtain ⟨a, k, b, c, d⟩ := enL_mem h
      exact ⟨List.mem_cons_of_mem _ a, k, by omega, by rw [List.length_cons]; omega, d⟩
theorem enL_len {pos : Nat → Nat × Nat} : ∀ {xs : List Rat} {n : Nat}, (enL pos n xs).length = xs.length
  | [], _ => rfl
  | x :: xs, n => congrArg (· + 1) (enL_len (xs := xs))
theorem enL_nd {pos : Nat → Nat × Nat} (inj : ∀ i j, pos i = pos j → i = j) : ∀ {xs : List Rat} {n : Nat}, ((enL pos n xs).map (·.1)).Nodup
  | [], _ => List.nodup_nil
  | x :: xs, n => List.nodup_cons.mpr ⟨fun z => by
    obtain ⟨e, he, ee⟩ := List.mem_map.mp z
    obtain ⟨_, k, a, b, c⟩ := enL_mem he
    have := inj k n (c.symm.trans ee)
    omega, enL_nd inj⟩
theorem kvL_en {H : Hp} {pos : Nat → Nat × Nat} : ∀ {us : List V} {xs : List Rat} {n : Nat}, All2 (fun v q => ∃ p, v = .ref p ∧ Lo H p q) us xs → All2 (EnOk H) (kvL pos n us) (enL pos n xs)
  | _, _, _, .nil => .nil
  | _, _, _, .cons ⟨p, e, lo⟩ t => .cons ⟨rfl, p, e, lo⟩ (kvL_en t)
theorem kvL_keys {H : Hp} {pos : Nat → Nat × Nat} : ∀ {us : List V} {xs : List Rat} {n : Nat}, All2 (fun v q => ∃ p, v = V.ref p ∧ Lo H p q) us xs → (kvL pos n us).map (·.1) = (enL pos n xs).map fun e => kN e.1
  | _, _, _, .nil => rfl
  | _, _, _, .cons _ t => by
    show _ :: _ = _ :: _
    rw [kvL_keys t]
theorem nd_kN {L : List En} (h : (L.map (·.1)).Nodup) : (L.map fun e => kN e.1).Nodup := by
  induction L with
  | nil => exact List.nodup_nil
  | cons e L ih =>
    have h : (e.1 :: L.map (·.1)).Nodup := h
    show (kN e.1 :: L.map fun e => kN e.1).Nodup
    have h' := List.nodup_cons.mp h
    refine List.nodup_cons.mpr ⟨fun z => ?_, ih h'.2⟩
    obtain ⟨a, ha, ea⟩ := List.mem_map.mp z
    exact h'.1 (List.mem_map.mpr ⟨a, ha, kN_inj ea⟩)
/-- what the list of pairs holds, one after another -/
def PrF (pos : Nat → Nat × Nat) (us : List V) (k : Nat) (v : V) (H : Hp) : Prop := ∃ t b u, v = .ref t ∧ H t = some (.tup [.ref b, u]) ∧ us[k]? = some u ∧ H b = some (.tup [.int ((pos k).1 : Int), .int ((pos k).2 : Int)])
theorem prf_st {pos : Nat → Nat × Nat} {us : List V} (k : Nat) : Stays (PrF pos us k) := fun _ _ _ s ⟨t, b, u, e1, e2, e3, e4⟩ => ⟨t, b, u, e1, s _ _ e2, e3, s _ _ e4⟩
theorem prf_off {pos : Nat → Nat × Nat} {us : List V} : Off (PrF pos us) := fun k v H D ys zs ⟨t, b, u, e1, e2, e3, e4⟩ hD => ⟨t, b, u, e1, by rw [upd_ne (ne_of e2 hD (by intro z; cases z))]; exact e2, e3, by rw [upd_ne (ne_of e4 hD (by intro z; cases z))]; exact e4⟩
theorem run_pairs {H : Hp} {pos : Nat → Nat × Nat} {us : List V} : ∀ {ys ws : List V} {k : Nat}, ys.length = ws.length → us.drop k = ws → Run (PrF pos us) k ys H → ∃ ps : List Addr, ys = ps.map V.ref ∧ Paired (PairT K H) ps (kvL pos k ws)
  | [], [], _, _, _, _ => ⟨[], rfl, .nil⟩
  | [], _ :: _, _, h, _, _ => by cases h
  | _ :: _, [], _, h, _, _ => by cases h
  | y :: ys, w :: ws, k, h, d, ⟨⟨t, b, u, e1, e2, e3, e4⟩, r⟩ => by
    have hk : us[k]? = some w := by
      have := congrArg (fun l => l[0]?) d
      simp only [List.getElem?_drop, Nat.add_zero] at this
      rw [this]
      rfl
    have d2 : us.drop (k + 1) = ws := by
      have := congrArg (List.drop 1) d
      rw [List.drop_drop] at this
      exact this
    obtain ⟨ps, ep, al⟩ := run_pairs (by rw [List.length_cons, List.length_cons] at h; omega) d2 r
    rw [e3] at hk
    cases hk
    exact ⟨t :: ps, by rw [ep, e1]; rfl, .cons ⟨b, SqT.of e2, e4⟩ al⟩
/-- [.. for i, x in enumerate(xs)] -/
theorem l_lcE {σ : L2.St} {H : Hp} {ta : TA} {g : TG} {te : TE} {vs : List Nat} {Q : VK} {a : Addr} {xs : List V} {R : Nat → V → Hp → Prop} (st : ∀ k, Stays (R k)) (of : Off R) (h : VA ta σ H [.ref a]) (hx : H a = some (.lst xs)) (hn : xs.length ≤ 10000)
    (hs : ∀ (i : Nat) x T H1, xs[i]? = some x → Same H H1 → SqT K H1 T [.int (i : Int), x] → Turn1 g te vs σ (.ref T) H1 (R i)) (q : ∀ p ys H', Same H H' → H p = none → H' p = some (.lst ys) → Rows R 0 xs.length ys H' → Q (.ref p) H') : tLc (iEnum K ta) g tYes te vs σ H Q := by
  refine h _ ⟨a, xs, rfl, SqL.of hx, fun D hD => lc_it walk_enum (LcP R H D) ⟨[], Same.new' hD, upd_same, hD, trivial, rfl⟩ (fun i H1 hi p => SqL.of (p.choose_spec.1 _ _ hx)) (fun i x H1 H2 hi p y => ?_) (fun H1 ⟨ys, s, e, nD, r⟩ => q D ys H1 s nD e r)⟩
  obtain ⟨T, x1, y1, rfl, hT, rfl, ex, ey⟩ := y
  cases ex
  have sT := Same.new' (o := .tup [.int (i : Int), y1]) hT
  have p2 : LcP R H D i (upd H1 T (.tup [.int (i : Int), y1])) := by
    obtain ⟨ys, s, e, nD, r⟩ := p
    exact ⟨ys, s.trans sT, sT _ _ e, nD, Run.keep st sT r.1, r.2⟩
  exact lc_step st of p2 (by omega) (fun s => hs i y1 T _ ey s (SqT.of upd_same))
/-- the law's dict of a row of numbers, made plain -/
theorem c_dict {pos : Nat → Nat × Nat} (inj : ∀ i j, pos i = pos j → i = j) {σ : L2.St} {H : Hp} {ta : TA} {te : TE} {l : Addr} {xs : List Rat} {Q : VK} {E : XK} {i j : Nat} (h : VA ta σ H [.ref l]) (lx : Lst H l xs) (hn : xs.length ≤ 100)
    (hw : ∀ x y, wipe (((wipe σ [i, j]).set i (some x)).set j (some y)) [i, j] = wipe σ [i, j])
    (hs : ∀ n x H1, Same H H1 → ∀ Q' : VK, (∀ t b H2, Same H1 H2 → H2 t = some (.tup [.ref b, x]) → H2 b = some (.tup [.int ((pos n).1 : Int), .int ((pos n).2 : Int)]) → Q' (.ref t) H2) → te (((wipe σ [i, j]).set i (some (.int (n : Int)))).set j (some x)) H1 Q')
    (k : ∀ p H' N, Same H H' → H p = none → DW H' p N → (∀ x y, evL N x y = evL (enL pos 0 xs) x y) → (∀ e ∈ N, e ∈ enL pos 0 xs ∧ e.2 ≠ 0) → Q (.ref p) H') :
    tCall spVPlain [] E (tCons (tCB (rDictPT K) (tCons (tLc (iEnum K ta) (gTup K 2 (gCons (gName i) (gCons (gName j) gNil))) tYes te [i, j]) tNil)) tNil) σ H Q := by
  obtain ⟨us, el, al⟩ := lx
  have ll := al.len
  refine call_1 (cb_one (l_lcE (R := PrF pos us) (xs := us) prf_st prf_off h el (by omega) (fun n x T H1 hx s1 hT => turn_two hT (hw _ _) fun Q' q => hs n x H1 s1 Q' fun t b H2 s2 e1 e2 => q _ H2 s2 ⟨t, b, x, rfl, e1, hx, e2⟩) fun a ys H1 s1 na ea ra => ?_))
  obtain ⟨ps, rfl, pr⟩ := run_pairs (K := K) (ws := us) ra.2 rfl ra.1
  have al1 : All2 (fun v q => ∃ p, v = V.ref p ∧ Lo H1 p q) us xs := al.imp fun _ _ ⟨p, e, lo⟩ => ⟨p, e, lo.same s1⟩
  have nd := enL_nd inj (xs := xs) (n := 0)
  have ek := kvL_keys (pos := pos) (n := 0) al1
  have em : mergeT [] (kvL pos 0 us) = kvL pos 0 us := mergeT_new _ [] (by rw [List.nil_append, ek]; exact nd_kN nd)
  refine ⟨a, ps, kvL pos 0 us, rfl, SqL.of ea, pr, fun p hp => ?_⟩
  rw [em]
  have s2 := Same.new' (o := .dT (kvL pos 0 us)) hp
  have de : DE (upd H1 p (.dT (kvL pos 0 us))) (kvL pos 0 us) (enL pos 0 xs) := DE.tu ⟨kvL_en al1, nd⟩ (Tu.of s2)
  refine ⟨p, enL pos 0 xs, rfl, ⟨_, .inl upd_same, de⟩, by rw [enL_len]; omega, fun p2 H2 N s3 np dN cN mN lN => k p2 H2 N ((s1.trans s2).trans s3) (s1.free (s2.free np)) dN (ev_of_cf cN) mN⟩
theorem ev_enX (x y : Rat) : ∀ (xs : List Rat) (n : Nat), evL (enL (fun k => (k, 0)) n xs) x y = rp x n * peval xs x
  | [], n => by show (0 : Rat) = rp x n * 0; grind
  | a :: xs, n => by
    show a * (rp x n * rp y 0) + evL (enL (fun k => (k, 0)) (n + 1) xs) x y = rp x n * (a + x * peval xs x)
    rw [ev_enX x y xs (n + 1), rp_succ, show rp y 0 = 1 from rfl]
    grind
theorem ev_enY (x y : Rat) : ∀ (xs : List Rat) (n : Nat), evL (enL (fun k => (0, k)) n xs) x y = rp y n * peval xs y
  | [], n => by show (0 : Rat) = rp y n * 0; grind
  | a :: xs, n => by
    show a * (rp x 0 * rp y n) + evL (enL (fun k => (0, k)) (n + 1) xs) x y = rp y n * (a + y * peval xs y)
    rw [ev_enY x y xs (n + 1), rp_succ, show rp x 0 = 1 from rfl]
    grind
theorem tup_four {σ : L2.St} {H : Hp} {t1 t2 t3 t4 : TE} {Q : VK} (h : t1 σ H fun v1 H1 => t2 σ H1 fun v2 H2 => t3 σ H2 fun v3 H3 => t4 σ H3 fun v4 H4 => 4 ≤ sizeLine ∧ ∀ q, H4 q = none → Q (.ref q) (upd H4 q (.tup [v1, v2, v3, v4]))) : tTup (tCons t1 (tCons t2 (tCons t3 (tCons t4 tNil)))) σ H Q := h
/-! ### a field whose flow is known -/
def RtA (v : V) (H : Hp) : Prop := ∃ t a, v = .ref t ∧ Lo H t a ∧ Bd 2 2 a
theorem rta_same {H H' : Hp} {v : V} (h : RtA v H) (s : L2.Same H H') : RtA v H' := by
  obtain ⟨t, a, e, lo, b⟩ := h
  exact ⟨t, a, e, lo.same s, b⟩
theorem em_rta {tb : TA} {σ : L2.St} {H : Hp} {ws : List V} (q : Rat) (e : ws = [.int q.num, .int (q.den : Int)]) (h : VA tb σ H ws) (b : Bd 2 2 q) : EM (tTup tb) σ H RtA := by
  subst e
  exact em_tup h (by show 2 ≤ 100000; decide) fun a H' ea => ⟨a, q, rfl, ea, b⟩
structure Esy (H : Hp) (t f d1 d2 ta lg : Addr) (L : Nat) (a : Rat) (xs : List Rat) (J1 J2 : List En) : Prop where
  et : H t = some (.tup [.ref f, .int (L : Int), .ref ta, .ref lg])
  ef : H f = some (.tup [.ref d1, .ref d2])
  w1 : DW H d1 J1
  w2 : DW H d2 J2
  k1 : KF 2 2 J1
  k2 : KF 2 2 J2
  la : Lo H ta a
  lx : Lst H lg xs
  ba : Bd 2 2 a
  bx : Bds L9 2 xs
  sx : Sms 10 xs
  len : xs.length ≤ 3
  val : (L = 0 ∧ (∀ x y, evL J1 x y = a) ∧ ∀ x y, evL J2 x y = peval xs x) ∨ (L = 1 ∧ (∀ x y, evL J1 x y = peval xs y) ∧ ∀ x y, evL J2 x y = a)
theorem Esy.same {H H' : Hp} {t f d1 d2 ta lg : Addr} {L : Nat} {a : Rat} {xs : List Rat} {J1 J2 : List En} (h : Esy H t f d1 d2 ta lg L a xs J1 J2) (s : L2.Same H H') : Esy H' t f d1 d2 ta lg L a xs J1 J2 :=
  ⟨s _ _ h.et, s _ _ h.ef, h.w1.same s, h.w2.same s, h.k1, h.k2, h.la.same s, h.lx.same s, h.ba, h.bx, h.sx, h.len, h.val⟩
theorem Esy.but {H H' : Hp} {t f d1 d2 ta lg : Addr} {L : Nat} {a : Rat} {xs : List Rat} {J1 J2 : List En} {p c : Addr} {m : Nat} (h : Esy H t f d1 d2 ta lg L a xs J1 J2) (P : PenAt H p c m) (b : But p H H') : Esy H' t f d1 d2 ta lg L a xs J1 J2 :=
  ⟨pen_keep P b h.et (fun _ z => by cases z), pen_keep P b h.ef (fun _ z => by cases z), h.w1.but P b, h.w2.but P b, h.k1, h.k2, b.lo P h.la, h.lx.but b P, h.ba, h.bx, h.sx, h.len, h.val⟩
def spEasyF : Sp := fun vs H Q _ => ∃ (p c : Addr) (m : Nat), vs = [.ref p] ∧ PenAt H p c m ∧ m + 40 < most ∧ ∀ (t f d1 d2 ta lg : Addr) (L : Nat) (a : Rat) (xs : List Rat) (J1 J2 : List En) (H' : Hp), Esy H' t f d1 d2 ta lg L a xs J1 J2 → But p H H' → PenAt H' p c (m + 30) → Q (.ref t) H'
theorem bd_sm10 {a : Rat} (h : Bd 2 2 a) : Sm 10 a := h.smA (by decide) (by decide) (by decide)
theorem kf_enL {pos : Nat → Nat × Nat} (hp : ∀ k, (pos k).1 + (pos k).2 = k) {xs : List Rat} {N : List En} (len : xs.length ≤ 3) (bx : Bds L9 2 xs) (sx : Sms 10 xs) (m : ∀ e ∈ N, e ∈ enL pos 0 xs ∧ e.2 ≠ 0) : KF 2 2 N :=
  ⟨fun e he => by
    obtain ⟨_, k, a, b, c⟩ := enL_mem (m e he).1
    rw [c, hp]
    omega, fun e he => sx _ (enL_mem (m e he).1).1, fun e he => bx _ (enL_mem (m e he).1).1⟩
theorem ok_law_easy_field (T : Txt K mg) : FnOk P w K mg base CX0 10 (fA mg "_law_easy_field") (fDat K (fA mg "_law_easy_field")) ["_law_pen_here"] spEasyF := by
  have G_law_pick := ok_pick (P := P) (w := w) (base := base) T
  have G_law_draw := ok_draw (P := P) (w := w) (base := base) T._law_draw.F T
  have G_law_drawn := ok_law_drawn (P := P) (w := w) (base := base) T
  have G_law_v_plain := ok_law_v_plain (P := P) (w := w) (base := base) T
  refine T._law_easy_field.F.ok sc_law_easy_field (fun vs H Q E h => ?_) (fun cdv A outer s H vs Q E hr h => ?_)
  · obtain ⟨p, c, m, rfl, _⟩ := h
    rfl
  obtain ⟨p, c, m, rfl, hP, hm, k⟩ := h
  refine ⟨_, (pss_cons (ps_par (i := 1) (j := 2) (by rfl) sc_law_easy_field.nd rfl rfl (by decide) rfl rfl (pa_cons (pe_c T._law_pick G_law_pick (hr.mono (by decide)) (pa_cons (pv 0) (pa_cons (pe_lst (pa_cons (pe_tup (pa_cons pe_int (pa_cons pe_int pa_nil))) (pa_cons (pe_tup (pa_cons (pe_un un_neg pe_int) (pa_cons pe_int pa_nil))) (pa_cons (pe_tup (pa_cons pe_int (pa_cons pe_int pa_nil))) (pa_cons (pe_tup (pa_cons pe_int (pa_cons pe_int pa_nil))) (pa_cons (pe_tup (pa_cons (pe_un un_neg pe_int) (pa_cons pe_int pa_nil))) pa_nil)))))) pa_nil))) (pa_cons (pe_c T._law_drawn G_law_drawn (hr.mono (by decide)) (pa_cons (pv 0) (pa_cons pe_int (pa_cons pe_int pa_nil)))) pa_nil)) (by rfl))
  (pss_cons (ps_par (i := 3) (j := 4) (by rfl) sc_law_easy_field.nd rfl rfl (by decide) rfl rfl (pa_cons (pe_c T._law_v_plain G_law_v_plain (hr.mono (by decide)) (pa_cons (pe_dispT (hu64 hr) (pps_cons (pe_tup (pa_cons pe_int (pa_cons pe_int pa_nil))) (pv 1) pps_nil) (by rfl) (by rfl) (fun z => by cases z) (by decide)) pa_nil)) (pa_cons (pe_c T._law_v_plain G_law_v_plain (hr.mono (by decide)) (pa_cons (pe_callTy (cr_dictPT rfl (hu65 hr)) (by rfl) T.dict (by decide +kernel) (pa_cons (pe_lc (own := [("_law_k", 5), ("_law_number", 6)]) (g := gTup K 2 (gCons (gName 5) (gCons (gName 6) gNil))) (tt := tYes) (by rfl) sc_law_easy_field.nd (pi_enum (by rfl) T.enumerate (pa_cons (pv 2) pa_nil)) (blkOk_by (own := [("_law_k", 5), ("_law_number", 6)]) (N := ["_law_pen_here", "_law_a", "_law_g", "_law_first", "_law_second", "_law_k", "_law_number", "_law_turned"]) (sc := defScope s_law_easy_field) (by decide +kernel)) (fun _ _ _ _ _ => pg_tup rfl (pgs_cons (pg_name (i := 5) sc_law_easy_field.nd rfl (Or.inl rfl)) (pgs_cons (pg_name (i := 6) sc_law_easy_field.nd rfl (Or.inl rfl)) pgs_nil))) (fun _ _ _ _ _ => pts_nil) (fun _ _ _ _ _ => (pe_tup (pa_cons (pe_tup (pa_cons (pv 5) (pa_cons pe_int pa_nil))) (pa_cons (pv 6) pa_nil))))) pa_nil)) pa_nil)) pa_nil)) (by rfl))
  (pss_cons (ps_if (pt_cmpR op_eq (pe_c T._law_draw G_law_draw (hr.mono (by decide)) (pa_cons (pv 0) (pa_cons pe_int pa_nil))) pe_int (nomark _)) (pss_one (ps_ret (pe_tup (pa_cons (pe_tup (pa_cons (pv 3) (pa_cons (pv 4) pa_nil))) (pa_cons pe_int (pa_cons (pv 1) (pa_cons (pv 2) pa_nil))))))) pss_nil)
  (pss_cons (ps_set (i := 7) sc_law_easy_field.nd rfl (Or.inl rfl) (pe_c T._law_v_plain G_law_v_plain (hr.mono (by decide)) (pa_cons (pe_callTy (cr_dictPT rfl (hu65 hr)) (by rfl) T.dict (by decide +kernel) (pa_cons (pe_lc (own := [("_law_k", 5), ("_law_number", 6)]) (g := gTup K 2 (gCons (gName 5) (gCons (gName 6) gNil))) (tt := tYes) (by rfl) sc_law_easy_field.nd (pi_enum (by rfl) T.enumerate (pa_cons (pv 2) pa_nil)) (blkOk_by (own := [("_law_k", 5), ("_law_number", 6)]) (N := ["_law_pen_here", "_law_a", "_law_g", "_law_first", "_law_second", "_law_k", "_law_number", "_law_turned"]) (sc := defScope s_law_easy_field) (by decide +kernel)) (fun _ _ _ _ _ => pg_tup rfl (pgs_cons (pg_name (i := 5) sc_law_easy_field.nd rfl (Or.inl rfl)) (pgs_cons (pg_name (i := 6) sc_law_easy_field.nd rfl (Or.inl rfl)) pgs_nil))) (fun _ _ _ _ _ => pts_nil) (fun _ _ _ _ _ => (pe_tup (pa_cons (pe_tup (pa_cons pe_int (pa_cons (pv 5) pa_nil))) (pa_cons (pv 6) pa_nil))))) pa_nil)) pa_nil)))
  (pss_one (ps_ret (pe_tup (pa_cons (pe_tup (pa_cons (pv 7) (pa_cons (pv 3) pa_nil))) (pa_cons pe_int (pa_cons (pv 1) (pa_cons (pv 2) pa_nil))))))))))), ?_⟩
  have inj1 : ∀ i j : Nat, ((i, 0) : Nat × Nat) = (j, 0) → i = j := fun i j h => (Prod.mk.inj h).1
  have inj2 : ∀ i j : Nat, ((0, i) : Nat × Nat) = (0, j) → i = j := fun i j h => (Prod.mk.inj h).2
  refine q_par (ta_two (c_callL (R := Alls RtA 5) (val_var rfl) (Alls.stays (G := RtA) rta_same) (al_cons (G := RtA) rta_same (em_rta 1 rfl (va_cons val_c (va_cons val_c va_nil)) ⟨by decide, by decide⟩) fun _ => al_cons (G := RtA) rta_same (em_rta (-1) rfl (va_cons (v_neg val_c) (va_cons val_c va_nil)) ⟨by decide, by decide⟩) fun _ => al_cons (G := RtA) rta_same (em_rta ⟨1, 2, by decide, by decide⟩ rfl (va_cons val_c (va_cons val_c va_nil)) ⟨by decide, by decide⟩) fun _ =>
    al_cons (G := RtA) rta_same (em_rta 0 rfl (va_cons val_c (va_cons val_c va_nil)) ⟨by decide, by decide⟩) fun _ => al_cons (G := RtA) rta_same (em_rta ⟨-3, 2, by decide, by decide⟩ rfl (va_cons (v_neg val_c) (va_cons val_c va_nil)) ⟨by decide, by decide⟩) fun _ => al_nil (G := RtA) rta_same) (fun vs H' r => by rw [r.2]; decide) fun q1 ws H1 s1 e1 r1 => ?_))
  have P1 := hP.same s1
  refine ⟨p, c, q1, ws, m, rfl, P1, by omega, SqL.of e1, by rw [r1.2]; decide, by rw [r1.2]; decide, fun v H2 hv b2 P2 => ?_⟩
  obtain ⟨ta, a, rfl, la, ba⟩ := r1.1 v hv
  have la2 := b2.lo P1 la
  refine c_call (va_cons (val_var rfl) (va_cons val_c (va_cons val_c va_nil))) ⟨p, c, m + 1, 2, 2, rfl, P2, by decide, by omega, by decide, by decide, fun lg H3 xs lx sx bx len tl b3 P3 => ⟨_, _, rfl, ?_⟩⟩
  have la3 := b3.lo P2 la2
  have ba9 : Bd L9 2 a := ba.mono (by decide) (Nat.le_refl _)
  have sa := bd_sm10 ba
  refine q_par (ta_two (c_cst (D := 2) (M := 2) (fun H' _ => val_var rfl) la3 ba fun d1 H4 N1 s4 np1 dw1 dg1 bd1 ev1 nz1 => ?_))
  have lx4 := lx.same s4
  refine c_dict (pos := fun k => (k, 0)) inj1 (va_cons (val_var rfl) va_nil) lx4 (by omega) (fun _ _ => rfl) (fun n x H' s' Q' q' => ?_) fun d2 H5 N2 s5 np2 dw2 ev2 m2 => ⟨_, _, rfl, ?_⟩
  · exact tup_two (l_tup (va_cons (val_var rfl) (va_cons val_c va_nil)) (by show 2 ≤ 100000; decide) fun b hb => (val_var rfl) _ ⟨by show 2 ≤ sizeLine; decide, fun t ht => q' t b _ ((Same.new' hb).trans (Same.new' ht)) upd_same ((Same.new' ht) _ _ upd_same)⟩)
  have kN2 := kf_enL (fun k => Nat.add_zero k) len bx sx m2
  have kN1 : KF 2 2 N1 := ⟨fun e he => Nat.le_trans (dg1 e he) (by decide), fun e he => bd_sm10 (bd1.mem (DE.nodup dw1) he), fun e he => (bd1.mem (DE.nodup dw1) he).mono (by decide) (Nat.le_refl _)⟩
  have v2 : ∀ x y, evL N2 x y = peval xs x := fun x y => by rw [ev2, ev_enX]; exact Rat.one_mul _
  have P5 := (P3.same s4).same s5
  have dw1' := dw1.same s5
  have S5 := s4.trans s5
  refine q_cmp (c_call (va_cons (val_var rfl) (va_cons val_c va_nil)) ⟨p, c, 2, _, rfl, P5, by omega, by decide, by decide, fun r H6 r0 r1' b6 P6 => ?_⟩)
  have dw1_6 := dw1'.but P5 b6
  have dw2_6 := dw2.but P5 b6
  have la6 := b6.lo P5 (la3.same S5)
  have lx6 := (lx.same S5).but b6 P5
  have B6 : But p H H6 := ((((But.of s1).trans b2).trans b3).trans (But.of S5)).trans b6
  refine ⟨rfl, _, rfl, ?_⟩
  by_cases z : r = 0
  · subst z
    rw [if_pos (decide_eq_true rfl)]
    refine r_ret (tup_four (l_tup (va_cons (val_var rfl) (va_cons (val_var rfl) va_nil)) (by show 2 ≤ 100000; decide) fun f hf => val_c _ ((val_var rfl) _ ((val_var rfl) _ ⟨by decide, fun t ht => ?_⟩))))
    have sf := Same.new' (o := .tup [V.ref d1, .ref d2]) hf
    have st := Same.new' (o := .tup [V.ref f, .int 0, .ref ta, .ref lg]) ht
    have S6 := sf.trans st
    exact k t f d1 d2 ta lg 0 a xs N1 N2 _ ⟨upd_same, st _ _ upd_same, dw1_6.same S6, dw2_6.same S6, kN1, kN2, la6.same S6, lx6.same S6, ba, bx, sx, len, .inl ⟨rfl, ev1, v2⟩⟩ (B6.trans (But.of S6)) ((P6.le (by omega)).same S6)
  · rw [if_neg (by rw [decide_eq_true_iff]; exact fun y => z (V.int.inj y))]
    refine q_asg (c_dict (pos := fun k => (0, k)) inj2 (va_cons (val_var rfl) va_nil) lx6 (by omega) (fun _ _ => rfl) (fun n x H' s' Q' q' => ?_) fun d3 H7 N3 s7 np3 dw3 ev3 m3 => ?_)
    · exact tup_two (l_tup (va_cons val_c (va_cons (val_var rfl) va_nil)) (by show 2 ≤ 100000; decide) fun b hb => (val_var rfl) _ ⟨by show 2 ≤ sizeLine; decide, fun t ht => q' t b _ ((Same.new' hb).trans (Same.new' ht)) upd_same ((Same.new' ht) _ _ upd_same)⟩)
    have kN3 := kf_enL (fun k => Nat.zero_add k) len bx sx m3
    have v3 : ∀ x y, evL N3 x y = peval xs y := fun x y => by rw [ev3, ev_enY]; exact Rat.one_mul _
    refine r_ret (tup_four (l_tup (va_cons (val_var rfl) (va_cons (val_var rfl) va_nil)) (by show 2 ≤ 100000; decide) fun f hf => val_c _ ((val_var rfl) _ ((val_var rfl) _ ⟨by decide, fun t ht => ?_⟩))))
    have sf := Same.new' (o := .tup [V.ref d3, .ref d1]) hf
    have st := Same.new' (o := .tup [V.ref f, .int 1, .ref ta, .ref lg]) ht
    have S6 := s7.trans (sf.trans st)
    exact k t f d3 d1 ta lg 1 a xs N3 N1 _ ⟨upd_same, st _ _ upd_same, dw3.same (sf.trans st), dw1_6.same S6, kN3, kN1, la6.same S6, lx6.same S6, ba, bx, sx, len, .inr ⟨rfl, v3, ev1⟩⟩ (B6.trans (But.of S6)) ((P6.le (by omega)).same S6)
end
end LW

namespace LW
open PySem PySem.Spec PyProof.Rows L2 GL
section
variable {P : Program} {w : World} {K : PySem.W.Frag} {mg : Str → Option Value} {base : Heap}
/-! ### the flow of such a field, as the law reckons it -/
theorem g_four {i j k l : Nat} {x y z u : V} {T : Addr} {σ : L2.St} {H : Hp} {K' : L2.St → Hp → Prop} (hT : SqT K H T [x, y, z, u]) (q : K' ((((σ.set i (some x)).set j (some y)).set k (some z)).set l (some u)) H) : gTup K 4 (gCons (gName i) (gCons (gName j) (gCons (gName k) (gCons (gName l) gNil)))) (.ref T) σ H K' :=
  ⟨T, _, rfl, hT, rfl, x, _, rfl, y, _, rfl, z, _, rfl, u, _, rfl, rfl, q⟩
def prodD : List Rat → Nat
  | [] => 1
  | q :: xs => q.den * prodD xs
theorem prodD_pos : ∀ xs : List Rat, 0 < prodD xs
  | [] => Nat.one_pos
  | q :: xs => Nat.mul_pos q.den_pos (prodD_pos xs)
theorem prodD_le : ∀ {xs : List Rat}, Sms 10 xs → prodD xs ≤ 1024 ^ xs.length
  | [], _ => Nat.le_refl _
  | q :: xs, h => by
    have h1 : q.den < 2 ^ 10 := (h q (List.mem_cons_self ..)).2
    have h2 := prodD_le (xs := xs) fun r hr => h r (List.mem_cons_of_mem _ hr)
    show q.den * prodD xs ≤ 1024 ^ (xs.length + 1)
    rw [Nat.pow_succ, Nat.mul_comm]
    exact Nat.mul_le_mul h2 (Nat.le_of_lt h1)
theorem den_prodD : ∀ {xs : List Rat} {q : Rat}, q ∈ xs → q.den ∣ prodD xs
  | r :: xs, q, h => by
    rcases List.mem_cons.mp h with rfl | h
    · exact Nat.dvd_mul_right _ _
    · exact Nat.dvd_trans (den_prodD h) (Nat.dvd_mul_left _ _)
theorem bds_prodD {xs : List Rat} {L M : Nat} (h : Bds L M xs) : Bds (prodD xs) M xs := fun q hq => ⟨den_prodD hq, (h q hq).2⟩
theorem prodD3 {xs : List Rat} (h : Sms 10 xs) (l : xs.length ≤ 3) : prodD xs ≤ 2 ^ 30 := Nat.le_trans (prodD_le h) (Nat.le_trans (Nat.pow_le_pow_right (by decide) l) (by decide))
theorem bd_den {q : Rat} {L M : Nat} (h : Bd L M q) (k : Nat) (hk : M ≤ k) : Bd (2 * q.den) k q := ⟨Nat.dvd_mul_left _ _, Nat.le_trans h.2 (Nat.mul_le_mul_right _ hk)⟩
theorem mvd_tl (s0 s1 : Rat) : ∀ xs : List Rat, tlen (mvd s0 s1 xs) = (mvd s0 s1 xs).length
  | [] => rfl
  | _ :: _ => tlen_ofN
theorem co_line0 (s0 s1 : Rat) : co (trim [s0, s1]) 0 = s0 := by rw [co_trim]; rfl
theorem co_line1 (s0 s1 : Rat) : co (trim [s0, s1]) 1 = s1 := by rw [co_trim]; rfl
theorem co_mvd0 (s0 s1 x : Rat) (xs : List Rat) : co (mvd s0 s1 (x :: xs)) 0 = s0 * co (mvd s0 s1 xs) 0 + x := by
  show co (psum _ _) 0 = _
  rw [co_psum, co_pmul_line (line_len s0 s1), co_line0, if_pos rfl, Rat.add_zero, co_trim]
  rfl
theorem co_mvdS (s0 s1 x : Rat) (xs : List Rat) (i : Nat) : co (mvd s0 s1 (x :: xs)) (i + 1) = s0 * co (mvd s0 s1 xs) (i + 1) + s1 * co (mvd s0 s1 xs) i := by
  show co (psum _ _) (i + 1) = _
  rw [co_psum, co_pmul_line (line_len s0 s1), co_line0, co_line1, co_trim, if_neg (Nat.succ_ne_zero i), co_none (xs := [x]) (by show 1 ≤ i + 1; omega), Rat.add_zero]
  rfl
theorem co_nil (i : Nat) : co [] i = 0 := co_none (Nat.zero_le _)
theorem mvd_co (s0 s1 : Rat) {xs : List Rat} (h : xs.length ≤ 3) : co (mvd s0 s1 xs) 0 = co xs 0 + s0 * (co xs 1 + s0 * co xs 2) ∧ co (mvd s0 s1 xs) 1 = s1 * (co xs 1 + 2 * s0 * co xs 2) ∧ co (mvd s0 s1 xs) 2 = s1 * s1 * co xs 2 := by
  have e0 : ∀ i, co (mvd s0 s1 []) i = 0 := fun i => co_nil i
  have m1 : ∀ x xs, co (mvd s0 s1 (x :: xs)) 1 = s0 * co (mvd s0 s1 xs) 1 + s1 * co (mvd s0 s1 xs) 0 := fun x xs => co_mvdS s0 s1 x xs 0
  have m2 : ∀ x xs, co (mvd s0 s1 (x :: xs)) 2 = s0 * co (mvd s0 s1 xs) 2 + s1 * co (mvd s0 s1 xs) 1 := fun x xs => co_mvdS s0 s1 x xs 1
  match xs, h with
  | [], _ => simp only [e0, co_nil]; exact ⟨by grind, by grind, by grind⟩
  | [x], _ => 
    have a0 : co [x] 0 = x := rfl
    have a1 : co [x] 1 = 0 := co_none (by show 1 ≤ 1; decide)
    have a2 : co [x] 2 = 0 := co_none (by show 1 ≤ 2; decide)
    simp only [co_mvd0, m1, m2, e0, a0, a1, a2]
    exact ⟨by grind, by grind, by grind⟩
  | [x, y], _ => 
    have a0 : co [x, y] 0 = x := rfl
    have a1 : co [x, y] 1 = y := rfl
    have a2 : co [x, y] 2 = 0 := co_none (by show 2 ≤ 2; decide)
    simp only [co_mvd0, m1, m2, e0, a0, a1, a2]
    exact ⟨by grind, by grind, by grind⟩
  | [x, y, z], _ => 
    have a0 : co [x, y, z] 0 = x := rfl
    have a1 : co [x, y, z] 1 = y := rfl
    have a2 : co [x, y, z] 2 = z := rfl
    simp only [co_mvd0, m1, m2, e0, a0, a1, a2]
    exact ⟨by grind, by grind, by grind⟩
/-- the row's numbers, each parted by its place -/
def whL : Nat → List Rat → List Rat
  | _, [] => []
  | n, q :: xs => q / ((n + 1 : Nat) : Rat) :: whL (n + 1) xs
theorem whL_len : ∀ (xs : List Rat) (n : Nat), (whL n xs).length = xs.length
  | [], _ => rfl
  | _ :: xs, n => congrArg (· + 1) (whL_len xs (n + 1))
theorem whL_get : ∀ (xs : List Rat) (n i : Nat) (q : Rat), xs[i]? = some q → (whL n xs)[i]? = some (q / ((n + i + 1 : Nat) : Rat))
  | x :: xs, n, 0, q, h => by cases h; rfl
  | x :: xs, n, i + 1, q, h => by
    have := whL_get xs (n + 1) i q h
    rw [show n + 1 + i + 1 = n + (i + 1) + 1 by omega] at this
    exact this
theorem peval3 {xs : List Rat} (h : xs.length ≤ 3) (x : Rat) : peval xs x = co xs 0 + x * (co xs 1 + x * co xs 2) := by
  match xs, h with
  | [], _ => show (0 : Rat) = 0 + x * (0 + x * 0); grind
  | [a], _ => show a + x * 0 = a + x * (0 + x * 0); grind
  | [a, b], _ => show a + x * (b + x * 0) = a + x * (b + x * 0); rfl
  | [a, b, c], _ => show a + x * (b + x * (c + x * 0)) = a + x * (b + x * c); grind
theorem co_whL {xs : List Rat} (i : Nat) : co (whL 0 xs) i = co xs i / ((i + 1 : Nat) : Rat) := by
  cases h : xs[i]? with
  | some q => rw [co_some h, co_some (whL_get xs 0 i q h), Nat.zero_add]
  | none =>
    have l := List.getElem?_eq_none_iff.mp h
    rw [co_none l, co_none (by rw [whL_len]; exact l), Rat.div_def, Rat.zero_mul]
def fw (xs : List Rat) (a s t : Rat) : Rat := t * (co xs 0 + s * (co xs 1 + s * co xs 2)) + t * t * (a * (co xs 1 + 2 * s * co xs 2) / 2) + t * t * t * (a * a * co xs 2 / 3)
theorem peval_wh {xs : List Rat} {s a t : Rat} (h : xs.length ≤ 3) : peval (0 :: whL 0 (mvd s a xs)) t = fw xs a s t := by
  have l : (mvd s a xs).length ≤ 3 := Nat.le_trans (mvd_len s a xs) h
  obtain ⟨c0, c1, c2⟩ := mvd_co s a h
  rw [peval_cons, peval3 (by rw [whL_len]; exact l), co_whL, co_whL, co_whL, c0, c1, c2]
  show 0 + t * ((co xs 0 + s * (co xs 1 + s * co xs 2)) / (((0 + 1 : Nat)) : Rat) + t * (a * (co xs 1 + 2 * s * co xs 2) / (((1 + 1 : Nat)) : Rat) + t * (a * a * co xs 2 / (((2 + 1 : Nat)) : Rat)))) = fw xs a s t
  rw [show ((0 + 1 : Nat) : Rat) = 1 from rfl, show ((1 + 1 : Nat) : Rat) = 2 from rfl, show ((2 + 1 : Nat) : Rat) = 3 from rfl]
  unfold fw
  grind
theorem sm_peval {n m : Nat} {y : Rat} (sy : Sm m y) : ∀ {xs : List Rat}, Sms n xs → Sm ((n + m + 1) * xs.length + 1) (peval xs y)
  | [], _ => Sm.zero (by omega)
  | q :: xs, h => by
    have ih := sm_peval sy (xs := xs) fun r hr => h r (List.mem_cons_of_mem _ hr)
    have e : (n + m + 1) * (q :: xs).length = (n + m + 1) * xs.length + (n + m + 1) := Nat.mul_succ _ _
    rw [peval_cons]
    exact ((h q (List.mem_cons_self ..)).add (sy.mul ih)).mono (by omega)
def fX (L : Nat) (a : Rat) (xs : List Rat) (X Y t : Rat) : Rat := if L = 0 then X + a * t else X + fw xs a Y t
def fY (L : Nat) (a : Rat) (xs : List Rat) (X Y t : Rat) : Rat := if L = 0 then Y + fw xs a X t else Y + a * t
def spEasyFl : Sp := fun vs H Q _ => ∃ (t f d1 d2 ta lg pl px py tm : Addr) (L : Nat) (a : Rat) (xs : List Rat) (J1 J2 : List En) (X Y τ : Rat), vs = [.ref t, .ref pl, .ref tm] ∧ Esy H t f d1 d2 ta lg L a xs J1 J2 ∧ H pl = some (.tup [.ref px, .ref py]) ∧ Lo H px X ∧ Lo H py Y ∧ Lo H tm τ ∧ Sm 10 X ∧ Sm 10 Y ∧ Sm 10 τ ∧ Bd L9 2 X ∧ Bd L9 2 Y ∧
  ∀ r r1 r2 H', Same H H' → H' r = some (.tup [.ref r1, .ref r2]) → Lo H' r1 (fX L a xs X Y τ) → Lo H' r2 (fY L a xs X Y τ) → Q (.ref r) H'
theorem q_unp {te : TE} {g : TG} {tz : TS} {D : Ends} {σ : L2.St} {H : Hp} (h : te σ H fun v H' => g v σ H' (tz D)) : tSeq (tAsg te g) tz D σ H := h
theorem l_ifE {r : R2} {t1 t2 ta tb : TE} {σ : L2.St} {H : Hp} {Q : VK} (h : t1 σ H fun x H1 => t2 σ H1 fun y H2 => r x y H2 fun z H3 => ∃ b, z = .bl b ∧ if b = true then ta σ H3 Q else tb σ H3 Q) : tIf (tTest (tOp r t1 t2)) ta tb σ H Q := h
theorem lo_zero {H : Hp} {z : Addr} {q : Rat} (a : Lo H z q) (b : Lo H z 0) : q = 0 := by
  have e := a.symm.trans b
  have e1 := HO.tup.inj (Option.some.inj e)
  have e2 := V.int.inj (List.cons.inj e1).1
  exact Rat.num_eq_zero.mp e2
theorem ok_law_easy_flow (T : Txt K mg) : FnOk P w K mg base CX0 10 (fA mg "_law_easy_flow") (fDat K (fA mg "_law_easy_flow")) ["_law_easy", "_law_place_here", "_law_time"] spEasyFl := by
  have G_law_p_moved := ok_law_p_moved (P := P) (w := w) (base := base) T
  have G_law_share := ok_law_share (P := P) (w := w) (base := base) T
  have G_law_plus := ok_law_plus (P := P) (w := w) (base := base) T
  have G_law_times := ok_law_times (P := P) (w := w) (base := base) T
  have G_law_p_at := ok_law_p_at (P := P) (w := w) (base := base) T
  refine T._law_easy_flow.F.ok sc_law_easy_flow (fun vs H Q E h => ?_) (fun cdv A outer s H vs Q E hr h => ?_)
  · obtain ⟨t, f, d1, d2, ta, lg, pl, px, py, tm, L, a, xs, J1, J2, X, Y, τ, rfl, _⟩ := h
    rfl
  obtain ⟨t, f, d1, d2, ta, lg, pl, px, py, tm, L, a, xs, J1, J2, X, Y, τ, rfl, es, ep, lX, lY, lτ, sX, sY, sτ, bX, bY, k⟩ := h
  refine ⟨_, (pss_cons (ps_asg (pv 0) (pg_tup rfl (pgs_cons (pg_name (i := 3) sc_law_easy_flow.nd rfl (Or.inl rfl)) (pgs_cons (pg_name (i := 4) sc_law_easy_flow.nd rfl (Or.inl rfl)) (pgs_cons (pg_name (i := 5) sc_law_easy_flow.nd rfl (Or.inl rfl)) (pgs_cons (pg_name (i := 6) sc_law_easy_flow.nd rfl (Or.inl rfl)) pgs_nil))))))
  (pss_cons (ps_set (i := 7) sc_law_easy_flow.nd rfl (Or.inl rfl) (pe_ix ix_tup (pv 1) (pv 4) (fun _ _ => rfl)))
  (pss_cons (ps_par (i := 8) (j := 9) (by rfl) sc_law_easy_flow.nd rfl rfl (by decide) rfl rfl (pa_cons (pe_lst (pa_cons (pe_tup (pa_cons pe_int (pa_cons pe_int pa_nil))) pa_nil)) (pa_cons (pe_c T._law_p_moved G_law_p_moved (hr.mono (by decide)) (pa_cons (pv 6) (pa_cons (pv 7) (pa_cons (pv 5) pa_nil)))) pa_nil)) (by rfl))
  (pss_cons (ps_for PassesOwn.never rfl (pi_enum (by rfl) T.enumerate (pa_cons (pv 9) pa_nil)) (pg_tup rfl (pgs_cons (pg_name (i := 10) sc_law_easy_flow.nd rfl (Or.inl rfl)) (pgs_cons (pg_name (i := 11) sc_law_easy_flow.nd rfl (Or.inl rfl)) pgs_nil)))
  (pss_one (ps_expr (pe_bm PySem.F.plainAttrs_list PySem.F.slot_list_append PySem.F.type_list_append mt_append (pv 8) (pa_cons (pe_c T._law_share G_law_share (hr.mono (by decide)) (pa_cons (pv 11) (pa_cons (pe_tup (pa_cons (pe_op op_add (pv 10) pe_int) (pa_cons pe_int pa_nil))) pa_nil))) pa_nil)))))
  (pss_cons (ps_par (i := 12) (j := 13) (by rfl) sc_law_easy_flow.nd rfl rfl (by decide) rfl rfl (pa_cons (pe_c T._law_plus G_law_plus (hr.mono (by decide)) (pa_cons (pv 7) (pa_cons (pe_c T._law_times G_law_times (hr.mono (by decide)) (pa_cons (pv 5) (pa_cons (pv 2) pa_nil))) pa_nil))) (pa_cons (pe_c T._law_plus G_law_plus (hr.mono (by decide)) (pa_cons (pe_ix ix_tup (pv 1) (pe_op op_sub pe_int (pv 4)) (fun _ _ => rfl)) (pa_cons (pe_c T._law_p_at G_law_p_at (hr.mono (by decide)) (pa_cons (pv 8) (pa_cons (pv 2) pa_nil))) pa_nil))) pa_nil)) (by rfl))
  (pss_one (ps_ret (pe_ifExp (pt_cmpR op_eq (pv 4) pe_int (nomark _)) (pe_tup (pa_cons (pv 12) (pa_cons (pv 13) pa_nil))) (pe_tup (pa_cons (pv 13) (pa_cons (pv 12) pa_nil))))))))))), ?_⟩
  obtain ⟨ps, po, S, O, hs, ho, los, loo, sS, sO, bS, LL⟩ : ∃ (ps po : Addr) (S O : Rat), ([.ref px, .ref py] : List V)[L]? = some (.ref ps) ∧ ([.ref px, .ref py] : List V)[1 - L]? = some (.ref po) ∧ Lo H ps S ∧ Lo H po O ∧ Sm 10 S ∧ Sm 10 O ∧ Bd L9 2 S ∧ ((L = 0 ∧ S = X ∧ O = Y) ∨ (L = 1 ∧ S = Y ∧ O = X)) := by
    rcases es.val with ⟨rfl, _⟩ | ⟨rfl, _⟩
    · exact ⟨px, py, X, Y, rfl, rfl, lX, lY, sX, sY, bX, .inl ⟨rfl, rfl, rfl⟩⟩
    · exact ⟨py, px, Y, X, rfl, rfl, lY, lX, sY, sX, bY, .inr ⟨rfl, rfl, rfl⟩⟩
  have xl := es.len
  have L01 : L = 0 ∨ L = 1 := es.val.imp (·.1) (·.1)
  have dS : 2 * S.den ≤ 2 ^ 12 := by
    have : S.den < 2 ^ 10 := sS.2
    omega
  refine q_unp ((val_var rfl) _ (g_four (SqT.of es.et) (q_set (v_ixT (n := L) (val_var rfl) (val_var rfl) (SqT.of ep) hs) ?_)))
  refine q_par (ta_two (lst_one (l_tup (va_cons val_c (va_cons val_c va_nil)) (by show 2 ≤ 100000; decide) fun z hz => ⟨by decide, fun w hw => ?_⟩)))
  have u1 := Same.new' (o := .tup [V.int 0, .int 1]) hz
  have u2 := Same.new' (o := .lst [V.ref z]) hw
  have U := u1.trans u2
  refine c_call (va_cons (val_var rfl) (va_cons (val_var rfl) (va_cons (val_var rfl) va_nil))) ⟨lg, ps, ta, xs, S, a, prodD xs, 2 * S.den, rfl, es.lx.same U, los.same U, es.la.same U, prodD_pos xs, Nat.le_trans (prodD3 es.sx es.len) (by decide), by have := S.den_pos; omega, dS, bds_prodD es.bx, es.len, bd_den bS 4 (by decide), es.ba.mono (Nat.dvd_mul_right 2 _) (by decide), fun l' H3 s3 Lm => ⟨_, _, rfl, ?_⟩⟩
  have S3 := U.trans s3
  have ew : H3 w = some (.lst [.ref z]) := s3 _ _ upd_same
  have loz : Lo H3 z 0 := zero_lo (s3 _ _ (u2 _ _ upd_same))
  have mL := mvd_len S a xs
  have sM : Sms 90 (mvd S a xs) := mvd_sm (prodD_pos xs) (Nat.le_trans (prodD3 es.sx es.len) (by decide)) (by have := S.den_pos; omega) dS (bd_den bS 4 (by decide)) (es.ba.mono (Nat.dvd_mul_right 2 _) (by decide)) (bds_prodD es.bx) es.len
  have tM := mvd_tl S a xs
  have cM := peval_wh (a := a) (s := S) (t := τ) es.len
  revert Lm mL sM tM cM
  generalize mvd S a xs = M
  intro Lm mL sM tM cM
  obtain ⟨us, eu, al⟩ := Lm
  have lu := al.len
  have nlw : l' ≠ w := fun e => by
    rw [e, ew] at eu
    cases eu
    match M, al with
    | [q], .cons ⟨p, e1, lo⟩ .nil =>
      cases e1
      have := lo_zero lo loz
      subst this
      exact absurd tM (by decide)
  have el : ∀ i, i < M.length → ∃ q, M[i]? = some q ∧ Sm 92 (q / ((i + 1 : Nat) : Rat)) := fun i hi => by
    refine ⟨M[i], List.getElem?_eq_getElem hi, ?_⟩
    rw [Rat.div_def]
    have h2 : Sm 2 ((i + 1 : Nat) : Rat) := nat_sm (by omega) (by decide)
    exact ((sM _ (List.getElem_mem hi)).mul (h2.inv (nat_s0 i))).mono (by decide)
  refine q_forE (va_cons (val_var rfl) va_nil) (SqL.of eu) (fun i σ H4 => ∃ z10 z11, σ = [some (.ref t), some (.ref pl), some (.ref tm), some (.ref f), some (.int (L : Int)), some (.ref ta), some (.ref lg), some (.ref ps), some (.ref w), some (.ref l'), z10, z11, none, none] ∧ But w H3 H4 ∧ Lst H4 w (0 :: (whL 0 M).take i))
    ⟨none, none, rfl, But.refl, ⟨_, ew, .cons ⟨z, rfl, loz⟩ .nil⟩⟩ (fun i σ H4 zz => ?_) (fun i x Tp σ H4 hx zz hT => ?_) (fun σ H4 zz => ?_)
  · obtain ⟨z10, z11, rfl, b4, _⟩ := zz
    exact SqL.of (b4 _ _ eu nlw)
  · obtain ⟨z10, z11, rfl, b4, ⟨ys, ey, ay⟩⟩ := zz
    obtain ⟨q, hq, px', rfl, lop⟩ := al.get hx
    have hi : i < M.length := (List.getElem?_eq_some_iff.mp hq).1
    have uT := Same.new' (o := .tup [V.int (i : Int), .ref px']) hT
    have q0 := nat_s0 i
    have lq4 : Lo H4 px' q := b4 _ _ lop (ne_of lop ew (by intro z; cases z))
    refine g_two (SqT.of upd_same) (s_appC (val_var rfl) (uT _ _ ey) (call_1 ((val_var rfl) _ (va_1 (l_tup (va_cons (show Val _ _ _ (.int ((i : Int) + 1)) from v_add (val_var rfl) val_c) (va_cons val_c va_nil)) (by show 2 ≤ 100000; decide) fun t1 ht1 => ?_)))))
    have ut := Same.new' (o := .tup [V.int ((i : Int) + 1), .int 1]) ht1
    have lo1 : Lo (upd (upd H4 Tp (.tup [V.int (i : Int), .ref px'])) t1 (.tup [V.int ((i : Int) + 1), .int 1])) t1 ((i + 1 : Nat) : Rat) := upd_same
    have ly := ay.len
    have lwl := whL_len M 0
    refine lsh_ok ((lq4.same uT).same ut) lo1 q0 (sM q (get_mem hq)) (nat_sm (n := i + 1) (k := 2) (by omega) (by decide)) (by decide) (by decide) fun c H6 s6 lo6 => ?_
    have s46 := (uT.trans ut).trans s6
    have ey6 := s46 _ _ ey
    refine ⟨w, ys, .ref c, rfl, rfl, ey6, ?_, ?_⟩
    · rw [ly, List.length_cons, List.length_take]
      exact Nat.lt_of_le_of_lt (show min i (whL 0 M).length + 1 ≤ 10 by omega) (by decide)
    · refine ⟨_, _, rfl, fun b o e n => ?_, ⟨_, upd_same, ?_⟩⟩
      · rw [upd_ne n]
        exact s46 _ _ (b4 _ _ e n)
      · rw [List.take_add_one, whL_get M 0 i q hq, Nat.zero_add]
        show All2 _ _ (0 :: ((whL 0 M).take i ++ [q / ((i + 1 : Nat) : Rat)]))
        rw [← List.cons_append]
        exact All2.app (ay.imp fun _ _ ⟨p, e, lo⟩ => ⟨p, e, lo_upd ey6 (lo.same s46)⟩) (.cons ⟨c, rfl, lo_upd ey6 lo6⟩ .nil)
  · obtain ⟨z10, z11, rfl, b4, Lw⟩ := zz
    rw [lu, ← whL_len M 0, List.take_length] at Lw
    have S4 : Same H H4 := fun b o e => b4 b o (S3 b o e) (fun y => by
      have := u1 _ _ e
      rw [y, hw] at this
      cases this)
    have sw : Sms 92 (0 :: whL 0 M) := fun q hq => by
      rcases List.mem_cons.mp hq with rfl | hq
      · exact Sm.zero (by decide)
      · obtain ⟨i, hi⟩ := List.getElem?_of_mem hq
        have li := (List.getElem?_eq_some_iff.mp hi).1
        rw [whL_len] at li
        obtain ⟨q2, h2, s2⟩ := el i li
        rw [whL_get M 0 i q2 h2, Nat.zero_add] at hi
        cases hi
        exact s2
    have lw : (0 :: whL 0 M).length ≤ 4 := by rw [List.length_cons, whL_len]; have := es.len; omega
    have hb : (92 + 10 + 1) * (0 :: whL 0 M).length ≤ (92 + 10 + 1) * 4 := Nat.mul_le_mul_left _ lw
    have sp := sm_peval sτ sw
    refine q_par (ta_two (call_1 ((val_var rfl) _ (va_1 (c_ltimes (va_cons (val_var rfl) (va_cons (val_var rfl) va_nil)) (es.la.same S4) (lτ.same S4) (bd_sm10 es.ba) sτ (by decide) (by decide) fun c1 H5 s5 l5 => s_lplus ((los.same S4).same s5) l5 sS ((bd_sm10 es.ba).mul sτ) (by decide) (by decide) fun c2 H6 s6 l6 => ?_)))))
    have S6 := (S4.trans s5).trans s6
    refine call_1 ((v_ixT (n := 1 - L) (val_var rfl) (Val.is (v_sub val_c (val_var rfl)) (by rcases L01 with rfl | rfl <;> rfl)) (SqT.of (S6 _ _ ep)) ho) _ (va_1 (c_call (va_cons (val_var rfl) (va_cons (val_var rfl) va_nil)) ⟨w, tm, 0 :: whL 0 M, τ, 92, 10, rfl, (Lw.same s5).same s6, lτ.same S6, sw, sτ, by omega, fun c3 H7 s7 l7 => ?_⟩)))
    refine s_lplus ((loo.same S6).same s7) l7 sO sp (by decide) (by omega) fun c4 H8 s8 l8 => ⟨_, _, rfl, ?_⟩
    rw [cM] at l8
    have l6' := (l6.same s7).same s8
    have S8 := (S6.trans s7).trans s8
    rcases LL with ⟨rfl, rfl, rfl⟩ | ⟨rfl, rfl, rfl⟩
    · refine r_ret (l_ifE ((val_var rfl) _ (val_c _ ⟨rfl, _, rfl, ?_⟩)))
      rw [if_pos (show decide (V.int ((0 : Nat) : Int) = V.int 0) = true from decide_eq_true rfl)]
      refine l_tup (va_cons (val_var rfl) (va_cons (val_var rfl) va_nil)) (by show 2 ≤ 100000; decide) fun r hr => ?_
      have ur := Same.new' (o := .tup [V.ref c2, .ref c4]) hr
      exact k r c2 c4 _ (S8.trans ur) upd_same (l6'.same ur) (l8.same ur)
    · refine r_ret (l_ifE ((val_var rfl) _ (val_c _ ⟨rfl, _, rfl, ?_⟩)))
      rw [if_neg (show ¬ decide (V.int ((1 : Nat) : Int) = V.int 0) = true by decide)]
      refine l_tup (va_cons (val_var rfl) (va_cons (val_var rfl) va_nil)) (by show 2 ≤ 100000; decide) fun r hr => ?_
      have ur := Same.new' (o := .tup [V.ref c4, .ref c2]) hr
      exact k r c4 c2 _ (S8.trans ur) upd_same (l8.same ur) (l6'.same ur)
end
end LW

namespace LW
open PySem PySem.Spec PyProof.Rows L2 GL
section
variable {P : Program} {w : World} {K : PySem.W.Frag} {mg : Str → Option Value} {base : Heap}
/-! ### fields and places as the law draws them, of any size -/
def spSomeFdK : Sp := fun vs H Q _ => ∃ (p c : Addr) (m g k : Nat), vs = [.ref p, .int (g : Int), .int (k : Int)] ∧ PenAt H p c m ∧ g ≤ 4 ∧ m + 140 < most ∧ 1 ≤ k ∧ k ≤ 9 ∧ ∀ (t d1 d2 : Addr) (H' : Hp) (Ja Jb : List En), H' t = some (.tup [.ref d1, .ref d2]) → DW H' d1 Ja → DW H' d2 Jb → nz Ja → nz Jb → KF g k Ja → KF g k Jb → Ja.length ≤ 15 → Jb.length ≤ 15 → But p H H' → PenAt H' p c (m + 120) → Q (.ref t) H'
theorem ok_some_fieldK (T : Txt K mg) : FnOk P w K mg base CX0 7 (fA mg "_law_some_field") (fDat K (fA mg "_law_some_field")) ["_law_pen_here", "_law_degree", "_law_most"] spSomeFdK := by
  have G_law_v_drawn := ok_law_v_drawn (P := P) (w := w) (base := base) T
  refine T._law_some_field.F.ok sc_law_some_field (fun vs H Q E h => ?_) (fun cdv A outer s H vs Q E hr h => ?_)
  · obtain ⟨p, c, m, g, k0, rfl, _⟩ := h
    rfl
  obtain ⟨p, c, m, g, k0, rfl, hP, hg, hm, k1', k9', k⟩ := h
  refine ⟨_, (pss_one (ps_ret (pe_tup (pa_cons (pe_c T._law_v_drawn G_law_v_drawn (hr.mono (by decide)) (pa_cons (pv 0) (pa_cons (pv 1) (pa_cons (pv 2) pa_nil)))) (pa_cons (pe_c T._law_v_drawn G_law_v_drawn (hr.mono (by decide)) (pa_cons (pv 0) (pa_cons (pv 1) (pa_cons (pv 2) pa_nil)))) pa_nil))))), ?_⟩
  refine r_ret (tup_two (c_call (va_cons (val_var rfl) (va_cons (val_var rfl) (va_cons (val_var rfl) va_nil))) ⟨p, c, m, g, k0, rfl, hP, hg, by omega, k1', k9', fun d1 H1 Ja w1 z1 k1 l1 _ b1 P1 => ?_⟩))
  refine c_call (va_cons (val_var rfl) (va_cons (val_var rfl) (va_cons (val_var rfl) va_nil))) ⟨p, c, _, g, k0, rfl, P1, hg, by omega, k1', k9', fun d2 H2 Jb w2 z2 k2 l2 _ b2 P2 => ⟨by decide, fun t ht => ?_⟩⟩
  have s3 := Same.new' (o := .tup [.ref d1, .ref d2]) ht
  exact k t d1 d2 _ Ja Jb upd_same ((w1.but P1 b2).same s3) (w2.same s3) z1 z2 k1 k2 l1 l2 ((b1.trans b2).trans (But.of s3)) ((P2.le (by omega)).same s3)
def spPlaceK : Sp := fun vs H Q _ => ∃ (p c : Addr) (m k : Nat), vs = [.ref p, .int (k : Int)] ∧ PenAt H p c m ∧ m + 6 < most ∧ 1 ≤ k ∧ k ≤ 9 ∧ ∀ (z x y : Addr) (H' : Hp) (X Y : Rat), H' z = some (.tup [.ref x, .ref y]) → Lo H' x X → Lo H' y Y → Sm 10 X → Sm 10 Y → Bd L9 k X → Bd L9 k Y → But p H H' → PenAt H' p c (m + 6) → Q (.ref z) H'
theorem ok_placeK (T : Txt K mg) : FnOk P w K mg base CX0 6 (fA mg "_law_place") (fDat K (fA mg "_law_place")) ["_law_pen_here", "_law_most"] spPlaceK := by
  have G_law_ratio := ok_law_ratio (P := P) (w := w) (base := base) T
  refine T._law_place.F.ok sc_law_place (fun vs H Q E h => ?_) (fun cdv A outer s H vs Q E hr h => ?_)
  · obtain ⟨p, c, m, k0, rfl, _⟩ := h
    rfl
  obtain ⟨p, c, m, k0, rfl, hP, hm, k1', k9', k⟩ := h
  refine ⟨_, (pss_one (ps_ret (pe_tup (pa_cons (pe_c T._law_ratio G_law_ratio (hr.mono (by decide)) (pa_cons (pv 0) (pa_cons (pv 1) pa_nil))) (pa_cons (pe_c T._law_ratio G_law_ratio (hr.mono (by decide)) (pa_cons (pv 0) (pa_cons (pv 1) pa_nil))) pa_nil))))), ?_⟩
  refine r_ret (tup_two (c_call (va_cons (val_var rfl) (va_cons (val_var rfl) va_nil)) ⟨p, c, m, k0, rfl, hP, by omega, k1', k9', fun t H1 q l1 s1 d1 b1 P1 => ?_⟩))
  refine c_call (va_cons (val_var rfl) (va_cons (val_var rfl) va_nil)) ⟨p, c, m + 3, k0, rfl, P1, by omega, k1', k9', fun t2 H2 q2 l2 s2 d2 b2 P2 => ⟨by show 2 ≤ sizeLine; decide, fun z hz => ?_⟩⟩
  have s3 := Same.new' (o := .tup [.ref t, .ref t2]) hz
  exact k z t t2 _ q q2 upd_same ((b2.lo P1 l1).same s3) (l2.same s3) s1 s2 d1 d2 ((b1.trans b2).trans (But.of s3)) (P2.same s3)
/-! ### sizes of the series of such a field -/
theorem szn_two (D D' M d : Nat) : ∀ k, (szN D M d k).2 = (szN D' M d k).2
  | 0 => rfl
  | k + 1 => by
    show ((0 + 1) * ((0 + 1) * (1 * lieM d M (szN D M d k).2.2 (szN D M d k).2.1)), 0 + (d + ((szN D M d k).2.2 - 1))) = _
    rw [szn_two D D' M d k]
    rfl
theorem dX_pos {D : Nat} (h : 0 < D) (k : Nat) : 0 < dX D k := Nat.mul_pos (Nat.pow_pos h) (fc_pos k)
theorem dX_le {D D' : Nat} (h : D' ≤ D) (k : Nat) : dX D' k ≤ dX D k := Nat.mul_le_mul_right _ (Nat.pow_le_pow_left h k)
theorem szn_le {D D' M d k n : Nat} (h0 : 0 < D') (hl : D' ≤ D) (h : okN D M d k n = true) : SzN D' M d k := by
  obtain ⟨⟨a1, a2, a3, ⟨n', h7, h8, a4⟩, a5, a6, a7⟩, a8⟩ := szn_of h
  have e := szn_two D D' M d k
  have e1 : (szN D M d k).2.1 = (szN D' M d k).2.1 := congrArg Prod.fst e
  have e2 : (szN D M d k).2.2 = (szN D' M d k).2.2 := congrArg Prod.snd e
  simp only [szN_dX, e1, e2] at a1 a2 a3 a4 a5 a7 a8
  have p := dX_pos h0 k
  have l := dX_le hl k
  rw [← szN_dX D' M d k] at p l
  exact ⟨⟨a1.dn h0 hl (Nat.le_refl _), a2.dn p l (Nat.le_refl _), a3.dn p l (Nat.le_refl _), ⟨n', h7, h8, a4.dn (Nat.mul_pos h0 p) (Nat.mul_le_mul hl l) (Nat.le_refl _)⟩, a5.dn (Nat.mul_pos h0 p) (Nat.mul_le_mul hl l) (Nat.le_refl _), a6, a7⟩, a8.dn (Nat.mul_pos (Nat.succ_pos k) (Nat.mul_pos h0 p)) (Nat.mul_le_mul_left _ (Nat.mul_le_mul hl l)) (Nat.le_refl _)⟩
theorem sznE {D : Nat} (h0 : 0 < D) (hl : D ≤ 2 ^ 31) : ∀ i, i < 5 → SzN D 2 2 i := fun i hi => szn_le (n := 4) h0 hl (by
  have : ∀ i, i < 5 → okN (2 ^ 31) 2 2 i 4 = true := by decide +kernel
  exact this i hi)
theorem szgE (D : Nat) : ∀ i, i < 6 → (szN D 2 2 i).2.2 ≤ 6 := fun i hi => by
  have e2 : (szN D 2 2 i).2.2 = (szN 1 2 2 i).2.2 := congrArg Prod.snd (szn_two D 1 2 2 i)
  rw [e2]
  have : ∀ i, i < 6 → (szN 1 2 2 i).2.2 ≤ 6 := by decide
  exact this i hi
/-! ### the numbers of such a field -/
theorem nice_vals {D M g : Nat} {J X : List En} {R : List (List Rat)} (c : ∀ i j, cf2 R i j = cf J i j) (v : ∀ x y, evL J x y = evL X x y) (nd : (X.map (·.1)).Nodup) (b : ∀ e ∈ X, Bd D M e.2) (dg : ∀ e ∈ X, e.1.1 + e.1.2 ≤ g) : Nice D M g R :=
  nice_of nd b dg fun i j => by rw [c]; exact same_vals v i j
theorem ev_one (a x y : Rat) : evL [((0, 0), a)] x y = a := by
  show a * (1 * 1) + 0 = a
  grind
theorem inj1 (i j : Nat) (h : ((i, 0) : Nat × Nat) = (j, 0)) : i = j := (Prod.mk.inj h).1
theorem inj2 (i j : Nat) (h : ((0, i) : Nat × Nat) = (0, j)) : i = j := (Prod.mk.inj h).2
def dE (xs : List Rat) : Nat := 2 * prodD xs
theorem dE_pos (xs : List Rat) : 0 < dE xs := Nat.mul_pos (by decide) (prodD_pos xs)
theorem dE_le {xs : List Rat} (h : Sms 10 xs) (l : xs.length ≤ 3) : dE xs ≤ 2 ^ 31 := by
  have := prodD3 h l
  unfold dE
  omega
theorem enL_bd {pos : Nat → Nat × Nat} {xs : List Rat} (b : Bds L9 2 xs) : ∀ e ∈ enL pos 0 xs, Bd (dE xs) 2 e.2 := fun e he => ((bds_prodD b) _ (enL_mem he).1).mono (Nat.dvd_mul_left _ _) (Nat.le_refl _)
theorem enL_dg {pos : Nat → Nat × Nat} (hp : ∀ k, (pos k).1 + (pos k).2 = k) {xs : List Rat} (l : xs.length ≤ 3) : ∀ e ∈ enL pos 0 xs, e.1.1 + e.1.2 ≤ 2 := fun e he => by
  obtain ⟨_, k, a, b, c⟩ := enL_mem he
  rw [c, hp]
  omega
theorem nice_a {J : List En} {R : List (List Rat)} {a : Rat} {xs : List Rat} (c : ∀ i j, cf2 R i j = cf J i j) (v : ∀ x y, evL J x y = a) (b : Bd 2 2 a) : Nice (dE xs) 2 2 R :=
  nice_vals (X := [((0, 0), a)]) c (fun x y => by rw [v, ev_one]) (by simp) (fun e he => by
    simp only [List.mem_cons, List.not_mem_nil, or_false] at he
    subst he
    exact b.mono (Nat.dvd_mul_right _ _) (Nat.le_refl _)) (fun e he => by
    simp only [List.mem_cons, List.not_mem_nil, or_false] at he
    subst he
    exact Nat.zero_le _)
theorem Esy.nices {H : Hp} {t f d1 d2 ta lg : Addr} {L : Nat} {a : Rat} {xs : List Rat} {J1 J2 : List En} {R S : List (List Rat)} (h : Esy H t f d1 d2 ta lg L a xs J1 J2) (cR : ∀ i j, cf2 R i j = cf J1 i j) (cS : ∀ i j, cf2 S i j = cf J2 i j) : Nice (dE xs) 2 2 R ∧ Nice (dE xs) 2 2 S := by
  rcases h.val with ⟨_, v1, v2⟩ | ⟨_, v1, v2⟩
  · exact ⟨nice_a cR v1 h.ba, nice_vals (X := enL (fun k => (k, 0)) 0 xs) cS (fun x y => by rw [v2, ev_enX]; exact (Rat.one_mul _).symm) (enL_nd inj1) (enL_bd h.bx) (enL_dg (fun k => Nat.add_zero k) h.len)⟩
  · exact ⟨nice_vals (X := enL (fun k => (0, k)) 0 xs) cR (fun x y => by rw [v1, ev_enY]; exact (Rat.one_mul _).symm) (enL_nd inj2) (enL_bd h.bx) (enL_dg (fun k => Nat.zero_add k) h.len), nice_a cS v2 h.ba⟩
/-! ### the terms of its series -/
def eA (a : Rat) (k : Nat) (u : Rat) : Rat := match k with
  | 0 => u
  | 1 => a
  | _ => 0
def eG (xs : List Rat) (a : Rat) (k : Nat) (o u : Rat) : Rat := match k with
  | 0 => o
  | 1 => co xs 0 + u * (co xs 1 + u * co xs 2)
  | 2 => a / 2 * co xs 1 + a * co xs 2 * u
  | 3 => a * a * co xs 2 / 3
  | _ => 0
variable {p q : Rat → Rat → Rat}
theorem ch_eA {U : Rat → Rat → Rat} {a : Rat} (hU : De p q U fun _ _ => a) (n : Nat) : Ch p q n fun k x y => eA a k (U x y) := fun k _ => by
  match k with
  | 0 => exact hU.to fun x y => by show a = ((0 + 1 : Nat) : Rat) * a; rw [show ((0 + 1 : Nat) : Rat) = 1 from rfl, Rat.one_mul]
  | 1 => exact (De.const a).to fun x y => by show (0 : Rat) = ((1 + 1 : Nat) : Rat) * 0; rw [Rat.mul_zero]
  | k + 2 => exact (De.const 0).to fun x y => by show (0 : Rat) = ((k + 2 + 1 : Nat) : Rat) * 0; rw [Rat.mul_zero]
theorem ch_eG {U O : Rat → Rat → Rat} {a : Rat} {xs : List Rat} (hU : De p q U fun _ _ => a) (hO : De p q O fun x y => co xs 0 + U x y * (co xs 1 + U x y * co xs 2)) (n : Nat) : Ch p q n fun k x y => eG xs a k (O x y) (U x y) := fun k _ => by
  match k with
  | 0 => exact hO.to fun x y => by show _ = ((0 + 1 : Nat) : Rat) * _; rw [show ((0 + 1 : Nat) : Rat) = 1 from rfl, Rat.one_mul]; rfl
  | 1 => 
    refine ((De.const (co xs 0)).add (hU.mul ((De.const (co xs 1)).add (hU.mul (De.const (co xs 2)))))).to fun x y => ?_
    show 0 + (a * (co xs 1 + U x y * co xs 2) + U x y * (0 + (a * co xs 2 + U x y * 0))) = ((1 + 1 : Nat) : Rat) * (a / 2 * co xs 1 + a * co xs 2 * U x y)
    rw [show ((1 + 1 : Nat) : Rat) = 2 from rfl]
    grind
  | 2 => 
    refine ((De.const (a / 2 * co xs 1)).add (hU.smul (a * co xs 2))).to fun x y => ?_
    show 0 + a * co xs 2 * a = ((2 + 1 : Nat) : Rat) * (a * a * co xs 2 / 3)
    rw [show ((2 + 1 : Nat) : Rat) = 3 from rfl]
    grind
  | 3 => exact (De.const _).to fun x y => by show (0 : Rat) = ((3 + 1 : Nat) : Rat) * 0; rw [Rat.mul_zero]
  | k + 4 => exact (De.const 0).to fun x y => by show (0 : Rat) = ((k + 4 + 1 : Nat) : Rat) * 0; rw [Rat.mul_zero]
def eT (first : Bool) (L : Nat) (xs : List Rat) (a : Rat) (k : Nat) (x y : Rat) : Rat := match first, L with
  | true, 0 => eA a k x
  | false, 0 => eG xs a k y x
  | true, _ => eG xs a k x y
  | false, _ => eA a k y
theorem Esy.terms {H : Hp} {t f d1 d2 ta lg : Addr} {L : Nat} {a : Rat} {xs : List Rat} {J1 J2 : List En} {R S : List (List Rat)} (h : Esy H t f d1 d2 ta lg L a xs J1 J2) (cR : ∀ i j, cf2 R i j = cf J1 i j) (cS : ∀ i j, cf2 S i j = cf J2 i j) {NX NY : Nat → List En} {n : Nat} (cX : ∀ k, k ≤ n → ∀ i j, cf2 (srN R S uX k) i j = cf (NX k) i j) (cY : ∀ k, k ≤ n → ∀ i j, cf2 (srN R S uY k) i j = cf (NY k) i j) (k : Nat) (hk : k ≤ n) (x y : Rat) :
    evL (NX k) x y = eT true L xs a k x y ∧ evL (NY k) x y = eT false L xs a k x y := by
  have c1 := ser_ch cR cS cX
  have c2 := ser_ch cR cS cY
  have x0 : ∀ x y, evL (NX 0) x y = x := fun x y => ev_uX (fun i j => cX 0 (Nat.zero_le _) i j) x y
  have y0 : ∀ x y, evL (NY 0) x y = y := fun x y => ev_uY (fun i j => cY 0 (Nat.zero_le _) i j) x y
  have l3 := h.len
  rcases h.val with ⟨rfl, v1, v2⟩ | ⟨rfl, v1, v2⟩
  · have hU : De (evL J1) (evL J2) (fun x _ => x) fun _ _ => a := De.x.to v1
    have hO : De (evL J1) (evL J2) (fun _ y => y) fun x y => co xs 0 + x * (co xs 1 + x * co xs 2) := De.y.to fun x y => by rw [v2, peval3 l3]
    exact ⟨Ch.uniq c1 (ch_eA hU n) x0 k hk x y, Ch.uniq c2 (ch_eG hU hO n) y0 k hk x y⟩
  · have hU : De (evL J1) (evL J2) (fun _ y => y) fun _ _ => a := De.y.to v2
    have hO : De (evL J1) (evL J2) (fun x _ => x) fun x y => co xs 0 + y * (co xs 1 + y * co xs 2) := De.x.to fun x y => by rw [v1, peval3 l3]
    exact ⟨Ch.uniq c1 (ch_eG hU hO n) x0 k hk x y, Ch.uniq c2 (ch_eA hU n) y0 k hk x y⟩
theorem sum_eA (a u t : Rat) : rsum 6 (fun k => eA a k u * rp t k) = u + a * t := by
  show ((((((0 + u * rp t 0) + a * rp t 1) + 0 * rp t 2) + 0 * rp t 3) + 0 * rp t 4) + 0 * rp t 5) = _
  rw [show rp t 0 = 1 from rfl, show rp t 1 = 1 * t from rfl]
  grind
theorem sum_eG (xs : List Rat) (a o u t : Rat) : rsum 6 (fun k => eG xs a k o u * rp t k) = o + fw xs a u t := by
  show ((((((0 + o * rp t 0) + (co xs 0 + u * (co xs 1 + u * co xs 2)) * rp t 1) + (a / 2 * co xs 1 + a * co xs 2 * u) * rp t 2) + (a * a * co xs 2 / 3) * rp t 3) + 0 * rp t 4) + 0 * rp t 5) = _
  rw [show rp t 0 = 1 from rfl, show rp t 1 = 1 * t from rfl, show rp t 2 = 1 * t * t from rfl, show rp t 3 = 1 * t * t * t from rfl]
  unfold fw
  grind
theorem sum_eT (first : Bool) (L : Nat) (hL : L = 0 ∨ L = 1) (xs : List Rat) (a x y t : Rat) : rsum 6 (fun k => eT first L xs a k x y * rp t k) = if first = true then fX L a xs x y t else fY L a xs x y t := by
  rcases hL with rfl | rfl <;> cases first
  · exact sum_eG xs a y x t
  · exact sum_eA a x t
  · exact sum_eA a y t
  · exact sum_eG xs a x y t
end
end LW

namespace LW
open PySem PySem.Spec PyProof.Rows L2 GL
section
variable {P : Program} {w : World} {K : PySem.W.Frag} {mg : Str → Option Value} {base : Heap}
theorem sm_third : Sm 2 (1 / 3 : Rat) := ⟨by decide +kernel, by decide +kernel⟩
theorem sm_half : Sm 2 (1 / 2 : Rat) := ⟨by decide +kernel, by decide +kernel⟩
def ExOk (f : Rat → Rat → Rat) : Prop := ∃ X : List En, (∀ x y, evL X x y = f x y) ∧ (X.map (·.1)).Nodup ∧ ∀ e ∈ X, e.1.1 + e.1.2 ≤ 2 ∧ Sm 40 e.2
theorem exA_x {xs : List Rat} {a : Rat} (sx : Sms 10 xs) (sa' : Sm 10 a) (k : Nat) : ExOk fun x y => eA a k x := by
  have sa : Sm 40 a := sa'.mono (by decide)
  have s1 : Sm 40 1 := ⟨by decide +kernel, by decide +kernel⟩
  have s0 : Sm 40 (co xs 0) := (sx.co (by decide) 0).mono (by decide)
  have s1g : Sm 40 (co xs 1) := (sx.co (by decide) 1).mono (by decide)
  have s2 : Sm 40 (co xs 2) := (sx.co (by decide) 2).mono (by decide)
  have sm2 : Sm 40 (a / 2 * co xs 1) := by
    rw [show a / 2 = a * (1 / 2) by grind]
    exact ((sa'.mul sm_half).mul (sx.co (by decide) 1)).mono (by decide)
  have sm3 : Sm 40 (a * co xs 2) := (sa'.mul (sx.co (by decide) 2)).mono (by decide)
  have sm4 : Sm 40 (a * a * co xs 2 / 3) := by
    rw [show a * a * co xs 2 / 3 = a * a * co xs 2 * (1 / 3) by grind]
    exact (((sa'.mul sa').mul (sx.co (by decide) 2)).mul sm_third).mono (by decide)
  match k with
  | 0 => exact ⟨[((1, 0), 1)], fun x y => by
      show (1) * ((1 * x) * 1) + (0) = x
      grind, by show ([(1, 0)] : List (Nat × Nat)).Nodup; decide, fun e he => by
      simp only [List.mem_cons, List.not_mem_nil, or_false] at he
      rcases he with rfl
      · exact ⟨by show 1 + 0 ≤ 2; decide, s1⟩⟩
  | 1 => exact ⟨[((0, 0), a)], fun x y => by
      show (a) * (1 * 1) + (0) = a
      grind, by show ([(0, 0)] : List (Nat × Nat)).Nodup; decide, fun e he => by
      simp only [List.mem_cons, List.not_mem_nil, or_false] at he
      rcases he with rfl
      · exact ⟨by show 0 + 0 ≤ 2; decide, sa⟩⟩
  | k + 2 => exact ⟨[], fun x y => by
      show 0 = 0
      rfl, by simp, fun e he => nomatch he⟩
theorem exG_x {xs : List Rat} {a : Rat} (sx : Sms 10 xs) (sa' : Sm 10 a) (k : Nat) : ExOk fun x y => eG xs a k y x := by
  have sa : Sm 40 a := sa'.mono (by decide)
  have s1 : Sm 40 1 := ⟨by decide +kernel, by decide +kernel⟩
  have s0 : Sm 40 (co xs 0) := (sx.co (by decide) 0).mono (by decide)
  have s1g : Sm 40 (co xs 1) := (sx.co (by decide) 1).mono (by decide)
  have s2 : Sm 40 (co xs 2) := (sx.co (by decide) 2).mono (by decide)
  have sm2 : Sm 40 (a / 2 * co xs 1) := by
    rw [show a / 2 = a * (1 / 2) by grind]
    exact ((sa'.mul sm_half).mul (sx.co (by decide) 1)).mono (by decide)
  have sm3 : Sm 40 (a * co xs 2) := (sa'.mul (sx.co (by decide) 2)).mono (by decide)
  have sm4 : Sm 40 (a * a * co xs 2 / 3) := by
    rw [show a * a * co xs 2 / 3 = a * a * co xs 2 * (1 / 3) by grind]
    exact (((sa'.mul sa').mul (sx.co (by decide) 2)).mul sm_third).mono (by decide)
  match k with
  | 0 => exact ⟨[((0, 1), 1)], fun x y => by
      show (1) * (1 * (1 * y)) + (0) = y
      grind, by show ([(0, 1)] : List (Nat × Nat)).Nodup; decide, fun e he => by
      simp only [List.mem_cons, List.not_mem_nil, or_false] at he
      rcases he with rfl
      · exact ⟨by show 0 + 1 ≤ 2; decide, s1⟩⟩
  | 1 => exact ⟨[((0, 0), co xs 0), ((1, 0), co xs 1), ((2, 0), co xs 2)], fun x y => by
      show (co xs 0) * (1 * 1) + ((co xs 1) * ((1 * x) * 1) + ((co xs 2) * ((1 * x * x) * 1) + (0))) = co xs 0 + x * (co xs 1 + x * co xs 2)
      grind, by show ([(0, 0), (1, 0), (2, 0)] : List (Nat × Nat)).Nodup; decide, fun e he => by
      simp only [List.mem_cons, List.not_mem_nil, or_false] at he
      rcases he with rfl | rfl | rfl
      · exact ⟨by show 0 + 0 ≤ 2; decide, s0⟩
      · exact ⟨by show 1 + 0 ≤ 2; decide, s1g⟩
      · exact ⟨by show 2 + 0 ≤ 2; decide, s2⟩⟩
  | 2 => exact ⟨[((0, 0), a / 2 * co xs 1), ((1, 0), a * co xs 2)], fun x y => by
      show (a / 2 * co xs 1) * (1 * 1) + ((a * co xs 2) * ((1 * x) * 1) + (0)) = a / 2 * co xs 1 + a * co xs 2 * x
      grind, by show ([(0, 0), (1, 0)] : List (Nat × Nat)).Nodup; decide, fun e he => by
      simp only [List.mem_cons, List.not_mem_nil, or_false] at he
      rcases he with rfl | rfl
      · exact ⟨by show 0 + 0 ≤ 2; decide, sm2⟩
      · exact ⟨by show 1 + 0 ≤ 2; decide, sm3⟩⟩
  | 3 => exact ⟨[((0, 0), a * a * co xs 2 / 3)], fun x y => by
      show (a * a * co xs 2 / 3) * (1 * 1) + (0) = a * a * co xs 2 / 3
      grind, by show ([(0, 0)] : List (Nat × Nat)).Nodup; decide, fun e he => by
      simp only [List.mem_cons, List.not_mem_nil, or_false] at he
      rcases he with rfl
      · exact ⟨by show 0 + 0 ≤ 2; decide, sm4⟩⟩
  | k + 4 => exact ⟨[], fun x y => by
      show 0 = 0
      rfl, by simp, fun e he => nomatch he⟩
theorem exA_y {xs : List Rat} {a : Rat} (sx : Sms 10 xs) (sa' : Sm 10 a) (k : Nat) : ExOk fun x y => eA a k y := by
  have sa : Sm 40 a := sa'.mono (by decide)
  have s1 : Sm 40 1 := ⟨by decide +kernel, by decide +kernel⟩
  have s0 : Sm 40 (co xs 0) := (sx.co (by decide) 0).mono (by decide)
  have s1g : Sm 40 (co xs 1) := (sx.co (by decide) 1).mono (by decide)
  have s2 : Sm 40 (co xs 2) := (sx.co (by decide) 2).mono (by decide)
  have sm2 : Sm 40 (a / 2 * co xs 1) := by
    rw [show a / 2 = a * (1 / 2) by grind]
    exact ((sa'.mul sm_half).mul (sx.co (by decide) 1)).mono (by decide)
  have sm3 : Sm 40 (a * co xs 2) := (sa'.mul (sx.co (by decide) 2)).mono (by decide)
  have sm4 : Sm 40 (a * a * co xs 2 / 3) := by
    rw [show a * a * co xs 2 / 3 = a * a * co xs 2 * (1 / 3) by grind]
    exact (((sa'.mul sa').mul (sx.co (by decide) 2)).mul sm_third).mono (by decide)
  match k with
  | 0 => exact ⟨[((0, 1), 1)], fun x y => by
      show (1) * (1 * (1 * y)) + (0) = y
      grind, by show ([(0, 1)] : List (Nat × Nat)).Nodup; decide, fun e he => by
      simp only [List.mem_cons, List.not_mem_nil, or_false] at he
      rcases he with rfl
      · exact ⟨by show 0 + 1 ≤ 2; decide, s1⟩⟩
  | 1 => exact ⟨[((0, 0), a)], fun x y => by
      show (a) * (1 * 1) + (0) = a
      grind, by show ([(0, 0)] : List (Nat × Nat)).Nodup; decide, fun e he => by
      simp only [List.mem_cons, List.not_mem_nil, or_false] at he
      rcases he with rfl
      · exact ⟨by show 0 + 0 ≤ 2; decide, sa⟩⟩
  | k + 2 => exact ⟨[], fun x y => by
      show 0 = 0
      rfl, by simp, fun e he => nomatch he⟩
theorem exG_y {xs : List Rat} {a : Rat} (sx : Sms 10 xs) (sa' : Sm 10 a) (k : Nat) : ExOk fun x y => eG xs a k x y := by
  have sa : Sm 40 a := sa'.mono (by decide)
  have s1 : Sm 40 1 := ⟨by decide +kernel, by decide +kernel⟩
  have s0 : Sm 40 (co xs 0) := (sx.co (by decide) 0).mono (by decide)
  have s1g : Sm 40 (co xs 1) := (sx.co (by decide) 1).mono (by decide)
  have s2 : Sm 40 (co xs 2) := (sx.co (by decide) 2).mono (by decide)
  have sm2 : Sm 40 (a / 2 * co xs 1) := by
    rw [show a / 2 = a * (1 / 2) by grind]
    exact ((sa'.mul sm_half).mul (sx.co (by decide) 1)).mono (by decide)
  have sm3 : Sm 40 (a * co xs 2) := (sa'.mul (sx.co (by decide) 2)).mono (by decide)
  have sm4 : Sm 40 (a * a * co xs 2 / 3) := by
    rw [show a * a * co xs 2 / 3 = a * a * co xs 2 * (1 / 3) by grind]
    exact (((sa'.mul sa').mul (sx.co (by decide) 2)).mul sm_third).mono (by decide)
  match k with
  | 0 => exact ⟨[((1, 0), 1)], fun x y => by
      show (1) * ((1 * x) * 1) + (0) = x
      grind, by show ([(1, 0)] : List (Nat × Nat)).Nodup; decide, fun e he => by
      simp only [List.mem_cons, List.not_mem_nil, or_false] at he
      rcases he with rfl
      · exact ⟨by show 1 + 0 ≤ 2; decide, s1⟩⟩
  | 1 => exact ⟨[((0, 0), co xs 0), ((0, 1), co xs 1), ((0, 2), co xs 2)], fun x y => by
      show (co xs 0) * (1 * 1) + ((co xs 1) * (1 * (1 * y)) + ((co xs 2) * (1 * (1 * y * y)) + (0))) = co xs 0 + y * (co xs 1 + y * co xs 2)
      grind, by show ([(0, 0), (0, 1), (0, 2)] : List (Nat × Nat)).Nodup; decide, fun e he => by
      simp only [List.mem_cons, List.not_mem_nil, or_false] at he
      rcases he with rfl | rfl | rfl
      · exact ⟨by show 0 + 0 ≤ 2; decide, s0⟩
      · exact ⟨by show 0 + 1 ≤ 2; decide, s1g⟩
      · exact ⟨by show 0 + 2 ≤ 2; decide, s2⟩⟩
  | 2 => exact ⟨[((0, 0), a / 2 * co xs 1), ((0, 1), a * co xs 2)], fun x y => by
      show (a / 2 * co xs 1) * (1 * 1) + ((a * co xs 2) * (1 * (1 * y)) + (0)) = a / 2 * co xs 1 + a * co xs 2 * y
      grind, by show ([(0, 0), (0, 1)] : List (Nat × Nat)).Nodup; decide, fun e he => by
      simp only [List.mem_cons, List.not_mem_nil, or_false] at he
      rcases he with rfl | rfl
      · exact ⟨by show 0 + 0 ≤ 2; decide, sm2⟩
      · exact ⟨by show 0 + 1 ≤ 2; decide, sm3⟩⟩
  | 3 => exact ⟨[((0, 0), a * a * co xs 2 / 3)], fun x y => by
      show (a * a * co xs 2 / 3) * (1 * 1) + (0) = a * a * co xs 2 / 3
      grind, by show ([(0, 0)] : List (Nat × Nat)).Nodup; decide, fun e he => by
      simp only [List.mem_cons, List.not_mem_nil, or_false] at he
      rcases he with rfl
      · exact ⟨by show 0 + 0 ≤ 2; decide, sm4⟩⟩
  | k + 4 => exact ⟨[], fun x y => by
      show 0 = 0
      rfl, by simp, fun e he => nomatch he⟩
theorem exT_ok {xs : List Rat} {a : Rat} (sx : Sms 10 xs) (sa : Sm 10 a) (first : Bool) {L : Nat} (hL : L = 0 ∨ L = 1) (k : Nat) : ExOk (eT first L xs a k) := by
  rcases hL with rfl | rfl <;> cases first
  · exact exG_x sx sa k
  · exact exA_x sx sa k
  · exact exA_y sx sa k
  · exact exG_y sx sa k
/-- the law's value of a dict whose numbers are known -/
theorem c_vatE {H : Hp} {ta : TA} {σ : L2.St} {d z px py : Addr} {N : List En} {X Y : Rat} {f : Rat → Rat → Rat} {Q : VK} {E : XK} (h : VA ta σ H [.ref d, .ref z]) (dw : DW H d N) (nn : nz N) (v : ∀ x y, evL N x y = f x y) (ok : ExOk f) (ez : H z = some (.tup [.ref px, .ref py])) (lx : Lo H px X) (ly : Lo H py Y) (sx : Sm 10 X) (sy : Sm 10 Y)
    (k : ∀ p H', L2.Same H H' → Lo H' p (f X Y) → Sm 650 (f X Y) → Q (.ref p) H') : tCall spVAt [] E ta σ H Q := by
  obtain ⟨M, vM, nd, hM⟩ := ok
  have nN := DE.nodup dw
  have ec : ∀ i j, cf N i j = cf M i j := same_vals fun x y => by rw [v, vM]
  have sN : SmC 40 N := fun i j => by rw [ec]; exact SmC.of (by decide) (fun e he => (hM e he).2) nd i j
  have dg : ∀ e ∈ N, e.1.1 + e.1.2 ≤ 2 := fun e he => by
    have c : cf N e.1.1 e.1.2 = e.2 := cf_in (k := e.1) (q := e.2) he nN
    by_cases y : e.1 ∈ M.map (·.1)
    · obtain ⟨e', he', y'⟩ := List.mem_map.mp y
      have := (hM e' he').1
      rw [y'] at this
      exact this
    · have : cf M e.1.1 e.1.2 = 0 := cf_out y
      rw [ec, this] at c
      exact (nn e he c.symm).elim
  have ll := keys_len nN dg
  have hb : (40 + 10 * 2 + 3) * (N.length + 1) ≤ 63 * 10 := Nat.mul_le_mul (by decide) (by omega)
  have e1 : evL N X Y = f X Y := v X Y
  have sv : Sm 650 (f X Y) := by
    rw [← e1]
    have : ∀ F : List En, (∀ e ∈ F, e ∈ N) → Sm ((40 + 10 * 2 + 3) * F.length + 1) (evL F X Y) := fun F => by
      induction F with
      | nil => exact fun _ => Sm.zero (by decide)
      | cons e F ih =>
        intro hF
        have i1 := ih fun b hb => hF b (List.mem_cons_of_mem _ hb)
        have he := hF e (List.mem_cons_self ..)
        have d2 := dg e he
        have se : Sm 40 e.2 := by
          have := cf_in (k := e.1) (q := e.2) he nN
          exact this ▸ sN _ _
        have p1 := sm_rp sx e.1.1
        have p2 := sm_rp sy e.1.2
        have : (40 + 10 * 2 + 3) * (e :: F).length = (40 + 10 * 2 + 3) * F.length + (40 + 10 * 2 + 3) := Nat.mul_succ _ _
        rw [evL_cons]
        exact ((se.mul (p1.mul p2)).add i1).mono (by omega)
    exact (this N fun _ h => h).mono (by omega)
  exact c_call h ⟨d, z, px, py, N, X, Y, 40, 10, 2, rfl, dw.dp, ez, lx, ly, dg, sN, sx, sy, by omega, by decide, by decide, by omega, fun p H' s lo => k p H' s (e1 ▸ lo) sv⟩
end
end LW

namespace LW
open PySem PySem.Spec PyProof.Rows L2 GL
section
variable {P : Program} {w : World} {K : PySem.W.Frag} {mg : Str → Option Value} {base : Heap}
theorem KF.le {g k k' : Nat} {F : List En} (h : KF g k F) (l : k ≤ k') : KF g k' F := ⟨h.deg, h.sm, fun e he => (h.bd e he).le l⟩
theorem ne_int {i j : Int} {H : Hp} {Q : VK} (e : i = j) (q : Q (.bl false) H) : rNe (.int i) (.int j) H Q := by
  subst e
  exact ne_sameV (by simp [scal]) q
theorem ne_none {H : Hp} {a b : Addr} {Q : VK} (h1 : H a = some (.lst [])) (h2 : H b = some (.lst [])) (k : Q (.bl false) H) : rNeD K (.ref a) (.ref b) H Q :=
  ⟨.list [], .list [], .lst (SqL.of h1) .nil, .lst (SqL.of h2) .nil, list_shaped rfl (by decide), list_shaped rfl (by decide), k⟩
theorem iteN' {c : Bool} {p q : Prop} (e : c = false) (h : q) : if c = true then p else q := by rw [e]; exact h
theorem l_or {t u : TT} {σ : L2.St} {H : Hp} {Q : Bool → Hp → Prop} (h : t σ H fun c H1 => if c = true then Q true H1 else u σ H1 Q) : tOr t u σ H Q := h
/-- [x for x in xs if ..], where none is taken -/
theorem l_lcTF {σ : L2.St} {H : Hp} {ti te : TE} {tt : TT} {vs : List Nat} {Q : VK} {a : Addr} {xs : List V} {j : Nat} (h : Val ti σ H (.ref a)) (hx : H a = some (.tup xs)) (hw : ∀ x, wipe ((wipe σ vs).set j (some x)) vs = wipe σ vs)
    (hs : ∀ (i : Nat) x H1, xs[i]? = some x → Same H H1 → ∀ K' : Bool → Hp → Prop, K' false H1 → tt ((wipe σ vs).set j (some x)) H1 K') (q : ∀ D H1, Same H H1 → H1 D = some (.lst []) → Q (.ref D) H1) : tLc (iTup K ti) (gName j) tt te vs σ H Q :=
  h _ ⟨a, rfl, ⟨xs, SqT.of hx⟩, fun D hD => lc_tup (K := K) (a := a) (xs := xs) (fun _ H1 => Same H H1 ∧ H1 D = some (.lst [])) ⟨Same.new' hD, upd_same⟩ (fun i H1 _ p => SqT.of (p.1 _ _ hx)) (fun i x H1 e p => g_name ⟨hw x, hs i x H1 e p.1 _ (iteF p)⟩) (fun H1 p => q D H1 p.1 p.2)⟩
/-- [.. for x in xs], with the new list told -/
theorem l_lcTf {σ : L2.St} {H : Hp} {ti te : TE} {g : TG} {vs : List Nat} {Q : VK} {a : Addr} {xs : List V} {R : Nat → V → Hp → Prop} (st : ∀ k, Stays (R k)) (of : Off R) (h : Val ti σ H (.ref a)) (hx : H a = some (.tup xs)) (hn : xs.length ≤ 10000) (hs : ∀ i x H1, xs[i]? = some x → Same H H1 → Turn1 g te vs σ x H1 (R i))
    (q : ∀ p ys H', Same H H' → H p = none → H' p = some (.lst ys) → Rows R 0 xs.length ys H' → Q (.ref p) H') : tLc (iTup K ti) g tYes te vs σ H Q :=
  h _ ⟨a, rfl, ⟨xs, SqT.of hx⟩, fun D hD => lc_tup (K := K) (a := a) (xs := xs) (LcP R H D) ⟨[], Same.new' hD, upd_same, hD, trivial, rfl⟩ (fun i H1 _ p => SqT.of (p.choose_spec.1 _ _ hx)) (fun i x H1 e p => lc_step st of p (by
    have := (List.getElem?_eq_some_iff.mp e).1
    omega) (hs i x H1 e)) (fun H1 ⟨ys, s, e, nD, r⟩ => q D ys H1 s nD e r)⟩
/-! ### orders that are none -/
inductive OdN (H : Hp) : V → Prop
  | m1 : OdN H (.int (-1))
  | m7 : OdN H (.int 7)
  | bl : OdN H (.bl true)
  | non : OdN H .non
  | str : OdN H (.str "2")
  | tup {q : Addr} (e : H q = some (.tup [.int 1, .int 1])) : OdN H (.ref q)
theorem OdN.same {H H' : Hp} {v : V} (g : OdN H v) (s : L2.Same H H') : OdN H' v := by
  cases g with
  | m1 => exact .m1
  | m7 => exact .m7
  | bl => exact .bl
  | non => exact .non
  | str => exact .str
  | tup e => exact .tup (s _ _ e)
theorem OdN.but {H H' : Hp} {v : V} {p c : Addr} {m : Nat} (g : OdN H v) (P : PenAt H p c m) (b : But p H H') : OdN H' v := by
  cases g with
  | m1 => exact .m1
  | m7 => exact .m7
  | bl => exact .bl
  | non => exact .non
  | str => exact .str
  | tup e => exact .tup (pen_keep P b e (fun _ z => by cases z))
theorem OdN.no {H : Hp} {v : V} (g : OdN H v) : (∃ i, v = .int i ∧ (i < 0 ∨ 6 < i)) ∨ ∃ n, Is H v n ∧ n ≠ "int" := by
  cases g with
  | m1 => exact .inl ⟨-1, rfl, by decide⟩
  | m7 => exact .inl ⟨7, rfl, by decide⟩
  | bl => exact .inr ⟨_, .bl _, by decide⟩
  | non => exact .inr ⟨_, .non, by decide⟩
  | str => exact .inr ⟨_, .str _, by decide⟩
  | tup e => exact .inr ⟨_, .tup e, by decide⟩
theorem OdN.fine {H : Hp} {v : V} (g : OdN H v) : ∃ d, Fine K H v d := by
  cases g with
  | m1 => exact kkF (.int _) (by decide +kernel)
  | m7 => exact kkF (.int _) (by decide +kernel)
  | bl => exact kkF (.bl _) (by decide +kernel)
  | non => exact kkF .non (by decide +kernel)
  | str => exact kkF (.str _) (by decide +kernel)
  | tup e => exact kkF (.tup (SqT.of e) (.cons (.int _) (.cons (.int _) .nil))) (by decide +kernel)
theorem OdN.bare {H : Hp} {v : V} (g : OdN H v) : OdN (bareH H) v := by
  cases g with
  | m1 => exact .m1
  | m7 => exact .m7
  | bl => exact .bl
  | non => exact .non
  | str => exact .str
  | tup e => exact .tup (bare_at e (fun _ z => by cases z))
def OdNv (v : V) (H : Hp) : Prop := OdN H v
/-! ### the sizes of the drawn field -/
structure Dr (g n : Nat) : Prop where
  n6 : n ≤ 6
  g3 : 1 ≤ g ∧ g ≤ 3
  sz : ∀ i, i < n → SzN L9 2 g i
  dg : ∀ t, t ≤ n → (szN L9 2 g t).2.2 ≤ 15
  gg : ∃ G, 3 * G ≤ 15 ∧ ∀ t, t < n → (szN L9 2 g t).2.2 ≤ G
  bb : ∀ t, t ≤ n → (szN L9 2 g t).2.1 ≤ 2 ^ 27
def drB (g n G : Nat) : Bool := decide (3 * G ≤ 15) && (List.range n).all (fun t => decide ((szN L9 2 g t).2.2 ≤ G)) && (List.range (n + 1)).all (fun t => decide ((szN L9 2 g t).2.2 ≤ 15) && decide ((szN L9 2 g t).2.1 ≤ 2 ^ 27))
theorem dr_le {g n m G : Nat} (hm : m ≤ n) (n6 : n ≤ 6) (g3 : 1 ≤ g ∧ g ≤ 3) (sz : ∀ i, i < n → SzN L9 2 g i) (h : drB g n G = true) : Dr g m := by
  unfold drB at h
  simp only [Bool.and_eq_true, decide_eq_true_iff, List.all_eq_true, List.mem_range] at h
  exact ⟨by omega, g3, fun i hi => sz i (by omega), fun t ht => (h.2 t (by omega)).1, ⟨G, h.1.1, fun t ht => h.1.2 t (by omega)⟩, fun t ht => (h.2 t (by omega)).2⟩
theorem dr_of {g n : Nat} (h : (g = 1 ∧ n ≤ 6) ∨ (g = 2 ∧ n ≤ 4) ∨ (g = 3 ∧ n ≤ 3)) : Dr g n := by
  rcases h with ⟨rfl, h⟩ | ⟨rfl, h⟩ | ⟨rfl, h⟩
  · exact dr_le (G := 1) h (by decide) (by decide) szn1 (by decide +kernel)
  · exact dr_le (G := 5) h (by decide) (by decide) szn2 (by decide +kernel)
  · exact dr_le (G := 5) h (by decide) (by decide) szn3 (by decide +kernel)
def fzAll (n B : Nat) : Bool := (List.range n).all (fun i => fzB (dC L9 i) (16 * aS B 3)) && (List.range (n + 1)).all (fun i => fzB (dX L9 i) B)
theorem fz_all : fzAll 6 (2 ^ 27) = true := by decide +kernel
theorem fzC (i : Nat) (h : i < 6) : Fz (dC L9 i) (16 * aS (2 ^ 27) 3) := by
  have := fz_all
  unfold fzAll at this
  simp only [Bool.and_eq_true, List.all_eq_true, List.mem_range] at this
  exact fz_of (this.1 i h)
theorem fzX (i : Nat) (h : i ≤ 6) : Fz (dX L9 i) (2 ^ 27) := by
  have := fz_all
  unfold fzAll at this
  simp only [Bool.and_eq_true, List.all_eq_true, List.mem_range] at this
  exact fz_of (this.2 i (by omega))
/-! ### the rows of the told terms -/
def Tm1 (n g : Nat) (d1 d2 : Addr) (R S U : List (List Rat)) (t : Nat) (v : V) (H : Hp) : Prop := ∃ (d : Addr) (N : List En), v = .ref d ∧ Pd H d N (szN L9 2 g t).2.2 (srN R S U t) ∧ d ≠ d1 ∧ d ≠ d2
theorem tm1_st {n g : Nat} {d1 d2 : Addr} {R S U : List (List Rat)} (t : Nat) : Stays (Tm1 n g d1 d2 R S U t) := fun _ _ _ s ⟨d, N, e, p, a, b⟩ => ⟨d, N, e, p.same s, a, b⟩
theorem tm1_off {n g : Nat} {d1 d2 : Addr} {R S U : List (List Rat)} : Off (Tm1 n g d1 d2 R S U) := fun t v H D ys zs ⟨d, N, e, p, a, b⟩ hD => ⟨d, N, e, ⟨p.dw.offL hD, p.dg, p.nz, p.cf⟩, a, b⟩
theorem tms_of {H : Hp} {l d1 d2 : Addr} {n g : Nat} {R S U : List (List Rat)} {ws : List V} (dr : Dr g n) {G : Nat} (hG : ∀ t, t < n → (szN L9 2 g t).2.2 ≤ G) (nR : Nice L9 2 g R) (nS : Nice L9 2 g S) (nU : Nice 1 1 1 U) (e : H l = some (.lst ws)) (r : Rows (Tm1 n g d1 d2 R S U) 0 (n + 1) ws H) :
    ∃ NX, Tms H l n G (2 ^ 27) (dX L9) d1 d2 R S U NX ws := by
  have at_ : ∀ t : Nat, ∃ N : List En, t ≤ n → ∀ v, ws[t]? = some v → ∃ d, v = V.ref d ∧ Pd H d N (szN L9 2 g t).2.2 (srN R S U t) ∧ d ≠ d1 ∧ d ≠ d2 := fun t => by
    by_cases h : t ≤ n
    · have ht : t < ws.length := by rw [r.2]; omega
      obtain ⟨d, N, e, p, a, b⟩ := r.1.get (i := t) (List.getElem?_eq_getElem ht)
      rw [Nat.zero_add] at p
      refine ⟨N, fun _ v hv => ?_⟩
      rw [List.getElem?_eq_getElem ht, e] at hv
      cases hv
      exact ⟨d, rfl, p, a, b⟩
    · exact ⟨[], fun z => (h z).elim⟩
  obtain ⟨NX, hN⟩ := Classical.axiomOfChoice at_
  refine ⟨NX, e, r.2, fun t v hv => ?_, fun t ht => ?_⟩
  · have ht : t < ws.length := (List.getElem?_eq_some_iff.mp hv).1
    rw [r.2] at ht
    obtain ⟨d, ev, p, a, b⟩ := hN t (by omega) v hv
    have nc := nice_srN nR nS nU t
    have bd := p.bdc nc
    rw [szN_dX] at bd
    exact ⟨d, ev, p.dw, ⟨fun e he => Nat.le_trans (p.dg e he) (dr.dg t (by omega)), fun h e he => Nat.le_trans (p.dg e he) (hG t h)⟩, fun i j => (bd i j).le (dr.bb t (by omega)), p.nz, a, b⟩
  · have hl : t < ws.length := by rw [r.2]; omega
    obtain ⟨d, ev, p, _⟩ := hN t ht _ (List.getElem?_eq_getElem hl)
    exact p.cf
def RowF (n g G : Nat) (d1 d2 : Addr) (R S : List (List Rat)) (D : Addr) (k : Nat) (v : V) (H : Hp) : Prop := ∃ l ws NX, v = V.ref l ∧ l ≠ D ∧ Tms H l n G (2 ^ 27) (dX L9) d1 d2 R S (if k = 0 then uX else uY) NX ws
theorem rowf_st {n g G : Nat} {d1 d2 : Addr} {R S : List (List Rat)} (D : Addr) (k : Nat) : Stays (RowF n g G d1 d2 R S D k) := fun _ _ _ s ⟨l, ws, NX, e, ne, t⟩ => ⟨l, ws, NX, e, ne, t.same s⟩
theorem rowf_off {n g G : Nat} {d1 d2 : Addr} {R S : List (List Rat)} : OffL (RowF n g G d1 d2 R S) := fun D k v H ys zs ⟨l, ws, NX, e, ne, t⟩ hD => ⟨l, ws, NX, e, ne, by rw [upd_ne ne]; exact t.el, t.len, fun i v hv => by
  obtain ⟨d, e, dw, r⟩ := t.at_ i v hv
  exact ⟨d, e, dw.offL hD, r⟩, t.cf⟩
theorem dC0 : dC L9 0 = L9 := by decide +kernel
/-! ### the easy field's part -/
theorem ne_lo {H : Hp} {x y : Addr} {q : Rat} {Q : VK} (h1 : Lo H x q) (h2 : Lo H y q) (k : Q (.bl false) H) : rNeD K (.ref x) (.ref y) H Q := by
  have sh : SeqAt.shaped (.tuple [.int q.num, .int (q.den : Int)]) = true := by simp [SeqAt.shaped, PyData.canLay0, PyData.canLayAll0, PyData.depth, PyData.depthAll]
  have eq : PyData.eqv (.tuple [.int q.num, .int (q.den : Int)]) (.tuple [.int q.num, .int (q.den : Int)]) = true := by simp [PyData.eqv, PyData.eqvAll]
  refine ⟨.tuple [.int q.num, .int (q.den : Int)], .tuple [.int q.num, .int (q.den : Int)], .tup (SqT.of h1) (.cons (.int _) (.cons (.int _) .nil)), .tup (SqT.of h2) (.cons (.int _) (.cons (.int _) .nil)), sh, sh, ?_⟩
  rw [eq]
  exact k
theorem q_forET {σ : L2.St} {H : Hp} {ta : TA} {g : TG} {tb tz : TS} {D : Ends} {a : Addr} {xs : List V} (h : VA ta σ H [.ref a]) (hx : SqT K H a xs) (Pv : Nat → L2.St → Hp → Prop) (h0 : Pv 0 σ H) (hq : ∀ i σ H, Pv i σ H → SqT K H a xs)
    (hs : ∀ (i : Nat) (x : V) (T : Addr) (σ : L2.St) (H : Hp), xs[i]? = some x → Pv i σ H → H T = none → g (.ref T) σ (upd H T (.tup [.int (i : Nat), x])) fun σ2 H2 => tb { D with nx := Pv (i + 1), ct := Pv (i + 1), bk := tz D } σ2 H2)
    (hd : ∀ σ H, Pv xs.length σ H → tz D σ H) : tSeq (tFor (iEnumT K ta) g tb) tz D σ H := by
  refine h _ ⟨a, xs, rfl, hx, fun i m σ H => m = xs.length - i ∧ i ≤ xs.length ∧ Pv i σ H, ⟨_, rfl, Nat.zero_le _, h0⟩, ?_⟩
  rintro i m σ H ⟨rfl, hi, p⟩
  have q := hq i σ H p
  rcases Nat.lt_or_ge i xs.length with lt | ge
  · refine .inr ⟨⟨xs, xs[i], q, List.getElem?_eq_getElem lt⟩, Pv (i + 1), fun σ' H' p' => ⟨xs.length - (i + 1), by omega, rfl, lt, p'⟩, ?_⟩
    rintro v H' ⟨T, x, rfl, hT, rfl, f⟩
    exact hs i x T σ H (f xs q) p hT
  · obtain rfl : i = xs.length := by omega
    exact .inl ⟨⟨xs, q, rfl⟩, hd σ H p⟩
theorem s_vatE {H : Hp} {d z px py : Addr} {N : List En} {X Y : Rat} {f : Rat → Rat → Rat} {Q : VK} {E : XK} (dw : DW H d N) (nn : nz N) (v : ∀ x y, evL N x y = f x y) (ok : ExOk f) (ez : H z = some (.tup [.ref px, .ref py])) (lx : Lo H px X) (ly : Lo H py Y) (sx : Sm 10 X) (sy : Sm 10 Y)
    (k : ∀ p H', L2.Same H H' → Lo H' p (f X Y) → Q (.ref p) H') : spVAt ([.ref d, .ref z] ++ []) H Q E :=
  c_vatE (E := E) (σ := []) (ta := tCons (tC (.ref d)) (tCons (tC (.ref z)) tNil)) (va_cons val_c (va_cons val_c va_nil)) dw nn v ok ez lx ly sx sy fun p H' s lo _ => k p H' s lo
theorem sm_eA {a u : Rat} (sa : Sm 10 a) (su : Sm 10 u) (k : Nat) : Sm 60 (eA a k u) := by
  match k with
  | 0 => exact su.mono (by decide)
  | 1 => exact sa.mono (by decide)
  | k + 2 => exact Sm.zero (by decide)
theorem sm_eG {a o u : Rat} {xs : List Rat} (sx : Sms 10 xs) (sa : Sm 10 a) (so : Sm 10 o) (su : Sm 10 u) (k : Nat) : Sm 60 (eG xs a k o u) := by
  have c := fun i => sx.co (by decide : 1 ≤ 10) i
  match k with
  | 0 => exact so.mono (by decide)
  | 1 => exact ((c 0).add (su.mul ((c 1).add (su.mul (c 2))))).mono (by decide)
  | 2 => 
    show Sm 60 (a / 2 * co xs 1 + a * co xs 2 * u)
    rw [show a / 2 = a * (1 / 2) by grind]
    exact (((sa.mul sm_half).mul (c 1)).add ((sa.mul (c 2)).mul su)).mono (by decide)
  | 3 => 
    show Sm 60 (a * a * co xs 2 / 3)
    rw [show a * a * co xs 2 / 3 = a * a * co xs 2 * (1 / 3) by grind]
    exact (((sa.mul sa).mul (c 2)).mul sm_third).mono (by decide)
  | k + 4 => exact Sm.zero (by decide)
theorem sm_eT {xs : List Rat} {a X Y : Rat} (sx : Sms 10 xs) (sa : Sm 10 a) (sX : Sm 10 X) (sY : Sm 10 Y) (first : Bool) {L : Nat} (hL : L = 0 ∨ L = 1) (k : Nat) : Sm 60 (eT first L xs a k X Y) := by
  rcases hL with rfl | rfl <;> cases first
  · exact sm_eG sx sa sY sX k
  · exact sm_eA sa sX k
  · exact sm_eA sa sY k
  · exact sm_eG sx sa sX sY k
theorem list_of {D M g : Nat} {R : List (List Rat)} (n : Nice D M g R) : ∃ L : List En, (∀ i j, cf2 R i j = cf L i j) ∧ ∀ e ∈ L, e.1.1 + e.1.2 ≤ g := by
  have keys : (((box g g).filter fun p => decide (p.1 + p.2 ≤ g)).map fun p => ((p, cf2 R p.1 p.2) : En)).map (·.1) = (box g g).filter fun p => decide (p.1 + p.2 ≤ g) := by
    rw [List.map_map]
    exact List.map_id _
  refine ⟨((box g g).filter fun p => decide (p.1 + p.2 ≤ g)).map fun p => (p, cf2 R p.1 p.2), fun i j => ?_, fun e he => ?_⟩
  · by_cases z : i + j ≤ g
    · refine (cf_in (k := (i, j)) (q := cf2 R i j) ?_ (by rw [keys]; exact (nodup_box g g).filter _)).symm
      exact List.mem_map.mpr ⟨(i, j), List.mem_filter.mpr ⟨mem_box.mpr ⟨by omega, by omega⟩, decide_eq_true z⟩, rfl⟩
    · rw [n.dg i j (by omega)]
      refine (cf_out fun y => ?_).symm
      rw [keys] at y
      exact z (of_decide_eq_true (List.mem_filter.mp y).2)
  · obtain ⟨p, hp, rfl⟩ := List.mem_map.mp he
    exact of_decide_eq_true (List.mem_filter.mp hp).2
theorem Esy.term {H : Hp} {t f d1 d2 ta lg : Addr} {L D M g : Nat} {a : Rat} {xs : List Rat} {J1 J2 : List En} {R S : List (List Rat)} (h : Esy H t f d1 d2 ta lg L a xs J1 J2) (cR : ∀ i j, cf2 R i j = cf J1 i j) (cS : ∀ i j, cf2 S i j = cf J2 i j) (nR : Nice D M g R) (nS : Nice D M g S) (first : Bool) (k : Nat) {N : List En} (cN : ∀ i j, cf2 (srN R S (if first = true then uX else uY) k) i j = cf N i j) (x y : Rat) :
    evL N x y = eT first L xs a k x y := by
  obtain ⟨NX, hX⟩ := Classical.axiomOfChoice fun k => list_of (nice_srN nR nS nice_uX k)
  obtain ⟨NY, hY⟩ := Classical.axiomOfChoice fun k => list_of (nice_srN nR nS nice_uY k)
  have tt := h.terms cR cS (fun k _ => (hX k).1) (fun k _ => (hY k).1) k (Nat.le_refl k) x y
  cases first with
  | true => exact (ev_of_cf (fun i j => by rw [← cN]; exact (hX k).1 i j) x y).trans tt.1
  | false => exact (ev_of_cf (fun i j => by rw [← cN]; exact (hY k).1 i j) x y).trans tt.2
theorem DW.bare {H : Hp} {d : Addr} {L : List En} (h : DW H d L) : DW (bareH H) d L := by
  obtain ⟨kvs, e, de⟩ := h
  exact ⟨kvs, bare_at e (fun _ z => by cases z), de.tu fun b xs e => bare_at e (fun _ z => by cases z)⟩
def rLn (K : PySem.W.Frag) : List V → Hp → VK → Prop := fun xs H Q => ∃ p ys, xs = [.ref p] ∧ (SqL K H p ys ∨ SqT K H p ys) ∧ Q (.int ys.length) H
def spLaw (Tb : List (Addr × Str)) : Sp := fun vs H Q _ => ∃ (a : Addr) (ns : List Int), vs = [.ref a] ∧ SqL K H a (ns.map V.int) ∧ ns.length ≤ 63 ∧ LamX.Tabs Tb H ∧ ∀ H', Q (.bl true) H'
theorem ok_law (T : Txt K mg) (TP : PlaneT K mg) (TF : FieldT K mg) {cC cP : Addr} {Tb : List (Addr × Str)} (TB : LamX.TabB base mg cC cP) (hcC : (fDat K (fA mg "law")).code = .ref cC) (hTm : (cP, (("law" : Str) ++ (".<locals>." : Str)) ++ ("<lambda>" : Str)) ∈ Tb) (hTo : ∀ p ∈ Tb, p.1 = cP → p.2 = (("law" : Str) ++ (".<locals>." : Str)) ++ ("<lambda>" : Str)) :
    OkG P w K mg base CX0 20 (fA mg "law") (fDat K (fA mg "law")) ["_law_script"] (spLaw (K := K) Tb) := by
  have G_law_pen := ok_pen (P := P) (w := w) (base := base) T._law_pen.F T
  have G_law_draw := ok_draw (P := P) (w := w) (base := base) T._law_draw.F T
  have G_law_pick := ok_pick (P := P) (w := w) (base := base) T
  have G_law_some_field := ok_some_fieldK (P := P) (w := w) (base := base) T
  have G_law_place := ok_placeK (P := P) (w := w) (base := base) T
  have G_law_ratio := ok_law_ratio (P := P) (w := w) (base := base) T
  have G_law_made_field := ok_law_made_field (P := P) (w := w) (base := base) T TP TF
  have Gseries := ok_series (P := P) (w := w) (base := base) T TP TF
  have G_law_v_of := ok_law_v_of (P := P) (w := w) (base := base) T TP
  have G_law_solves := ok_law_solves (P := P) (w := w) (base := base) T
  have G_law_easy_field := ok_law_easy_field (P := P) (w := w) (base := base) T
  have G_law_easy_flow := ok_law_easy_flow (P := P) (w := w) (base := base) T
  have G_law_plus := ok_law_plus (P := P) (w := w) (base := base) T
  have G_law_times := ok_law_times (P := P) (w := w) (base := base) T
  have G_law_v_at := ok_law_v_at (P := P) (w := w) (base := base) T
  have G_law_q_power := ok_law_q_power (P := P) (w := w) (base := base) T
  obtain ⟨oc, od, kw0, doc, pm, an, cdw, ct, osl, efd, lk, hcg⟩ := T._law_fault.F.ex
  have lk' := efd ▸ lk
  have b' := efd ▸ T._law_fault.b
  refine okGc T.law.F hcC sclaw (fun vs H Q E h => ?_) (fun A outer s H vs Q E hr hq h => ?_)
  · obtain ⟨a, ns, rfl, _⟩ := h
    rfl
  obtain ⟨a, ns, rfl, hS, hn, hT, k⟩ := h
  refine ⟨_, (pss_cons (ps_set (i := 1) sclaw.nd rfl (Or.inr rfl) (pe_c T._law_pen G_law_pen (hr.mono (by decide)) (pa_cons (pv 0) pa_nil)))
  (pss_cons (ps_set (i := 2) sclaw.nd rfl (Or.inl rfl) (pe_op op_add pe_int (pe_c T._law_draw G_law_draw (hr.mono (by decide)) (pa_cons (pv 1) (pa_cons pe_int pa_nil)))))
  (pss_cons (ps_asg (pe_tup (pa_cons (pe_c T._law_some_field G_law_some_field (hr.mono (by decide)) (pa_cons (pv 1) (pa_cons (pv 2) (pa_cons pe_int pa_nil)))) (pa_cons (pe_c T._law_draw G_law_draw (hr.mono (by decide)) (pa_cons (pv 1) (pa_cons (pe_ix ix_list (pe_lst (pa_cons pe_int (pa_cons pe_int (pa_cons pe_int pa_nil)))) (pe_op op_sub (pv 2) pe_int) (fun _ _ => rfl)) pa_nil))) pa_nil))) (pg_tup rfl (pgs_cons (pg_name (i := 3) sclaw.nd rfl (Or.inr rfl)) (pgs_cons (pg_name (i := 4) sclaw.nd rfl (Or.inl rfl)) pgs_nil))))
  (pss_cons (ps_set (i := 5) sclaw.nd rfl (Or.inr rfl) (pe_call Gseries (hr.mono (by decide)) (by rfl) T.series.g T.series.F.kp T.series.b .nil passL (pa_cons (pe_c T._law_made_field G_law_made_field (hr.mono (by decide)) (pa_cons (pv 1) (pa_cons (pv 3) pa_nil))) (pa_cons (pv 4) pa_nil))))
  (pss_cons (ps_if (PW.pt (pw_or (pt_not (pt_val (pe_callB (id := "isinstance") call_isi (by rfl) T.isinstance (by decide +kernel) (pa_cons (pv 5) (pa_cons (pe_bltn (v := .ty "tuple") (by rfl) T.tuple (by decide +kernel) rfl) pa_nil))))) (pw_or1 (pt_cmpR op_ne (pe_callB (id := "len") call_len_seq (by rfl) T.len PySem.boot_len (pa_cons (pv 5) pa_nil)) (pe_op op_add (pv 4) pe_int) (nomark _))))) (pss_one (ps_ret pe_bl)) pss_nil)
  (pss_cons (ps_if (pt_cmpR (op_neD (hu64 hr)) (pe_lc (own := [("_law_pair", 6)]) (g := gName 6) (by rfl) sclaw.nd (show PI _ _ _ (iTup K (tVar 5)) from (pi_tup (pv 5))) (blkOk_by (own := [("_law_pair", 6)]) (N := ["_law_script", "_law_pen_here", "_law_degree", "_law_f", "_law_order", "_law_told", "_law_pair", "_law_rows", "_law_k", "_law_easy", "_law_place_here", "_law_time", "_law_total", "_law_at", "_law_odd"]) (sc := defScope slaw) (by decide +kernel)) (fun _ _ _ _ _ => pg_name (i := 6) sclaw.nd rfl (Or.inl rfl)) (fun _ _ _ _ _ => pts_one (PW.pt (pw_or (pt_not (pt_val (pe_callB (id := "isinstance") (show CallR _ _ (rIsi K) from call_isi) (by rfl) T.isinstance (by decide +kernel) (pa_cons (pv 6) (pa_cons (pe_bltn (v := .ty "tuple") (by rfl) T.tuple (by decide +kernel) rfl) pa_nil))))) (pw_or (pt_cmpR (show OpR _ _ rNe from op_ne) (pe_callB (id := "len") (show CallR _ _ (rLn K) from call_len_seq) (by rfl) T.len PySem.boot_len (pa_cons (pv 6) pa_nil)) pe_int (nomark _)) (pw_or1 (pt_not (pt_val (pe_callB (id := "isinstance") (show CallR _ _ (rIsi K) from call_isi) (by rfl) T.isinstance (by decide +kernel) (pa_cons (pe_ix (show IxR _ (rIxT K) from ix_tup) (pv 6) pe_int (fun _ _ => rfl)) (pa_cons (pe_cls TP.g) pa_nil)))))))))) (fun _ _ _ _ _ => (pv 6))) (pe_lst pa_nil) (nomark _)) (pss_one (ps_ret pe_bl)) pss_nil)
  (pss_cons (ps_setLc (i := 7) (own := [("_law_k", 8)]) (g := gName 8) (tt := tYes) (by rfl) sclaw.nd rfl rfl (sw_true rfl rfl rfl (by decide +kernel)) (pi_range1 (by rfl) T.range (pa_cons pe_int pa_nil)) (blkOk_by (own := [("_law_k", 8)]) (N := ["_law_script", "_law_pen_here", "_law_degree", "_law_f", "_law_order", "_law_told", "_law_pair", "_law_rows", "_law_k", "_law_easy", "_law_place_here", "_law_time", "_law_total", "_law_at", "_law_odd"]) (sc := defScope slaw) (by decide +kernel)) (fun _ _ _ _ _ => pg_name (i := 8) sclaw.nd rfl (Or.inr rfl)) (fun _ _ _ _ _ => pts_nil) (fun _ _ _ _ _ => (pe_lc (own := [("_law_pair", 6)]) (g := gName 6) (tt := tYes) (by rfl) sclaw.nd (show PI _ _ _ (iTup K (tVar 5)) from (pi_tup (pv 5))) (blkOk_in (own := [("_law_pair", 6)]) (N := ["_law_script", "_law_pen_here", "_law_degree", "_law_f", "_law_order", "_law_told", "_law_pair", "_law_rows", "_law_k", "_law_easy", "_law_place_here", "_law_time", "_law_total", "_law_at", "_law_odd"]) (defScope slaw) rfl (by decide +kernel)) (fun _ _ _ _ _ => pg_name (i := 6) sclaw.nd rfl (Or.inl rfl)) (fun _ _ _ _ _ => pts_nil) (fun _ _ _ _ _ => (pe_c T._law_v_of G_law_v_of (hr.mono (by decide)) (pa_cons (pe_ix (show IxR _ (rIxT K) from ix_tup) (pv 6) (pv 8) (fun _ _ => rfl)) pa_nil))))))
  (pss_cons (ps_if (pt_not (pt_val (pe_c T._law_solves G_law_solves (hr.mono (by decide)) (pa_cons (pv 3) (pa_cons (pv 7) pa_nil))))) (pss_one (ps_ret pe_bl)) pss_nil)
  (pss_cons (ps_set (i := 9) sclaw.nd rfl (Or.inl rfl) (pe_c T._law_easy_field G_law_easy_field (hr.mono (by decide)) (pa_cons (pv 1) pa_nil)))
  (pss_cons (ps_set (i := 5) sclaw.nd rfl (Or.inr rfl) (pe_call Gseries (hr.mono (by decide)) (by rfl) T.series.g T.series.F.kp T.series.b .nil passL (pa_cons (pe_c T._law_made_field G_law_made_field (hr.mono (by decide)) (pa_cons (pv 1) (pa_cons (pe_ix ix_tup (pv 9) pe_int (fun _ _ => rfl)) pa_nil))) (pa_cons pe_int pa_nil))))
  (pss_cons (ps_par (i := 10) (j := 11) (by rfl) sclaw.nd rfl rfl (by decide) rfl rfl (pa_cons (pe_c T._law_place G_law_place (hr.mono (by decide)) (pa_cons (pv 1) (pa_cons pe_int pa_nil))) (pa_cons (pe_c T._law_ratio G_law_ratio (hr.mono (by decide)) (pa_cons (pv 1) (pa_cons pe_int pa_nil))) pa_nil)) (by rfl))
  (pss_cons (ps_for PassesOwn.never rfl (pi_range1 (by rfl) T.range (pa_cons pe_int pa_nil)) (pg_name (i := 8) sclaw.nd rfl (Or.inl rfl))
  (pss_cons (ps_set (i := 12) sclaw.nd rfl (Or.inl rfl) (pe_tup (pa_cons pe_int (pa_cons pe_int pa_nil))))
  (pss_cons (ps_for PassesOwn.never rfl (show PI _ _ _ (iEnumT K (tCons (tVar 5) tNil)) from pi_enumT (by rfl) T.enumerate (pa_cons (pv 5) pa_nil)) (pg_tup rfl (pgs_cons (pg_name (i := 13) sclaw.nd rfl (Or.inl rfl)) (pgs_cons (pg_name (i := 6) sclaw.nd rfl (Or.inl rfl)) pgs_nil)))
  (pss_one (ps_set (i := 12) sclaw.nd rfl (Or.inl rfl) (pe_c T._law_plus G_law_plus (hr.mono (by decide)) (pa_cons (pv 12) (pa_cons (pe_c T._law_times G_law_times (hr.mono (by decide)) (pa_cons (pe_c T._law_v_at G_law_v_at (hr.mono (by decide)) (pa_cons (pe_c T._law_v_of G_law_v_of (hr.mono (by decide)) (pa_cons (pe_ix ix_tup (pv 6) (pv 8) (fun _ _ => rfl)) pa_nil)) (pa_cons (pv 10) pa_nil))) (pa_cons (pe_c T._law_q_power G_law_q_power (hr.mono (by decide)) (pa_cons (pv 11) (pa_cons (pv 13) pa_nil))) pa_nil))) pa_nil))))))
  (pss_one (ps_if (pt_cmpR (op_neD (hu64 hr)) (pv 12) (pe_ix ix_tup (pe_c T._law_easy_flow G_law_easy_flow (hr.mono (by decide)) (pa_cons (pv 9) (pa_cons (pv 10) (pa_cons (pv 11) pa_nil)))) (pv 8) (fun _ _ => rfl)) (nomark _)) (pss_one (ps_ret pe_bl)) pss_nil)))))
  (pss_cons (ps_set (i := 14) sclaw.nd rfl (Or.inr rfl) (pe_c T._law_pick G_law_pick (hr.mono (by decide)) (pa_cons (pv 1) (pa_cons (pe_lst (pa_cons (pe_un un_neg pe_int) (pa_cons pe_int (pa_cons pe_bl (pa_cons pe_non (pa_cons pe_str (pa_cons (pe_tup (pa_cons pe_int (pa_cons pe_int pa_nil))) pa_nil))))))) pa_nil))))
  (pss_one (ps_ret (pe_cmpR op_eq (pe_callB (id := "repr") (show CallR _ _ (rShow K) from call_show hq (hu64 hr)) (by rfl) T.repr (by decide +kernel) (pa_cons (LamX.pe_lamcall (T := Tb) (TT := TTfault K mg) (x := "_law_fault") (a := "_law_call") (g := fA mg "_law_fault") (c := cC) (P := cP) (k := 16) (Ng := ["_law_call", "_law_found", "error"]) (t := fun E => tCall (spSer mg) [] E (tCons (tCall (spMadeFd mg) [] E0 (tCons (tVar 1) (tCons (tVar 3) tNil))) (tCons (tVar 14) tNil)))
     (by rfl) T._law_fault.g T._law_fault.F.kp lk' hcg b' sc_law_fault rfl (.inl rfl) (fault_gives T hq fun e => (hr.mono (by decide) : Room 2 _).deeper e) TB rfl (lam_memT hTm (by rfl)) (lam_onlyT hTo (by rfl)) (hr.mono (by decide)) (LamX.lamS_by (show LamX.lamSB (defScope slaw) _ = true from by decide +kernel)) rfl (fun _ _ _ _ _ => rfl)
     (fun A outer s H E f c' hr => pe_call Gseries (hr.mono (by decide)) (by rfl) T.series.g T.series.F.kp T.series.b .nil (passes_call (takes_of rfl rfl rfl rfl) (fun _ _ _ _ h => h)) (pa_cons (pe_c T._law_made_field G_law_made_field (hr.mono (by decide)) (pa_cons (pv 1) (pa_cons (pv 3) pa_nil))) (pa_cons (pv 14) pa_nil)))) pa_nil)) (pe_callB (id := "repr") (show CallR _ _ (rShow K) from call_show hq (hu64 hr)) (by rfl) T.repr (by decide +kernel) (pa_cons (pe_tup (pa_cons pe_str (pa_cons pe_str (pa_cons (pv 14) pa_nil)))) pa_nil)) (nomark _))))))))))))))))), ?_⟩
  have mo : most = 1000000000 := rfl
  refine q_asg (c_call (va_cons (val_var rfl) va_nil) ⟨a, ns, rfl, hS, hn, fun p c H0 s0 P0 => ?_⟩)
  have T0 := Tabs.same hT s0
  refine q_asg (op_l val_c (c_call (va_cons (val_var rfl) (va_cons val_c va_nil)) ⟨p, c, 3, _, rfl, P0, by decide, by decide, by decide, fun r H1 r0 r1 b1 P1 => ⟨1, r, rfl, rfl, ?_⟩⟩))
  obtain ⟨g, hg, g1, g3⟩ : ∃ g : Nat, (1 : Int) + r = (g : Int) ∧ 1 ≤ g ∧ g ≤ 3 := ⟨(1 + r).toNat, by omega, by omega, by omega⟩
  have T1 := Tabs.but T0 P0 b1
  refine q_unp (tup_two (c_call (va_cons (val_var rfl) (va_cons (val_var rfl) (va_cons val_c va_nil))) ⟨p, c, _, g, 2, (by show [V.ref p, V.int (1 + r), V.int 2] = _; rw [hg]; rfl), P1, by omega, by decide, by decide, by decide, fun f d1 d2 H2 J1 J2 ef w1 w2 z1 z2 k1 k2 y1 y2 b2 P2 => ?_⟩))
  have T2 := Tabs.but T1 P1 b2
  refine call_1 ((val_var rfl) _ (va_1 (op_l' (l_lst (va_cons val_c (va_cons val_c (va_cons val_c va_nil))) (by show 3 ≤ 100000; decide) fun ql hql => (v_sub (val_var rfl) val_c) _ ?_))))
  have sq := Same.new' (o := .lst [V.int 7, .int 5, .int 4]) hql
  obtain ⟨mv, hmv, m1, m2⟩ : ∃ mv : Int, ([V.int 7, .int 5, .int 4] : List V)[g - 1]? = some (.int mv) ∧ 0 < mv ∧ ((g = 1 ∧ mv ≤ 7) ∨ (g = 2 ∧ mv ≤ 5) ∨ (g = 3 ∧ mv ≤ 4)) := by
    have : g = 1 ∨ g = 2 ∨ g = 3 := by omega
    rcases this with rfl | rfl | rfl
    · exact ⟨7, rfl, by decide, .inl ⟨rfl, by decide⟩⟩
    · exact ⟨5, rfl, by decide, .inr (.inl ⟨rfl, by decide⟩)⟩
    · exact ⟨4, rfl, by decide, .inr (.inr ⟨rfl, by decide⟩)⟩
  refine ⟨ql, _, 1 + r - 1, _, rfl, rfl, SqL.of upd_same, (by rw [show 1 + r - 1 = ((g - 1 : Nat) : Int) by omega]; exact atI_nat hmv), ?_⟩
  refine ⟨p, c, mv, _, rfl, P2.same sq, by decide, m1, by omega, fun r2 H3 r20 r21 b3 P3 => ⟨by decide, fun tf htf => g_two (SqT.of upd_same) ?_⟩⟩
  obtain ⟨n, rfl, dr⟩ : ∃ n : Nat, r2 = (n : Int) ∧ Dr g n := ⟨r2.toNat, by omega, dr_of (by omega)⟩
  have s3 := Same.new' (o := .tup [V.ref f, .int (n : Int)]) htf
  have b3' := ((But.of (p := p) sq).trans b3).trans (But.of s3)
  have T3 := Tabs.but T2 P2 b3'
  have P3' := P3.same s3
  have ef3 := pen_keep P2 b3' ef (fun _ z => by cases z)
  have w1 := w1.but P2 b3'
  have w2 := w2.but P2 b3'
  have n1 := DE.nodup w1
  have n2 := DE.nodup w2
  have g6 : (g + 1) * (g + 1) ≤ 16 := Nat.mul_le_mul (show g + 1 ≤ 4 by omega) (show g + 1 ≤ 4 by omega)
  have q6 : 6 * (g + 1) * (g + 1) ≤ 96 := by rw [Nat.mul_assoc]; omega
  revert T3 P3' ef3 w1 w2
  generalize upd H3 tf (.tup [V.ref f, .int (n : Int)]) = H3'
  intro T3 P3' ef3 w1 w2
  have P3 : PenAt H3' p c 300 := P3'.le (by decide)
  clear T0 T1 T2 P0 P1 P2 P3' b1 b2 b3 b3' sq s3 hql htf hmv ef s0 hT hS hn m1 m2 r20 r21 r0 r1
  -- the series
  have nR' : ∀ {R : List (List Rat)}, (∀ i j, cf2 R i j = cf J1 i j) → Nice L9 2 g R := fun c => nice_of n1 k1.bd k1.deg c
  have nS' : ∀ {S : List (List Rat)}, (∀ i j, cf2 S i j = cf J2 i j) → Nice L9 2 g S := fun c => nice_of n2 k2.bd k2.deg c
  refine q_asg (call_1 (c_call (va_cons (val_var rfl) (va_cons (val_var rfl) va_nil)) ⟨p, c, f, d1, d2, _, g, J1, J2, rfl, P3, by omega, ef3, w1, w2, k1.le (by decide), k2.le (by decide), by omega, fun A H4 R S fa cR cS b4 P4 => va_1 ((val_var rfl) _ ⟨A, .int (n : Int), R, S, rfl, fa, .inl ⟨n, L9, 2, g, rfl, dr.n6, nR' cR, nS' cS, dr.sz, fun t us H5 s5 et ser => ?_⟩⟩)⟩))
  have nR := nR' cR
  have nS := nS' cS
  clear nR' nS'
  have lu := ser.len
  have T5 := Tabs.same (Tabs.but T3 P3 b4) s5
  have ef := s5 _ _ (pen_keep P3 b4 ef3 (fun _ z => by cases z))
  have w1 := (w1.but P3 b4).same s5
  have w2 := (w2.but P3 b4).same s5
  have P5 : PenAt H5 p c 400 := (P4.le (by omega)).same s5
  clear T3 P3 ef3 b4 P4 s5 fa
  -- what is told
  refine q_ifOr (not_in (tt_in ((v_isi (val_var rfl) (Is.tup et).ty.1 (kit_tuple ((Is.tup et).ty (K := K)).2)) _ ⟨_, rfl, iteN' (by decide) (t_op (cb_one ((val_var rfl) _ ⟨t, us, rfl, .inr (SqT.of et), (val_var rfl) _ (val_c _ ⟨_, _, rfl, rfl, ne_int (by omega) ⟨_, rfl, iteF ?_⟩⟩)⟩)))⟩)))
  refine q_un (t_op (l_lcTF (val_var rfl) et (fun _ => rfl) (fun i x H6 hx s6 K' kk => ?_) fun D H6 s6 eD => ?_))
  · have hi : i < n + 1 := by rw [← lu]; exact (List.getElem?_eq_some_iff.mp hx).1
    obtain ⟨z, hz, tp, ca, cb, rfl, ep, pa, pb⟩ := All2.get ser hx
    have ep6 := s6 _ _ ep
    refine l_or (not_in (tt_in ((v_isi (val_var rfl) (Is.tup ep6).ty.1 (kit_tuple ((Is.tup ep6).ty (K := K)).2)) _ ⟨_, rfl, iteN' (by decide) (l_or (t_op (cb_one ((val_var rfl) _ ⟨tp, _, rfl, .inr (SqT.of ep6), val_c _ (ne_int rfl ⟨_, rfl, iteF ?_⟩)⟩))))⟩)))
    exact not_in (tt_in ((v_isO (v_ixT (n := 0) (val_var rfl) val_c (SqT.of ep6) rfl) (TP.tyI (pa.same s6)) (kit_self K _)) _ ⟨_, rfl, kk⟩))
  refine l_s ⟨by show 0 ≤ sizeLine; decide, fun q hq => ne_none (Same.new' hq _ _ eD) upd_same ⟨_, rfl, iteF ?_⟩⟩
  have s7 := s6.trans (Same.new' (o := .lst []) hq)
  have T7 := Tabs.same T5 s7
  have ef := s7 _ _ ef
  have et := s7 _ _ et
  have ser := ser.same s7
  have w1 := w1.same s7
  have w2 := w2.same s7
  have P7 := P5.same s7
  clear T5 P5 s6 eD s7
  revert T7 ef et ser w1 w2 P7
  generalize upd H6 q (.lst []) = H7
  intro T7 ef et ser w1 w2 P7
  clear hq
  -- the law's own rows of them
  obtain ⟨G, G15, hG⟩ := dr.gg
  refine q_asg (d_lcR (n := 2) (R := RowF n g G d1 d2 R S) rowf_st rowf_off (va_cons val_c va_nil) (by decide) (fun D i H8 hi s8 hD => turn_name rfl fun Q' q' => ?_) fun lr ls H8 s8 nlr elr rlr => ?_)
  · refine l_lcTf (R := Tm1 n g d1 d2 R S (if i = 0 then uX else uY)) (xs := us) tm1_st tm1_off (val_var rfl) (s8 _ _ et) (by have := dr.n6; omega) (fun t' x H9 hx s9 => turn_name rfl fun Q2 q2 => ?_) fun l ws H9 s9 nl el rl => ?_
    · have ht : t' < n + 1 := by rw [← lu]; exact (List.getElem?_eq_some_iff.mp hx).1
      obtain ⟨z, hz, tp, ca, cb, rfl, ep, pa, pb⟩ := All2.get ser hx
      rw [List.getElem?_map, List.getElem?_range ht] at hz
      obtain rfl : srP R S t' = z := Option.some.inj hz
      have s89 := s8.trans s9
      obtain ⟨ci, hci, pc⟩ : ∃ ci, ([.ref ca, .ref cb] : List V)[i]? = some (.ref ci) ∧ PnAt (pnA mg) H9 ci (srN R S (if i = 0 then uX else uY) t') := by
        have : i = 0 ∨ i = 1 := by omega
        rcases this with rfl | rfl
        · exact ⟨ca, rfl, pa.same s89⟩
        · exact ⟨cb, rfl, pb.same s89⟩
      have nU : Nice 1 1 1 (if i = 0 then uX else uY) := by
        split
        · exact nice_uX
        · exact nice_uY
      refine call_one ((v_ixT (n := i) (val_var rfl) (val_var rfl) (SqT.of (s89 _ _ ep)) hci) _ ⟨ci, _, _, _, _, rfl, pc, nice_srN nR nS nU t', dr.dg t' (by omega), fun d H10 N s10 nd pd => q2 _ _ s10 ⟨d, N, rfl, pd, fun y => ?_, fun y => ?_⟩⟩)
      · obtain ⟨ks, e, _⟩ := w1.same s89
        rw [← y, nd] at e
        cases e
      · obtain ⟨ks, e, _⟩ := w2.same s89
        rw [← y, nd] at e
        cases e
    · rw [lu] at rl
      have nU : Nice 1 1 1 (if i = 0 then uX else uY) := by
        split
        · exact nice_uX
        · exact nice_uY
      obtain ⟨NX, tm⟩ := tms_of dr hG nR nS nU el rl
      refine q' _ _ s9 ⟨l, ws, NX, rfl, fun y => ?_, tm⟩
      obtain ⟨ys, eD⟩ := hD
      rw [← y, nl] at eD
      cases eD
  have ef := s8 _ _ ef
  have w1 := w1.same s8
  have w2 := w2.same s8
  have P8 := P7.same s8
  have T8 := Tabs.same T7 s8
  clear ser et T7 P7 lu s8 nlr
  -- they solve the field's equations
  obtain ⟨v0, v1, rfl⟩ : ∃ v0 v1, ls = [v0, v1] := by
    have l2 := rlr.2
    match ls, l2 with
    | [v0, v1], _ => exact ⟨v0, v1, rfl⟩
  obtain ⟨⟨l0, ws0, NX, rfl, _, M0⟩, ⟨l1, ws1, NY, rfl, _, M1⟩, _⟩ := rlr.1
  refine q_un (not_in (tt_in (c_call (va_cons (val_var rfl) (va_cons (val_var rfl) va_nil)) ⟨f, lr, l0, l1, d1, d2, J1, J2, R, S, NX, NY, ws0, ws1, n, G, 2 ^ 27, dC L9, dX L9, rfl, ef, w1, w2, elr, M0, M1, cR, cS, dr.n6, G15, by decide,
    fun e he => ⟨Nat.le_trans (k1.deg e he) dr.g3.2, by rw [dC0]; exact k1.bd e he⟩, fun e he => ⟨Nat.le_trans (k2.deg e he) dr.g3.2, by rw [dC0]; exact k2.bd e he⟩, y1, y2, fun i j h => ⟨Nat.mul_pos (by decide +kernel) (dX_pos (by decide +kernel) i), dX_pos (by decide +kernel) j, dC_dvd i j⟩, fun i hi => fzC i (by have := dr.n6; omega), fun i hi => fzX i (by have := dr.n6; omega), fun H9 s9 => ⟨true, rfl, iteF ?_⟩⟩)))
  have ef := s9 _ _ ef
  have w1 := w1.same s9
  have w2 := w2.same s9
  have P9 := P8.same s9
  have T9 := Tabs.same T8 s9
  clear T8 P8 M0 M1 rlr elr s9 hG G15
  -- a field whose flow is known
  refine q_asg (c_call (va_cons (val_var rfl) va_nil) ⟨p, c, _, rfl, P9, by decide, fun te fe e1 e2 tae lge L ae xs K1 K2 HA es bA PA => ?_⟩)
  have T9 := Tabs.but T9 P9 bA
  have ef := pen_keep P9 bA ef (fun _ z => by cases z)
  have w1 := w1.but P9 bA
  have w2 := w2.but P9 bA
  clear P9 bA
  refine q_asg (call_1 (call_1 ((val_var rfl) _ (va_1 ((v_ixT (n := 0) (v := .ref fe) (val_var rfl) val_c (SqT.of es.et) rfl) _ ⟨p, c, fe, e1, e2, _, 2, K1, K2, rfl, PA, by decide, es.ef, es.w1, es.w2, es.k1.le (by decide), es.k2.le (by decide), by decide, fun A2 HB R2 S2 fa2 cR2 cS2 bB PB => va_1 (val_c _ ?_)⟩)))))
  obtain ⟨nR2, nS2⟩ := es.nices cR2 cS2
  have xl := es.len
  have dl := dE_le es.sx xl
  refine ⟨A2, .int 5, R2, S2, rfl, fa2, .inl ⟨5, dE xs, 2, 2, rfl, by decide, nR2, nS2, sznE (dE_pos xs) dl, fun t2 us2 HC sC et2 ser2 => ?_⟩⟩
  have es := (es.but PA bB).same sC
  have T9 := Tabs.same (Tabs.but T9 PA bB) sC
  have ef := sC _ _ (pen_keep PA bB ef (fun _ z => by cases z))
  have w1 := (w1.but PA bB).same sC
  have w2 := (w2.but PA bB).same sC
  have PC : PenAt HC p c 600 := (PB.le (by decide)).same sC
  have lu2 : us2.length = 6 := ser2.len
  clear PA bB sC PB fa2
  refine q_par (ta_two (c_call (va_cons (val_var rfl) (va_cons val_c va_nil)) ⟨p, c, _, 2, rfl, PC, by decide, by decide, by decide, fun z px py HD X Y ez lx ly sX sY bX bY bD PD => c_call (va_cons (val_var rfl) (va_cons val_c va_nil)) ⟨p, c, _, 2, rfl, PD, by decide, by decide, by decide, fun tm HE τ lτ sτ bτ bE PE => ⟨_, _, rfl, ?_⟩⟩⟩))
  have bDE := bD.trans bE
  have es := es.but PC bDE
  have T9 := Tabs.but T9 PC bDE
  have ef := pen_keep PC bDE ef (fun _ z => by cases z)
  have w1 := w1.but PC bDE
  have w2 := w2.but PC bDE
  have et2 := pen_keep PC bDE et2 (fun _ z => by cases z)
  have ser2 : Ser mg HE us2 R2 S2 6 := All2.imp (fun v zz ⟨t, a, b, e, et, h1, h2⟩ => ⟨t, a, b, e, pen_keep PC bDE et (fun _ z => by cases z), h1.but PC bDE, h2.but PC bDE⟩) ser2
  have ez := pen_keep PD bE ez (fun _ z => by cases z)
  have lx := bE.lo PD lx
  have ly := bE.lo PD ly
  clear bD bE bDE PC PD
  -- its flow
  have L01 : L = 0 ∨ L = 1 := es.val.imp (·.1) (·.1)
  refine q_forR1 (n := 2) (va_cons val_c va_nil) (by decide) (fun i σ HF => ∃ z6 z8 z12 z13, σ = [some (.ref a), some (.ref p), some (.int (1 + r)), some (.ref f), some (.int (n : Int)), some (.ref t2), z6, some (.ref lr), z8, some (.ref te), some (.ref z), some (.ref tm), z12, z13, none] ∧ L2.Same HE HF) ⟨_, _, _, _, rfl, Same.refl _⟩ (fun i σ HF hi zz => ?_) (fun σ HF zz => ?_)
  · obtain ⟨z6, z8, z12, z13, rfl, sF⟩ := zz
    obtain ⟨first, hfi⟩ : ∃ first : Bool, (i = 0 ∧ first = true) ∨ (i = 1 ∧ first = false) := by
      have : i = 0 ∨ i = 1 := by omega
      rcases this with rfl | rfl
      · exact ⟨true, .inl ⟨rfl, rfl⟩⟩
      · exact ⟨false, .inr ⟨rfl, rfl⟩⟩
    refine g_name (q_asg (l_tup (va_cons val_c (va_cons val_c va_nil)) (by show 2 ≤ 100000; decide) fun o1 ho1 => ?_))
    have sO := Same.new' (o := .tup [V.int 0, .int 1]) ho1
    have sFO := sF.trans sO
    have lo0 : Lo (upd HF o1 (.tup [V.int 0, .int 1])) o1 0 := zero_lo upd_same
    revert sFO lo0
    generalize upd HF o1 (.tup [V.int 0, .int 1]) = HG
    intro sFO lo0
    clear sO ho1 sF
    refine q_forET (va_cons (val_var rfl) va_nil) (SqT.of (sFO _ _ et2)) (fun j σ HH => ∃ z6 z13 tot, σ = [some (.ref a), some (.ref p), some (.int (1 + r)), some (.ref f), some (.int (n : Int)), some (.ref t2), z6, some (.ref lr), some (.int (i : Int)), some (.ref te), some (.ref z), some (.ref tm), some (.ref tot), z13, none] ∧ L2.Same HE HH ∧ Lo HH tot (rsum j fun k => eT first L xs ae k X Y * rp τ k) ∧ Sm (112 * j + 1) (rsum j fun k => eT first L xs ae k X Y * rp τ k))
      ⟨_, _, o1, rfl, sFO, lo0, Sm.zero (by decide)⟩ (fun j σ HH zz => ?_) (fun j x Tp σ HH hx zz hT => ?_) (fun σ HH zz => ?_)
    · obtain ⟨z6, z13, tot, rfl, sH, _⟩ := zz
      exact SqT.of (sH _ _ et2)
    · obtain ⟨z6, z13, tot, rfl, sH, lt, st⟩ := zz
      have hj : j < 6 := by rw [← lu2]; exact (List.getElem?_eq_some_iff.mp hx).1
      obtain ⟨zz, hz, tp, ca, cb, rfl, ep, pa, pb⟩ := All2.get ser2 hx
      rw [List.getElem?_map, List.getElem?_range hj] at hz
      obtain rfl : srP R2 S2 j = zz := Option.some.inj hz
      have sT := Same.new' (o := .tup [V.int (j : Int), .ref tp]) hT
      have sHT := sH.trans sT
      obtain ⟨ci, hci, pc⟩ : ∃ ci, ([.ref ca, .ref cb] : List V)[i]? = some (.ref ci) ∧ PnAt (pnA mg) (upd HH Tp (.tup [V.int (j : Int), .ref tp])) ci (srN R2 S2 (if first = true then uX else uY) j) := by
        rcases hfi with ⟨rfl, rfl⟩ | ⟨rfl, rfl⟩
        · exact ⟨ca, rfl, pa.same sHT⟩
        · exact ⟨cb, rfl, pb.same sHT⟩
      have nU : Nice 1 1 1 (if first = true then uX else uY) := by
        split
        · exact nice_uX
        · exact nice_uY
      have nW := nice_srN nR2 nS2 nU j
      have sv := sm_eT es.sx (bd_sm10 es.ba) sX sY first L01 j
      have sp := sm_rp sτ j
      refine g_two (SqT.of upd_same) (call_1 ((val_var rfl) _ (va_1 (call_1 (call_1 (call_one ((v_ixT (n := i) (val_var rfl) (val_var rfl) (SqT.of (sHT _ _ ep)) hci) _ ⟨ci, _, _, _, _, rfl, pc, nW, Nat.le_trans (szgE (dE xs) j hj) (by decide), fun d HI N sI nd pd => va_1 ((val_var rfl) _ ?_)⟩)))))))
      have sHI := sHT.trans sI
      refine s_vatE pd.dw pd.nz (es.term cR2 cS2 nR2 nS2 first j pd.cf) (exT_ok es.sx (bd_sm10 es.ba) first L01 j) (sHI _ _ ez) (lx.same sHI) (ly.same sHI) sX sY fun vv HJ sJ lv => ?_
      have sHJ := sHI.trans sJ
      refine va_1 (c_call (va_cons (val_var rfl) (va_cons (val_var rfl) va_nil)) ⟨tm, τ, 10, j, rfl, lτ.same sHJ, sτ, by omega, by decide, by omega, fun pq HK sK lq => ?_⟩)
      have sIK := (sI.trans sJ).trans sK
      refine s_ltimes (lv.same sK) lq sv sp (by decide) (by omega) fun pt HL sL lpt => ?_
      refine s_lplus (((lt.same sT).same sIK).same sL) lpt st (sv.mul sp) (by omega) (by omega) fun pn HM sM ln => ?_
      refine ⟨_, _, pn, rfl, (((sHJ.trans sK).trans sL).trans sM), ln, ?_⟩
      exact (st.add (sv.mul sp)).mono (by omega)
    · obtain ⟨z6, z13, tot, rfl, sH, lt, st⟩ := zz
      rw [lu2, sum_eT first L L01] at lt
      refine t_unless1 (op_l' ((val_var rfl) _ (op_l' (c_call (va_cons (val_var rfl) (va_cons (val_var rfl) (va_cons (val_var rfl) va_nil))) ⟨te, fe, e1, e2, tae, lge, z, px, py, tm, L, ae, xs, K1, K2, X, Y, τ, rfl, es.same sH, sH _ _ ez, lx.same sH, ly.same sH, lτ.same sH, sX, sY, sτ, bX, bY, fun rr r1 r2 HN sN er l1 l2 => (val_var rfl) _ ?_⟩))))
      obtain ⟨ri, hri, lri⟩ : ∃ ri, ([.ref r1, .ref r2] : List V)[i]? = some (.ref ri) ∧ Lo HN ri (if first = true then fX L ae xs X Y τ else fY L ae xs X Y τ) := by
        rcases hfi with ⟨rfl, rfl⟩ | ⟨rfl, rfl⟩
        · exact ⟨r1, rfl, l1⟩
        · exact ⟨r2, rfl, l2⟩
      exact ⟨rr, _, i, _, rfl, rfl, SqT.of er, atI_nat hri, ne_lo (lt.same sN) lri ⟨_, rfl, iteF ⟨_, _, _, _, rfl, sH.trans sN⟩⟩⟩
  obtain ⟨z6, z8, z12, z13, rfl, sF⟩ := zz
  have T9 := Tabs.same T9 sF
  have ef := sF _ _ ef
  have w1 := w1.same sF
  have w2 := w2.same sF
  have PF := PE.same sF
  clear es et2 ser2 ez lx ly lτ PE sF
  -- orders that are none
  have gm : ∀ {H H' : Hp} {v : V}, OdNv v H → L2.Same H H' → OdNv v H' := fun g s => OdN.same g s
  refine q_asg (c_callL (R := Alls OdNv 6) (val_var rfl) (Alls.stays (G := OdNv) gm) (al_cons (G := OdNv) gm (al_val (v := .int (-1)) (v_neg val_c) OdN.m1) fun _ => al_cons (G := OdNv) gm (al_val (v := .int 7) val_c OdN.m7) fun _ => al_cons (G := OdNv) gm (al_val (v := .bl true) val_c OdN.bl) fun _ => al_cons (G := OdNv) gm (al_val (v := .non) val_c OdN.non) fun _ => al_cons (G := OdNv) gm (al_val (v := .str "2") val_c OdN.str) fun _ =>
    al_cons (G := OdNv) gm (em_tupF (P := OdNv) (va_cons val_c (va_cons val_c va_nil)) (by decide) fun a H' n e => OdN.tup e) fun _ => al_nil (G := OdNv) gm) (fun vs H' r => by rw [r.2]; decide) fun lo xo HJ sJ eJ rJ => ?_)
  have PJ := PF.same sJ
  refine ⟨p, c, lo, xo, _, rfl, PJ, by decide, SqL.of eJ, by rw [rJ.2]; decide, by rw [rJ.2]; decide, fun odd HK hv bK PK => ?_⟩
  have od := OdN.but (rJ.1 odd hv) PJ bK
  have T9 := Tabs.but (Tabs.same T9 sJ) PJ bK
  have ef := pen_keep PJ bK (sJ _ _ ef) (fun _ z => by cases z)
  have w1 := (w1.same sJ).but PJ bK
  have w2 := (w2.same sJ).but PJ bK
  have PK : PenAt HK p c 1000 := PK.le (by decide)
  clear PF PJ sJ eJ rJ hv bK
  have ef := bare_at ef (fun _ z => by cases z)
  have w1 := w1.bare
  have w2 := w2.bare
  have od := od.bare
  have PK := PK.bare
  have nt := bare_no HK
  have sS := bare_in HK
  revert ef w1 w2 od PK nt sS
  generalize bareH HK = S0
  intro ef w1 w2 od PK nt sS
  refine r_ret (op_l' (cb_one ⟨T9, fun HL xL TL => fun p0 hp0 Qn => ?_⟩))
  have sL := (ext_same nt sS xL).trans (Same.new' (o := .tup [.str "none"]) hp0)
  revert sL
  generalize upd HL p0 (.tup [.str "none"]) = HM
  intro sL
  have PM := PK.same sL
  refine call_1 (c_call (va_cons (val_var rfl) (va_cons (val_var rfl) va_nil)) ⟨p, c, f, d1, d2, _, g, J1, J2, rfl, PM, by omega, sL _ _ ef, w1.same sL, w2.same sL, k1.le (by decide), k2.le (by decide), by omega, fun A3 HN R3 S3 fa3 cR3 cS3 bN PN => va_1 ((val_var rfl) _ ?_)⟩)
  have odN := (od.same sL).but PM bN
  refine ⟨A3, odd, R3, S3, rfl, fa3, .inr ⟨odN.no, fun dd HO sO n e => Or.inl ⟨rfl, dd, odd, .str "order", rfl, e, fun pp HP sP eP => ?_⟩⟩⟩
  have odP := odN.same (sO.trans sP)
  obtain ⟨dO, fO⟩ := odP.fine (K := K)
  have aP : DdAll K HP [.str "number", .str "order", odd] [.str "number", .str "order", dO] := .cons (.str _) (.cons (.str _) (.cons fO.1 .nil))
  have nN : Nc 1000 3 (.str "number") := nc_str (by decide +kernel)
  have nM : Nc 1000 3 (.str "order") := nc_str (by decide +kernel)
  have cP : NcAll 1000 3 [.str "number", .str "order", dO] := fun x hx => by
    simp only [List.mem_cons, List.not_mem_nil, or_false] at hx
    rcases hx with rfl | rfl | rfl
    · exact nN
    · exact nM
    · exact Fine.nc fO
  have N2 : Nc 4000 4 (.tuple [.str "number", .str "order", dO]) := (nc_tuple cP).mono (by show 3 * (1000 + 2) + 3 ≤ 4000; decide) (by decide)
  have zl : (PyData.tuple [.str "number", .str "order", dO]).shown.length ≤ sizeLine := Nat.le_trans N2.2.1 (by decide)
  refine ⟨.ref pp, .tuple [.str "number", .str "order", dO], rfl, .tup (SqT.of eP) aP, N2.1, Nat.le_trans N2.2.2.2 (by decide), zl, ?_⟩
  refine cb_one (l_tup (va_cons val_c (va_cons val_c (va_cons (val_var rfl) va_nil))) (by show 3 ≤ 100000; decide) fun q2 hq2 => ?_)
  refine ⟨.ref q2, .tuple [.str "number", .str "order", dO], rfl, .tup (SqT.of upd_same) (Dd.sameAll (Same.new' hq2) _ _ aP), N2.1, Nat.le_trans N2.2.2.2 (by decide), zl, rfl, ?_⟩
  rw [decide_eq_true rfl]
  exact k _
end
end LW

namespace LW
open PySem PySem.Spec PyProof.Rows L2 GL
theorem fin_law {P : Program} {w : World} {K : PySem.W.Frag} {mg : Str → Option Value} {h : Heap} {cC cP : Addr} (T : Txt K mg) (TP : PlaneT K mg) (TF : FieldT K mg) (h1 : (fDat K (fA mg "law")).code = .ref cC)
    (tc : h.get? cP = some { cls := .none, data := .fields #[] }) (nc : K.lookup cP = none) (kc : PySem.W.codeHdIn K cC cP = true) :
    GL.LawT P w K 20 63 "_law_script" mg (fA mg "law") h := by
  let Tb : List (Addr × Str) := [(cP, (("law" : Str) ++ (".<locals>." : Str)) ++ ("<lambda>" : Str))]
  refine ⟨_, [(cC, cP)], spLaw (K := K) Tb, fun p hp => ?_, T.lb, fun H a ns hl hH hS => ⟨a, ns, rfl, hS, hl, fun p hp => ?_, fun _ => rfl⟩, fun base _ _ TB => ?_⟩
  · rw [List.mem_singleton.mp hp]
    exact ⟨tc, nc, kc⟩
  · rw [List.mem_singleton.mp hp]
    exact LamX.TabS.nil (hH (cC, cP) (List.mem_cons_self ..))
  · exact ok_law (Tb := Tb) T TP TF (TB (cC, cP) (List.mem_cons_self ..)) h1 (List.mem_cons_self ..) (fun p hp _ => by rw [List.mem_singleton.mp hp])
end LW

namespace LW
open PySem PySem.Spec PyProof.Rows L2 GL
theorem Me.mk' {K : PySem.W.Frag} {C f : Addr} {m q : Str} {st : Stmt} {ps : List Str} {oc : Value} {od an : Option Addr} {osl : Array (Option Value)} {kV doc pm cdv ct : Value} (i : PySem.W.findIn K (.ref C) m = some (some (.ref f))) (n : PySem.W.isFn K (.ref f) = true)
    (l : K.lookup f = some ⟨oc, od, .func (PySem.W.fnOf m q (defArgs st) (defBody st) (defScope st) .none kV doc pm an cdv ct), osl⟩) (c : PySem.W.codeIn K cdv q = true) (k : PySem.W.keepIn K (.ref f) = true)
    (bi : ∀ (kV doc pm : Value) (an : Option Addr) (cdv ct : Value) (us : List Value), us.length = ps.length → bindArgs (PySem.W.fnOf m q (defArgs st) (defBody st) (defScope st) .none kV doc pm an cdv ct) ⟨us, []⟩ = pure (ps.zip us)) : Me K C m q st ps := by
  have c2 : mA K C m = f := mA_of i
  have c3 := fDat_of l
  have F := fun_mk (st := st) l c k
  exact ⟨by rw [c2]; exact i, by rw [c2]; exact n, by rw [c2, c3]; exact F, by rw [c2, c3]; exact F.binds bi⟩
theorem planeT_of {K : PySem.W.Frag} {mg : Str → Option Value} {C f : Addr} (g : mg "Plane" = some (.ref C)) (cls : Cls K C) (mk : Mk K C f) (norows : NoAttr K C "rows")
    (m0 : Me K C "__init__" "Plane.__init__" (inClass tPlane 0) ["self", "rows"])
    (m1 : Me K C "__eq__" "Plane.__eq__" (inClass tPlane 1) ["self", "other"])
    (m2 : Me K C "__add__" "Plane.__add__" (inClass tPlane 2) ["self", "other"])
    (m3 : Me K C "__radd__" "Plane.__radd__" (inClass tPlane 3) ["self", "other"])
    (m4 : Me K C "__sub__" "Plane.__sub__" (inClass tPlane 4) ["self", "other"])
    (m5 : Me K C "__rsub__" "Plane.__rsub__" (inClass tPlane 5) ["self", "other"])
    (m6 : Me K C "__mul__" "Plane.__mul__" (inClass tPlane 6) ["self", "other"])
    (m7 : Me K C "__rmul__" "Plane.__rmul__" (inClass tPlane 7) ["self", "other"])
    (m8 : Me K C "__neg__" "Plane.__neg__" (inClass tPlane 8) ["self"])
    (m9 : Me K C "degree" "Plane.degree" (inClass tPlane 9) ["self"])
    (m10 : Me K C "at" "Plane.at" (inClass tPlane 10) ["self", "point"])
    (m11 : Me K C "slope_x" "Plane.slope_x" (inClass tPlane 11) ["self"])
    (m12 : Me K C "slope_y" "Plane.slope_y" (inClass tPlane 12) ["self"])
    (me : PySem.W.selfFirst K C = true) (hc : PySem.W.findIn K (.ref C) "__class__" = some (some (.builtin "object.__class__"))) (hn : PySem.W.specialIn K (.builtin "object.__class__") "__get__" = some (some (.builtin "getset_descriptor.__get__"))) (ht : PySem.W.takesIn K (.builtin "object.__class__") = some true) (hm : PySem.W.mroIn K C (.type "object") = some true)
    (kf : ∀ T : String, T = "int" ∨ T = "tuple" → PySem.W.kitOne K (.type T) (.ref C) = some false) (s1 : ∀ T : String, T = "int" ∨ T = "tuple" → PySem.W.subIn K (.type T) (.ref C) = some false) (kl : PySem.W.kitOne K (.ref C) (.type "list") = some false) (s2 : ∀ T : String, T = "int" ∨ T = "tuple" → PySem.W.subIn K (.ref C) (.type T) = some false)
    (lr : ∀ op : Operator, op = .Add ∨ op = .Sub ∨ op = .Mult → (∃ fo ro, PySem.W.findIn K (.type "int") (PySem.dunder op.info.2) = some fo ∧ PySem.W.findIn K (.type "int") (dunderR op.info.2) = some ro ∧ ((fo.isSome && !isSeqSlot fo) || (ro.isSome && !isSeqSlot ro)) = true) ∧
      ∃ fo ro, PySem.W.findIn K (.type "tuple") (PySem.dunder op.info.2) = some fo ∧ PySem.W.findIn K (.type "tuple") (dunderR op.info.2) = some ro ∧ ((fo.isSome && !isSeqSlot fo) || (ro.isSome && !isSeqSlot ro)) = false) : PlaneT K mg := by
  obtain rfl : C = pnA mg := (fA_of g).symm
  have e : f = mA K (pnA mg) "__init__" := (mA_of mk.init).symm
  subst e
  exact ⟨g, cls, mk, norows, m0, m1, m2, m3, m4, m5, m6, m7, m8, m9, m10, m11, m12, me, hc, hn, ht, hm, kf, s1, kl, s2, lr⟩
theorem fieldT_of {K : PySem.W.Frag} {mg : Str → Option Value} {C f : Addr} (g : mg "Field" = some (.ref C)) (cls : Cls K C) (mk : Mk K C f) (nop : NoAttr K C "p") (noq : NoAttr K C "q")
    (m0 : Me K C "__init__" "Field.__init__" (inClass tField 0) ["self", "p", "q"])
    (m1 : Me K C "__eq__" "Field.__eq__" (inClass tField 1) ["self", "other"])
    (hc : PySem.W.findIn K (.ref C) "__class__" = some (some (.builtin "object.__class__"))) (hn : PySem.W.specialIn K (.builtin "object.__class__") "__get__" = some (some (.builtin "getset_descriptor.__get__"))) (ht : PySem.W.takesIn K (.builtin "object.__class__") = some true) (hm : PySem.W.mroIn K C (.type "object") = some true)
    (ks : PySem.W.kitOne K (.ref C) (.ref C) = some true) (kf : ∀ T : String, T = "int" ∨ T = "tuple" → PySem.W.kitOne K (.type T) (.ref C) = some false) (s1 : ∀ T : String, T = "int" ∨ T = "tuple" → PySem.W.subIn K (.type T) (.ref C) = some false) : FieldT K mg := by
  obtain rfl : C = fdA mg := (fA_of g).symm
  have e : f = mA K (fdA mg) "__init__" := (mA_of mk.init).symm
  subst e
  exact ⟨g, cls, mk, nop, noq, m0, m1, hc, hn, ht, hm, ks, kf, s1⟩
theorem Me.ofX {fa : List He.Fa} {fn : List He.DefD} {K : PySem.W.Frag} {C m q : Str} {st : Stmt} {ps : List Str} (c : He.SaysD fa fn K) (i : PySem.W.findIn K (.ref (He.ga K C)) m = some (some (.ref (He.ma K (He.ga K C) m)))) (n : PySem.W.isFn K (.ref (He.ma K (He.ga K C) m)) = true)
    (k : Nat) (e : fn[k]? = some (GL.mDef C m q st))
    (bi : ∀ (kV doc pm : Value) (an : Option Addr) (cdv ct : Value) (us : List Value), us.length = ps.length → bindArgs (PySem.W.fnOf m q (defArgs st) (defBody st) (defScope st) .none kV doc pm an cdv ct) ⟨us, []⟩ = pure (ps.zip us)) : Me K (He.ga K C) m q st ps := by
  obtain ⟨_, _, _, _, _, _, _, _, _, l, cd, kp⟩ := GL.defM c k e
  exact Me.mk' i n l cd kp bi
theorem ClI.ofX {fa : List He.Fa} {fn : List He.DefD} {K : PySem.W.Frag} {mg : Str → Option Value} {x qual : Str} {st : Stmt} {ps fs : List Str} {h : Heap} (X : K.In h) (G : h.Ns mainGlobals mg) (cd : He.SaysD fa fn K)
    (a : PySem.W.nsIn K mainGlobals x = some (some (.ref (He.ga K x)))) (e : ExcC K (He.ga K x)) (o : OexC K (He.ga K x)) (i : PySem.W.findIn K (.ref (He.ga K x)) "__init__" = some (some (.ref (He.ma K (He.ga K x) "__init__")))) (t : PySem.W.typeIn K (.ref (He.ma K (He.ga K x) "__init__")) = some (.type "function"))
    (k : Nat) (hk : fn[k]? = some (GL.mDef x "__init__" qual st))
    (bi : ∀ (kV doc pm : Value) (an : Option Addr) (cdv ct : Value) (us : List Value), us.length = ps.length → bindArgs (PySem.W.fnOf "__init__" qual (defArgs st) (defBody st) (defScope st) .none kV doc pm an cdv ct) ⟨us, []⟩ = pure (ps.zip us))
    (n : ∀ f ∈ fs, PySem.W.findIn K (.ref (He.ga K x)) f = some none) : ClI K mg x qual st ps fs := by
  obtain ⟨_, _, _, _, _, _, _, _, _, l, cdi, kp⟩ := GL.defM cd k hk
  exact ClI.mk' X G a e o i t l cdi kp bi n
set_option maxHeartbeats 0 in
theorem factsX {w : World} {K : PySem.W.Frag} {h : Heap} {mg : Str → Option Value} {Z : Prop} (X : K.In h) (G : h.Ns mainGlobals mg) (c : He.SaysX [] fn [] tf ex w h K)
    (fin : Txt K mg → PlaneT K mg → FieldT K mg → ∀ cC : Addr, cC = He.codeOf K ("law", none) → (fDat K (fA mg "law")).code = .ref cC → Z) : Z := by
  have cd := c.t.d
  have m0 : ex K = true := c.more
  obtain ⟨e0, m1⟩ := He.ba m0
  obtain ⟨e1, m2⟩ := He.ba m1
  obtain ⟨e2, m3⟩ := He.ba m2
  obtain ⟨e3, m4⟩ := He.ba m3
  obtain ⟨e4, m5⟩ := He.ba m4
  obtain ⟨e5, m6⟩ := He.ba m5
  obtain ⟨e6, m7⟩ := He.ba m6
  obtain ⟨e7, m8⟩ := He.ba m7
  have e8 := m8
  have qxL_BadNumber : GL.xcB K (He.ga K "BadNumber") = true := GL.chk e0 0 rfl
  have qxL_BadRow : GL.xcB K (He.ga K "BadRow") = true := GL.chk e0 1 rfl
  have z_int : PySem.W.nsIn K mainGlobals "int" = some none := GL.chk e0 2 rfl
  have z_bool : PySem.W.nsIn K mainGlobals "bool" = some none := GL.chk e0 3 rfl
  have z_list : PySem.W.nsIn K mainGlobals "list" = some none := GL.chk e0 4 rfl
  have z_tuple : PySem.W.nsIn K mainGlobals "tuple" = some none := GL.chk e0 5 rfl
  have z_len : PySem.W.nsIn K mainGlobals "len" = some none := GL.chk e0 6 rfl
  have z_range : PySem.W.nsIn K mainGlobals "range" = some none := GL.chk e0 7 rfl
  have z_isinstance : PySem.W.nsIn K mainGlobals "isinstance" = some none := GL.chk e0 8 rfl
  have z_repr : PySem.W.nsIn K mainGlobals "repr" = some none := GL.chk e0 9 rfl
  have z_abs : PySem.W.nsIn K mainGlobals "abs" = some none := GL.chk e0 10 rfl
  have z_all : PySem.W.nsIn K mainGlobals "all" = some none := GL.chk e0 11 rfl
  have z_max : PySem.W.nsIn K mainGlobals "max" = some none := GL.chk e0 12 rfl
  have z_min : PySem.W.nsIn K mainGlobals "min" = some none := GL.chk e0 13 rfl
  have z_reversed : PySem.W.nsIn K mainGlobals "reversed" = some none := GL.chk e0 14 rfl
  have z_enumerate : PySem.W.nsIn K mainGlobals "enumerate" = some none := GL.chk e0 15 rfl
  have z_sorted : PySem.W.nsIn K mainGlobals "sorted" = some none := GL.chk e0 16 rfl
  have z_dict : PySem.W.nsIn K mainGlobals "dict" = some none := GL.chk e0 17 rfl
  have z_zip : PySem.W.nsIn K mainGlobals "zip" = some none := GL.chk e0 18 rfl
  have z_NotImplemented : PySem.W.nsIn K mainGlobals "NotImplemented" = some none := GL.chk e0 19 rfl
  have g_gcd : PySem.W.nsIn K mainGlobals "gcd" = some (some (.builtin "math.gcd")) := GL.chk e0 20 rfl
  have g_lcm : PySem.W.nsIn K mainGlobals "lcm" = some (some (.builtin "math.lcm")) := GL.chk e0 21 rfl
  have a_is_ratio : PySem.W.nsIn K mainGlobals "is_ratio" = some (some (.ref (He.ga K "is_ratio"))) := GL.chk e0 22 rfl
  have a_told : PySem.W.nsIn K mainGlobals "told" = some (some (.ref (He.ga K "told"))) := GL.chk e0 23 rfl
  have a_plus : PySem.W.nsIn K mainGlobals "plus" = some (some (.ref (He.ga K "plus"))) := GL.chk e0 24 rfl
  have a_times : PySem.W.nsIn K mainGlobals "times" = some (some (.ref (He.ga K "times"))) := GL.chk e1 0 rfl
  have a_is_integer : PySem.W.nsIn K mainGlobals "is_integer" = some (some (.ref (He.ga K "is_integer"))) := GL.chk e1 1 rfl
  have a_parts : PySem.W.nsIn K mainGlobals "_parts" = some (some (.ref (He.ga K "_parts"))) := GL.chk e1 2 rfl
  have a_lowest : PySem.W.nsIn K mainGlobals "_lowest" = some (some (.ref (He.ga K "_lowest"))) := GL.chk e1 3 rfl
  have a_is_from : PySem.W.nsIn K mainGlobals "is_from" = some (some (.ref (He.ga K "is_from"))) := GL.chk e1 4 rfl
  have a_is_row : PySem.W.nsIn K mainGlobals "is_row" = some (some (.ref (He.ga K "is_row"))) := GL.chk e1 5 rfl
  have a_is_row_of : PySem.W.nsIn K mainGlobals "is_row_of" = some (some (.ref (He.ga K "is_row_of"))) := GL.chk e1 6 rfl
  have a_is_place : PySem.W.nsIn K mainGlobals "is_place" = some (some (.ref (He.ga K "is_place"))) := GL.chk e1 7 rfl
  have a_pair_of : PySem.W.nsIn K mainGlobals "pair_of" = some (some (.ref (He.ga K "pair_of"))) := GL.chk e1 8 rfl
  have a_place_of : PySem.W.nsIn K mainGlobals "place_of" = some (some (.ref (He.ga K "place_of"))) := GL.chk e1 9 rfl
  have a_is_strict_ratio : PySem.W.nsIn K mainGlobals "is_strict_ratio" = some (some (.ref (He.ga K "is_strict_ratio"))) := GL.chk e1 10 rfl
  have a_held : PySem.W.nsIn K mainGlobals "held" = some (some (.ref (He.ga K "held"))) := GL.chk e1 11 rfl
  have a_bottom_of : PySem.W.nsIn K mainGlobals "bottom_of" = some (some (.ref (He.ga K "bottom_of"))) := GL.chk e1 12 rfl
  have a_whole_row : PySem.W.nsIn K mainGlobals "whole_row" = some (some (.ref (He.ga K "whole_row"))) := GL.chk e1 13 rfl
  have a_whole_rows : PySem.W.nsIn K mainGlobals "whole_rows" = some (some (.ref (He.ga K "whole_rows"))) := GL.chk e1 14 rfl
  have a_top_power : PySem.W.nsIn K mainGlobals "top_power" = some (some (.ref (He.ga K "top_power"))) := GL.chk e1 15 rfl
  have a_total : PySem.W.nsIn K mainGlobals "total" = some (some (.ref (He.ga K "total"))) := GL.chk e1 16 rfl
  have a_joined : PySem.W.nsIn K mainGlobals "_joined" = some (some (.ref (He.ga K "_joined"))) := GL.chk e1 17 rfl
  have a_row_product : PySem.W.nsIn K mainGlobals "row_product" = some (some (.ref (He.ga K "row_product"))) := GL.chk e1 18 rfl
  have a_beside : PySem.W.nsIn K mainGlobals "_beside" = some (some (.ref (He.ga K "_beside"))) := GL.chk e1 19 rfl
  have a_number : PySem.W.nsIn K mainGlobals "_number" = some (some (.ref (He.ga K "_number"))) := GL.chk e1 20 rfl
  have a_sum : PySem.W.nsIn K mainGlobals "_sum" = some (some (.ref (He.ga K "_sum"))) := GL.chk e1 21 rfl
  have a_product : PySem.W.nsIn K mainGlobals "_product" = some (some (.ref (He.ga K "_product"))) := GL.chk e1 22 rfl
  have a_are_rows : PySem.W.nsIn K mainGlobals "_are_rows" = some (some (.ref (He.ga K "_are_rows"))) := GL.chk e1 23 rfl
  have a_shortened : PySem.W.nsIn K mainGlobals "_shortened" = some (some (.ref (He.ga K "_shortened"))) := GL.chk e1 24 rfl
  have a_plane_beside : PySem.W.nsIn K mainGlobals "_plane_beside" = some (some (.ref (He.ga K "_plane_beside"))) := GL.chk e2 0 rfl
  have a_row : PySem.W.nsIn K mainGlobals "_row" = some (some (.ref (He.ga K "_row"))) := GL.chk e2 1 rfl
  have a_plane_sum : PySem.W.nsIn K mainGlobals "_plane_sum" = some (some (.ref (He.ga K "_plane_sum"))) := GL.chk e2 2 rfl
  have a_row_sum : PySem.W.nsIn K mainGlobals "_row_sum" = some (some (.ref (He.ga K "_row_sum"))) := GL.chk e2 3 rfl
  have a_plane_product : PySem.W.nsIn K mainGlobals "_plane_product" = some (some (.ref (He.ga K "_plane_product"))) := GL.chk e2 4 rfl
  have a_facing : PySem.W.nsIn K mainGlobals "_facing" = some (some (.ref (He.ga K "_facing"))) := GL.chk e2 5 rfl
  have a_product_row : PySem.W.nsIn K mainGlobals "_product_row" = some (some (.ref (He.ga K "_product_row"))) := GL.chk e2 6 rfl
  have a_crossed_pairs : PySem.W.nsIn K mainGlobals "_crossed_pairs" = some (some (.ref (He.ga K "_crossed_pairs"))) := GL.chk e2 7 rfl
  have a_value_at : PySem.W.nsIn K mainGlobals "_value_at" = some (some (.ref (He.ga K "_value_at"))) := GL.chk e2 8 rfl
  have a_scaled : PySem.W.nsIn K mainGlobals "_scaled" = some (some (.ref (He.ga K "_scaled"))) := GL.chk e2 9 rfl
  have a_moved_whole : PySem.W.nsIn K mainGlobals "moved_whole" = some (some (.ref (He.ga K "moved_whole"))) := GL.chk e2 10 rfl
  have a_times_line : PySem.W.nsIn K mainGlobals "_times_line" = some (some (.ref (He.ga K "_times_line"))) := GL.chk e2 11 rfl
  have a_plane_of_numbers : PySem.W.nsIn K mainGlobals "_plane_of_numbers" = some (some (.ref (He.ga K "_plane_of_numbers"))) := GL.chk e2 12 rfl
  have a_slope_along : PySem.W.nsIn K mainGlobals "slope_along" = some (some (.ref (He.ga K "slope_along"))) := GL.chk e2 13 rfl
  have a_series : PySem.W.nsIn K mainGlobals "series" = some (some (.ref (He.ga K "series"))) := GL.chk e2 14 rfl
  have a_law_pen : PySem.W.nsIn K mainGlobals "_law_pen" = some (some (.ref (He.ga K "_law_pen"))) := GL.chk e2 15 rfl
  have a_law_draw : PySem.W.nsIn K mainGlobals "_law_draw" = some (some (.ref (He.ga K "_law_draw"))) := GL.chk e2 16 rfl
  have a_law_pick : PySem.W.nsIn K mainGlobals "_law_pick" = some (some (.ref (He.ga K "_law_pick"))) := GL.chk e2 17 rfl
  have a_law_gcd : PySem.W.nsIn K mainGlobals "_law_gcd" = some (some (.ref (He.ga K "_law_gcd"))) := GL.chk e2 18 rfl
  have a_law_q : PySem.W.nsIn K mainGlobals "_law_q" = some (some (.ref (He.ga K "_law_q"))) := GL.chk e2 19 rfl
  have a_law_plus : PySem.W.nsIn K mainGlobals "_law_plus" = some (some (.ref (He.ga K "_law_plus"))) := GL.chk e2 20 rfl
  have a_law_times : PySem.W.nsIn K mainGlobals "_law_times" = some (some (.ref (He.ga K "_law_times"))) := GL.chk e2 21 rfl
  have a_law_share : PySem.W.nsIn K mainGlobals "_law_share" = some (some (.ref (He.ga K "_law_share"))) := GL.chk e2 22 rfl
  have a_law_passed : PySem.W.nsIn K mainGlobals "_law_passed" = some (some (.ref (He.ga K "_law_passed"))) := GL.chk e2 23 rfl
  have a_law_ratio : PySem.W.nsIn K mainGlobals "_law_ratio" = some (some (.ref (He.ga K "_law_ratio"))) := GL.chk e2 24 rfl
  have a_law_poly : PySem.W.nsIn K mainGlobals "_law_poly" = some (some (.ref (He.ga K "_law_poly"))) := GL.chk e3 0 rfl
  have a_law_p_plus : PySem.W.nsIn K mainGlobals "_law_p_plus" = some (some (.ref (He.ga K "_law_p_plus"))) := GL.chk e3 1 rfl
  have a_law_p_times : PySem.W.nsIn K mainGlobals "_law_p_times" = some (some (.ref (He.ga K "_law_p_times"))) := GL.chk e3 2 rfl
  have a_law_p_at : PySem.W.nsIn K mainGlobals "_law_p_at" = some (some (.ref (He.ga K "_law_p_at"))) := GL.chk e3 3 rfl
  have a_law_p_moved : PySem.W.nsIn K mainGlobals "_law_p_moved" = some (some (.ref (He.ga K "_law_p_moved"))) := GL.chk e3 4 rfl
  have a_law_drawn : PySem.W.nsIn K mainGlobals "_law_drawn" = some (some (.ref (He.ga K "_law_drawn"))) := GL.chk e3 5 rfl
  have a_law_v_plain : PySem.W.nsIn K mainGlobals "_law_v_plain" = some (some (.ref (He.ga K "_law_v_plain"))) := GL.chk e3 6 rfl
  have a_law_v_plus : PySem.W.nsIn K mainGlobals "_law_v_plus" = some (some (.ref (He.ga K "_law_v_plus"))) := GL.chk e3 7 rfl
  have a_law_v_scaled : PySem.W.nsIn K mainGlobals "_law_v_scaled" = some (some (.ref (He.ga K "_law_v_scaled"))) := GL.chk e3 8 rfl
  have a_law_v_times : PySem.W.nsIn K mainGlobals "_law_v_times" = some (some (.ref (He.ga K "_law_v_times"))) := GL.chk e3 9 rfl
  have a_law_q_power : PySem.W.nsIn K mainGlobals "_law_q_power" = some (some (.ref (He.ga K "_law_q_power"))) := GL.chk e3 10 rfl
  have a_law_v_at : PySem.W.nsIn K mainGlobals "_law_v_at" = some (some (.ref (He.ga K "_law_v_at"))) := GL.chk e3 11 rfl
  have a_law_v_of : PySem.W.nsIn K mainGlobals "_law_v_of" = some (some (.ref (He.ga K "_law_v_of"))) := GL.chk e3 12 rfl
  have a_law_v_rows : PySem.W.nsIn K mainGlobals "_law_v_rows" = some (some (.ref (He.ga K "_law_v_rows"))) := GL.chk e3 13 rfl
  have a_law_made_plane : PySem.W.nsIn K mainGlobals "_law_made_plane" = some (some (.ref (He.ga K "_law_made_plane"))) := GL.chk e3 14 rfl
  have a_law_v_drawn : PySem.W.nsIn K mainGlobals "_law_v_drawn" = some (some (.ref (He.ga K "_law_v_drawn"))) := GL.chk e3 15 rfl
  have a_law_place : PySem.W.nsIn K mainGlobals "_law_place" = some (some (.ref (He.ga K "_law_place"))) := GL.chk e3 16 rfl
  have a_law_fault : PySem.W.nsIn K mainGlobals "_law_fault" = some (some (.ref (He.ga K "_law_fault"))) := GL.chk e3 17 rfl
  have a_law_made_field : PySem.W.nsIn K mainGlobals "_law_made_field" = some (some (.ref (He.ga K "_law_made_field"))) := GL.chk e3 18 rfl
  have a_law_x : PySem.W.nsIn K mainGlobals "_law_x" = some (some (.ref (He.ga K "_law_x"))) := GL.chk e3 19 rfl
  have a_law_y : PySem.W.nsIn K mainGlobals "_law_y" = some (some (.ref (He.ga K "_law_y"))) := GL.chk e3 20 rfl
  have a_law_some_field : PySem.W.nsIn K mainGlobals "_law_some_field" = some (some (.ref (He.ga K "_law_some_field"))) := GL.chk e3 21 rfl
  have a_law_easy_field : PySem.W.nsIn K mainGlobals "_law_easy_field" = some (some (.ref (He.ga K "_law_easy_field"))) := GL.chk e3 22 rfl
  have a_law_easy_flow : PySem.W.nsIn K mainGlobals "_law_easy_flow" = some (some (.ref (He.ga K "_law_easy_flow"))) := GL.chk e3 23 rfl
  have a_law_row_times : PySem.W.nsIn K mainGlobals "_law_row_times" = some (some (.ref (He.ga K "_law_row_times"))) := GL.chk e3 24 rfl
  have a_law_row_of : PySem.W.nsIn K mainGlobals "_law_row_of" = some (some (.ref (He.ga K "_law_row_of"))) := GL.chk e4 0 rfl
  have a_law_solves : PySem.W.nsIn K mainGlobals "_law_solves" = some (some (.ref (He.ga K "_law_solves"))) := GL.chk e4 1 rfl
  have a_law : PySem.W.nsIn K mainGlobals "law" = some (some (.ref (He.ga K "law"))) := GL.chk e4 2 rfl
  have hn_ : PySem.W.specialIn K (.builtin "object.__class__") "__get__" = some (some (.builtin "getset_descriptor.__get__")) := GL.chk e4 3 rfl
  have ht_ : PySem.W.takesIn K (.builtin "object.__class__") = some true := GL.chk e4 4 rfl
  have a_BadNumber : PySem.W.nsIn K mainGlobals "BadNumber" = some (some (.ref (He.ga K "BadNumber"))) := GL.chk e4 5 rfl
  have ga_BadNumber : PySem.W.findIn K (.ref (He.ga K "BadNumber")) "__getattribute__" = some (some (.builtin "BaseException.__getattribute__")) := GL.chk e4 6 rfl
  have gg_BadNumber : PySem.W.findIn K (.ref (He.ga K "BadNumber")) "__getattr__" = some none := GL.chk e4 7 rfl
  have sb_BadNumber : PySem.W.subIn K (.ref (He.ga K "BadNumber")) (.type "BaseException") = some true := GL.chk e4 8 rfl
  have hd_BadNumber : PySem.W.hasDictIn K (He.ga K "BadNumber") = true := GL.chk e4 9 rfl
  have ca_BadNumber : PySem.W.findIn K (.ref (He.ga K "BadNumber")) "__class__" = some (some (.builtin "object.__class__")) := GL.chk e4 10 rfl
  have mo_BadNumber : PySem.W.mroIn K (He.ga K "BadNumber") (.type "object") = some true := GL.chk e4 11 rfl
  have kp_BadNumber : PySem.W.keepIn K (.ref (He.ga K "BadNumber")) = true := GL.chk e4 12 rfl
  have sa_BadNumber : PySem.W.findIn K (.ref (He.ga K "BadNumber")) "__setattr__" = some (some (.builtin "object.__setattr__")) := GL.chk e4 13 rfl
  have ty_BadNumber : PySem.W.typeIn K (.ref (He.ga K "BadNumber")) = some (.type "type") := GL.chk e4 14 rfl
  have i_BadNumber : PySem.W.findIn K (.ref (He.ga K "BadNumber")) "__init__" = some (some (.ref (He.ma K (He.ga K "BadNumber") "__init__"))) := GL.chk e4 15 rfl
  have t_BadNumber : PySem.W.typeIn K (.ref (He.ma K (He.ga K "BadNumber") "__init__")) = some (.type "function") := GL.chk e4 16 rfl
  have n_BadNumber_what : PySem.W.findIn K (.ref (He.ga K "BadNumber")) "what" = some none := GL.chk e4 17 rfl
  have n_BadNumber_number : PySem.W.findIn K (.ref (He.ga K "BadNumber")) "number" = some none := GL.chk e4 18 rfl
  have a_BadRow : PySem.W.nsIn K mainGlobals "BadRow" = some (some (.ref (He.ga K "BadRow"))) := GL.chk e4 19 rfl
  have ga_BadRow : PySem.W.findIn K (.ref (He.ga K "BadRow")) "__getattribute__" = some (some (.builtin "BaseException.__getattribute__")) := GL.chk e4 20 rfl
  have gg_BadRow : PySem.W.findIn K (.ref (He.ga K "BadRow")) "__getattr__" = some none := GL.chk e4 21 rfl
  have sb_BadRow : PySem.W.subIn K (.ref (He.ga K "BadRow")) (.type "BaseException") = some true := GL.chk e4 22 rfl
  have hd_BadRow : PySem.W.hasDictIn K (He.ga K "BadRow") = true := GL.chk e4 23 rfl
  have ca_BadRow : PySem.W.findIn K (.ref (He.ga K "BadRow")) "__class__" = some (some (.builtin "object.__class__")) := GL.chk e4 24 rfl
  have mo_BadRow : PySem.W.mroIn K (He.ga K "BadRow") (.type "object") = some true := GL.chk e5 0 rfl
  have kp_BadRow : PySem.W.keepIn K (.ref (He.ga K "BadRow")) = true := GL.chk e5 1 rfl
  have sa_BadRow : PySem.W.findIn K (.ref (He.ga K "BadRow")) "__setattr__" = some (some (.builtin "object.__setattr__")) := GL.chk e5 2 rfl
  have ty_BadRow : PySem.W.typeIn K (.ref (He.ga K "BadRow")) = some (.type "type") := GL.chk e5 3 rfl
  have i_BadRow : PySem.W.findIn K (.ref (He.ga K "BadRow")) "__init__" = some (some (.ref (He.ma K (He.ga K "BadRow") "__init__"))) := GL.chk e5 4 rfl
  have t_BadRow : PySem.W.typeIn K (.ref (He.ma K (He.ga K "BadRow") "__init__")) = some (.type "function") := GL.chk e5 5 rfl
  have n_BadRow_row : PySem.W.findIn K (.ref (He.ga K "BadRow")) "row" = some none := GL.chk e5 6 rfl
  have e_xBadNumberBadNumber : PySem.W.exmOne K (.ref (He.ga K "BadNumber")) (.ref (He.ga K "BadNumber")) = some true := GL.chk e5 7 rfl
  have e_xBadRowBadNumber : PySem.W.exmOne K (.ref (He.ga K "BadRow")) (.ref (He.ga K "BadNumber")) = some false := GL.chk e5 8 rfl
  have e_xBadRowBadRow : PySem.W.exmOne K (.ref (He.ga K "BadRow")) (.ref (He.ga K "BadRow")) = some true := GL.chk e5 9 rfl
  have a_Plane : PySem.W.nsIn K mainGlobals "Plane" = some (some (.ref (He.ga K "Plane"))) := GL.chk e5 10 rfl
  have p_pg : PySem.W.plainGet K (He.ga K "Plane") Str.empty = true := GL.chk e5 11 rfl
  have p_hd : PySem.W.hasDictIn K (He.ga K "Plane") = true := GL.chk e5 12 rfl
  have p_po : PySem.W.plainOver K (He.ga K "Plane") = true := GL.chk e5 13 rfl
  have p_sa : PySem.W.findIn K (.ref (He.ga K "Plane")) "__setattr__" = some (some (.builtin "object.__setattr__")) := GL.chk e5 14 rfl
  have p_mk : PySem.W.makesIn K (He.ga K "Plane") = true := GL.chk e5 15 rfl
  have p_kp : PySem.W.keepIn K (.ref (He.ga K "Plane")) = true := GL.chk e5 16 rfl
  have p_norows : PySem.W.findIn K (.ref (He.ga K "Plane")) "rows" = some none := GL.chk e5 17 rfl
  have ip_init : PySem.W.findIn K (.ref (He.ga K "Plane")) "__init__" = some (some (.ref (He.ma K (He.ga K "Plane") "__init__"))) := GL.chk e5 18 rfl
  have np_init : PySem.W.isFn K (.ref (He.ma K (He.ga K "Plane") "__init__")) = true := GL.chk e5 19 rfl
  have ip_eq : PySem.W.findIn K (.ref (He.ga K "Plane")) "__eq__" = some (some (.ref (He.ma K (He.ga K "Plane") "__eq__"))) := GL.chk e5 20 rfl
  have np_eq : PySem.W.isFn K (.ref (He.ma K (He.ga K "Plane") "__eq__")) = true := GL.chk e5 21 rfl
  have ip_add : PySem.W.findIn K (.ref (He.ga K "Plane")) "__add__" = some (some (.ref (He.ma K (He.ga K "Plane") "__add__"))) := GL.chk e5 22 rfl
  have np_add : PySem.W.isFn K (.ref (He.ma K (He.ga K "Plane") "__add__")) = true := GL.chk e5 23 rfl
  have ip_radd : PySem.W.findIn K (.ref (He.ga K "Plane")) "__radd__" = some (some (.ref (He.ma K (He.ga K "Plane") "__radd__"))) := GL.chk e5 24 rfl
  have np_radd : PySem.W.isFn K (.ref (He.ma K (He.ga K "Plane") "__radd__")) = true := GL.chk e6 0 rfl
  have ip_sub : PySem.W.findIn K (.ref (He.ga K "Plane")) "__sub__" = some (some (.ref (He.ma K (He.ga K "Plane") "__sub__"))) := GL.chk e6 1 rfl
  have np_sub : PySem.W.isFn K (.ref (He.ma K (He.ga K "Plane") "__sub__")) = true := GL.chk e6 2 rfl
  have ip_rsub : PySem.W.findIn K (.ref (He.ga K "Plane")) "__rsub__" = some (some (.ref (He.ma K (He.ga K "Plane") "__rsub__"))) := GL.chk e6 3 rfl
  have np_rsub : PySem.W.isFn K (.ref (He.ma K (He.ga K "Plane") "__rsub__")) = true := GL.chk e6 4 rfl
  have ip_mul : PySem.W.findIn K (.ref (He.ga K "Plane")) "__mul__" = some (some (.ref (He.ma K (He.ga K "Plane") "__mul__"))) := GL.chk e6 5 rfl
  have np_mul : PySem.W.isFn K (.ref (He.ma K (He.ga K "Plane") "__mul__")) = true := GL.chk e6 6 rfl
  have ip_rmul : PySem.W.findIn K (.ref (He.ga K "Plane")) "__rmul__" = some (some (.ref (He.ma K (He.ga K "Plane") "__rmul__"))) := GL.chk e6 7 rfl
  have np_rmul : PySem.W.isFn K (.ref (He.ma K (He.ga K "Plane") "__rmul__")) = true := GL.chk e6 8 rfl
  have ip_neg : PySem.W.findIn K (.ref (He.ga K "Plane")) "__neg__" = some (some (.ref (He.ma K (He.ga K "Plane") "__neg__"))) := GL.chk e6 9 rfl
  have np_neg : PySem.W.isFn K (.ref (He.ma K (He.ga K "Plane") "__neg__")) = true := GL.chk e6 10 rfl
  have ip_degree : PySem.W.findIn K (.ref (He.ga K "Plane")) "degree" = some (some (.ref (He.ma K (He.ga K "Plane") "degree"))) := GL.chk e6 11 rfl
  have np_degree : PySem.W.isFn K (.ref (He.ma K (He.ga K "Plane") "degree")) = true := GL.chk e6 12 rfl
  have ip_at : PySem.W.findIn K (.ref (He.ga K "Plane")) "at" = some (some (.ref (He.ma K (He.ga K "Plane") "at"))) := GL.chk e6 13 rfl
  have np_at : PySem.W.isFn K (.ref (He.ma K (He.ga K "Plane") "at")) = true := GL.chk e6 14 rfl
  have ip_slope_x : PySem.W.findIn K (.ref (He.ga K "Plane")) "slope_x" = some (some (.ref (He.ma K (He.ga K "Plane") "slope_x"))) := GL.chk e6 15 rfl
  have np_slope_x : PySem.W.isFn K (.ref (He.ma K (He.ga K "Plane") "slope_x")) = true := GL.chk e6 16 rfl
  have ip_slope_y : PySem.W.findIn K (.ref (He.ga K "Plane")) "slope_y" = some (some (.ref (He.ma K (He.ga K "Plane") "slope_y"))) := GL.chk e6 17 rfl
  have np_slope_y : PySem.W.isFn K (.ref (He.ma K (He.ga K "Plane") "slope_y")) = true := GL.chk e6 18 rfl
  have p_hc : PySem.W.findIn K (.ref (He.ga K "Plane")) "__class__" = some (some (.builtin "object.__class__")) := GL.chk e6 19 rfl
  have p_hm : PySem.W.mroIn K (He.ga K "Plane") (.type "object") = some true := GL.chk e6 20 rfl
  have p_kfint : PySem.W.kitOne K (.type "int") (.ref (He.ga K "Plane")) = some false := GL.chk e6 21 rfl
  have p_stint : PySem.W.subIn K (.type "int") (.ref (He.ga K "Plane")) = some false := GL.chk e6 22 rfl
  have p_kftuple : PySem.W.kitOne K (.type "tuple") (.ref (He.ga K "Plane")) = some false := GL.chk e6 23 rfl
  have p_sttuple : PySem.W.subIn K (.type "tuple") (.ref (He.ga K "Plane")) = some false := GL.chk e6 24 rfl
  have p_me : PySem.W.selfFirst K (He.ga K "Plane") = true := GL.chk e7 0 rfl
  have p_kl : PySem.W.kitOne K (.ref (He.ga K "Plane")) (.type "list") = some false := GL.chk e7 1 rfl
  have p_scint : PySem.W.subIn K (.ref (He.ga K "Plane")) (.type "int") = some false := GL.chk e7 2 rfl
  have q_fointAdd : PySem.W.findIn K (.type "int") "__add__" = some ((PySem.W.findIn K (.type "int") "__add__").getD none) := GL.chk e7 3 rfl
  have q_rointAdd : PySem.W.findIn K (.type "int") "__radd__" = some ((PySem.W.findIn K (.type "int") "__radd__").getD none) := GL.chk e7 4 rfl
  have q_xintAdd : ((((PySem.W.findIn K (.type "int") "__add__").getD none).isSome && !isSeqSlot ((PySem.W.findIn K (.type "int") "__add__").getD none)) || (((PySem.W.findIn K (.type "int") "__radd__").getD none).isSome && !isSeqSlot ((PySem.W.findIn K (.type "int") "__radd__").getD none))) = true := GL.chk e7 5 rfl
  have q_fointSub : PySem.W.findIn K (.type "int") "__sub__" = some ((PySem.W.findIn K (.type "int") "__sub__").getD none) := GL.chk e7 6 rfl
  have q_rointSub : PySem.W.findIn K (.type "int") "__rsub__" = some ((PySem.W.findIn K (.type "int") "__rsub__").getD none) := GL.chk e7 7 rfl
  have q_xintSub : ((((PySem.W.findIn K (.type "int") "__sub__").getD none).isSome && !isSeqSlot ((PySem.W.findIn K (.type "int") "__sub__").getD none)) || (((PySem.W.findIn K (.type "int") "__rsub__").getD none).isSome && !isSeqSlot ((PySem.W.findIn K (.type "int") "__rsub__").getD none))) = true := GL.chk e7 8 rfl
  have q_fointMult : PySem.W.findIn K (.type "int") "__mul__" = some ((PySem.W.findIn K (.type "int") "__mul__").getD none) := GL.chk e7 9 rfl
  have q_rointMult : PySem.W.findIn K (.type "int") "__rmul__" = some ((PySem.W.findIn K (.type "int") "__rmul__").getD none) := GL.chk e7 10 rfl
  have q_xintMult : ((((PySem.W.findIn K (.type "int") "__mul__").getD none).isSome && !isSeqSlot ((PySem.W.findIn K (.type "int") "__mul__").getD none)) || (((PySem.W.findIn K (.type "int") "__rmul__").getD none).isSome && !isSeqSlot ((PySem.W.findIn K (.type "int") "__rmul__").getD none))) = true := GL.chk e7 11 rfl
  have p_sctuple : PySem.W.subIn K (.ref (He.ga K "Plane")) (.type "tuple") = some false := GL.chk e7 12 rfl
  have q_fotupleAdd : PySem.W.findIn K (.type "tuple") "__add__" = some ((PySem.W.findIn K (.type "tuple") "__add__").getD none) := GL.chk e7 13 rfl
  have q_rotupleAdd : PySem.W.findIn K (.type "tuple") "__radd__" = some ((PySem.W.findIn K (.type "tuple") "__radd__").getD none) := GL.chk e7 14 rfl
  have q_xtupleAdd : ((((PySem.W.findIn K (.type "tuple") "__add__").getD none).isSome && !isSeqSlot ((PySem.W.findIn K (.type "tuple") "__add__").getD none)) || (((PySem.W.findIn K (.type "tuple") "__radd__").getD none).isSome && !isSeqSlot ((PySem.W.findIn K (.type "tuple") "__radd__").getD none))) = false := GL.chk e7 15 rfl
  have q_fotupleSub : PySem.W.findIn K (.type "tuple") "__sub__" = some ((PySem.W.findIn K (.type "tuple") "__sub__").getD none) := GL.chk e7 16 rfl
  have q_rotupleSub : PySem.W.findIn K (.type "tuple") "__rsub__" = some ((PySem.W.findIn K (.type "tuple") "__rsub__").getD none) := GL.chk e7 17 rfl
  have q_xtupleSub : ((((PySem.W.findIn K (.type "tuple") "__sub__").getD none).isSome && !isSeqSlot ((PySem.W.findIn K (.type "tuple") "__sub__").getD none)) || (((PySem.W.findIn K (.type "tuple") "__rsub__").getD none).isSome && !isSeqSlot ((PySem.W.findIn K (.type "tuple") "__rsub__").getD none))) = false := GL.chk e7 18 rfl
  have q_fotupleMult : PySem.W.findIn K (.type "tuple") "__mul__" = some ((PySem.W.findIn K (.type "tuple") "__mul__").getD none) := GL.chk e7 19 rfl
  have q_rotupleMult : PySem.W.findIn K (.type "tuple") "__rmul__" = some ((PySem.W.findIn K (.type "tuple") "__rmul__").getD none) := GL.chk e7 20 rfl
  have q_xtupleMult : ((((PySem.W.findIn K (.type "tuple") "__mul__").getD none).isSome && !isSeqSlot ((PySem.W.findIn K (.type "tuple") "__mul__").getD none)) || (((PySem.W.findIn K (.type "tuple") "__rmul__").getD none).isSome && !isSeqSlot ((PySem.W.findIn K (.type "tuple") "__rmul__").getD none))) = false := GL.chk e7 21 rfl
  have a_Field : PySem.W.nsIn K mainGlobals "Field" = some (some (.ref (He.ga K "Field"))) := GL.chk e7 22 rfl
  have f_pg : PySem.W.plainGet K (He.ga K "Field") Str.empty = true := GL.chk e7 23 rfl
  have f_hd : PySem.W.hasDictIn K (He.ga K "Field") = true := GL.chk e7 24 rfl
  have f_po : PySem.W.plainOver K (He.ga K "Field") = true := GL.chk e8 0 rfl
  have f_sa : PySem.W.findIn K (.ref (He.ga K "Field")) "__setattr__" = some (some (.builtin "object.__setattr__")) := GL.chk e8 1 rfl
  have f_mk : PySem.W.makesIn K (He.ga K "Field") = true := GL.chk e8 2 rfl
  have f_kp : PySem.W.keepIn K (.ref (He.ga K "Field")) = true := GL.chk e8 3 rfl
  have f_nop : PySem.W.findIn K (.ref (He.ga K "Field")) "p" = some none := GL.chk e8 4 rfl
  have f_noq : PySem.W.findIn K (.ref (He.ga K "Field")) "q" = some none := GL.chk e8 5 rfl
  have if_init : PySem.W.findIn K (.ref (He.ga K "Field")) "__init__" = some (some (.ref (He.ma K (He.ga K "Field") "__init__"))) := GL.chk e8 6 rfl
  have nf_init : PySem.W.isFn K (.ref (He.ma K (He.ga K "Field") "__init__")) = true := GL.chk e8 7 rfl
  have if_eq : PySem.W.findIn K (.ref (He.ga K "Field")) "__eq__" = some (some (.ref (He.ma K (He.ga K "Field") "__eq__"))) := GL.chk e8 8 rfl
  have nf_eq : PySem.W.isFn K (.ref (He.ma K (He.ga K "Field") "__eq__")) = true := GL.chk e8 9 rfl
  have f_hc : PySem.W.findIn K (.ref (He.ga K "Field")) "__class__" = some (some (.builtin "object.__class__")) := GL.chk e8 10 rfl
  have f_hm : PySem.W.mroIn K (He.ga K "Field") (.type "object") = some true := GL.chk e8 11 rfl
  have f_kfint : PySem.W.kitOne K (.type "int") (.ref (He.ga K "Field")) = some false := GL.chk e8 12 rfl
  have f_stint : PySem.W.subIn K (.type "int") (.ref (He.ga K "Field")) = some false := GL.chk e8 13 rfl
  have f_kftuple : PySem.W.kitOne K (.type "tuple") (.ref (He.ga K "Field")) = some false := GL.chk e8 14 rfl
  have f_sttuple : PySem.W.subIn K (.type "tuple") (.ref (He.ga K "Field")) = some false := GL.chk e8 15 rfl
  have f_ks : PySem.W.kitOne K (.ref (He.ga K "Field")) (.ref (He.ga K "Field")) = some true := GL.chk e8 16 rfl
  obtain ⟨_, _, _, _, bm_xL_BadNumber, _, _, _, _, _, _, _, _, _, _, xL_BadNumber, rb_BadNumber⟩ := GL.xcB_ok qxL_BadNumber
  obtain ⟨_, _, _, _, bm_xL_BadRow, _, _, _, _, _, _, _, _, _, _, xL_BadRow, rb_BadRow⟩ := GL.xcB_ok qxL_BadRow
  obtain ⟨cC, ecC, hcC⟩ := GL.lawX X G cd a_law 80 rfl
  exact fin {
  int := PySem.W.mg_none_of X G z_int
  bool := PySem.W.mg_none_of X G z_bool
  list := PySem.W.mg_none_of X G z_list
  tuple := PySem.W.mg_none_of X G z_tuple
  len := PySem.W.mg_none_of X G z_len
  range := PySem.W.mg_none_of X G z_range
  isinstance := PySem.W.mg_none_of X G z_isinstance
  repr := PySem.W.mg_none_of X G z_repr
  abs := PySem.W.mg_none_of X G z_abs
  all := PySem.W.mg_none_of X G z_all
  max := PySem.W.mg_none_of X G z_max
  min := PySem.W.mg_none_of X G z_min
  reversed := PySem.W.mg_none_of X G z_reversed
  enumerate := PySem.W.mg_none_of X G z_enumerate
  sorted := PySem.W.mg_none_of X G z_sorted
  dict := PySem.W.mg_none_of X G z_dict
  zip := PySem.W.mg_none_of X G z_zip
  NotImplemented := PySem.W.mg_none_of X G z_NotImplemented
  gcd := PySem.W.mg_of X G g_gcd
  lcm := PySem.W.mg_of X G g_lcm
  is_ratio := GL.dfX X G cd a_is_ratio 0 rfl fun _ _ _ _ _ _ us hl => match us, hl with | [_], _ => rfl
  told := GL.dfX X G cd a_told 1 rfl fun _ _ _ _ _ _ us hl => match us, hl with | [_, _], _ => rfl
  plus := GL.dfX X G cd a_plus 2 rfl fun _ _ _ _ _ _ us hl => match us, hl with | [_, _], _ => rfl
  times := GL.dfX X G cd a_times 3 rfl fun _ _ _ _ _ _ us hl => match us, hl with | [_, _], _ => rfl
  is_integer := GL.dfX X G cd a_is_integer 4 rfl fun _ _ _ _ _ _ us hl => match us, hl with | [_], _ => rfl
  _parts := GL.dfX X G cd a_parts 5 rfl fun _ _ _ _ _ _ us hl => match us, hl with | [_, _], _ => rfl
  _lowest := GL.dfX X G cd a_lowest 6 rfl fun _ _ _ _ _ _ us hl => match us, hl with | [_, _], _ => rfl
  is_from := GL.dfX X G cd a_is_from 7 rfl fun _ _ _ _ _ _ us hl => match us, hl with | [_, _, _], _ => rfl
  is_row := GL.dfX X G cd a_is_row 8 rfl fun _ _ _ _ _ _ us hl => match us, hl with | [_], _ => rfl
  is_row_of := GL.dfX X G cd a_is_row_of 9 rfl fun _ _ _ _ _ _ us hl => match us, hl with | [_, _], _ => rfl
  is_place := GL.dfX X G cd a_is_place 10 rfl fun _ _ _ _ _ _ us hl => match us, hl with | [_], _ => rfl
  pair_of := GL.dfX X G cd a_pair_of 11 rfl fun _ _ _ _ _ _ us hl => match us, hl with | [_], _ => rfl
  place_of := GL.dfX X G cd a_place_of 12 rfl fun _ _ _ _ _ _ us hl => match us, hl with | [_], _ => rfl
  is_strict_ratio := GL.dfX X G cd a_is_strict_ratio 13 rfl fun _ _ _ _ _ _ us hl => match us, hl with | [_], _ => rfl
  held := GL.dfX X G cd a_held 14 rfl fun _ _ _ _ _ _ us hl => match us, hl with | [_], _ => rfl
  bottom_of := GL.dfX X G cd a_bottom_of 15 rfl fun _ _ _ _ _ _ us hl => match us, hl with | [_], _ => rfl
  whole_row := GL.dfX X G cd a_whole_row 16 rfl fun _ _ _ _ _ _ us hl => match us, hl with | [_], _ => rfl
  whole_rows := GL.dfX X G cd a_whole_rows 17 rfl fun _ _ _ _ _ _ us hl => match us, hl with | [_], _ => rfl
  top_power := GL.dfX X G cd a_top_power 18 rfl fun _ _ _ _ _ _ us hl => match us, hl with | [_], _ => rfl
  total := GL.dfX X G cd a_total 19 rfl fun _ _ _ _ _ _ us hl => match us, hl with | [_], _ => rfl
  _joined := GL.dfX X G cd a_joined 20 rfl fun _ _ _ _ _ _ us hl => match us, hl with | [_], _ => rfl
  row_product := GL.dfX X G cd a_row_product 21 rfl fun _ _ _ _ _ _ us hl => match us, hl with | [_, _], _ => rfl
  _beside := GL.dfX X G cd a_beside 22 rfl fun _ _ _ _ _ _ us hl => match us, hl with | [_], _ => rfl
  _number := GL.dfX X G cd a_number 23 rfl fun _ _ _ _ _ _ us hl => match us, hl with | [_, _], _ => rfl
  _sum := GL.dfX X G cd a_sum 24 rfl fun _ _ _ _ _ _ us hl => match us, hl with | [_, _], _ => rfl
  _product := GL.dfX X G cd a_product 25 rfl fun _ _ _ _ _ _ us hl => match us, hl with | [_, _], _ => rfl
  _are_rows := GL.dfX X G cd a_are_rows 26 rfl fun _ _ _ _ _ _ us hl => match us, hl with | [_], _ => rfl
  _shortened := GL.dfX X G cd a_shortened 27 rfl fun _ _ _ _ _ _ us hl => match us, hl with | [_], _ => rfl
  _plane_beside := GL.dfX X G cd a_plane_beside 28 rfl fun _ _ _ _ _ _ us hl => match us, hl with | [_], _ => rfl
  _row := GL.dfX X G cd a_row 29 rfl fun _ _ _ _ _ _ us hl => match us, hl with | [_, _], _ => rfl
  _plane_sum := GL.dfX X G cd a_plane_sum 30 rfl fun _ _ _ _ _ _ us hl => match us, hl with | [_, _], _ => rfl
  _row_sum := GL.dfX X G cd a_row_sum 31 rfl fun _ _ _ _ _ _ us hl => match us, hl with | [_, _], _ => rfl
  _plane_product := GL.dfX X G cd a_plane_product 32 rfl fun _ _ _ _ _ _ us hl => match us, hl with | [_, _], _ => rfl
  _facing := GL.dfX X G cd a_facing 33 rfl fun _ _ _ _ _ _ us hl => match us, hl with | [_, _, _], _ => rfl
  _product_row := GL.dfX X G cd a_product_row 34 rfl fun _ _ _ _ _ _ us hl => match us, hl with | [_], _ => rfl
  _crossed_pairs := GL.dfX X G cd a_crossed_pairs 35 rfl fun _ _ _ _ _ _ us hl => match us, hl with | [_, _], _ => rfl
  _value_at := GL.dfX X G cd a_value_at 36 rfl fun _ _ _ _ _ _ us hl => match us, hl with | [_, _, _], _ => rfl
  _scaled := GL.dfX X G cd a_scaled 37 rfl fun _ _ _ _ _ _ us hl => match us, hl with | [_, _, _], _ => rfl
  moved_whole := GL.dfX X G cd a_moved_whole 38 rfl fun _ _ _ _ _ _ us hl => match us, hl with | [_, _, _, _, _], _ => rfl
  _times_line := GL.dfX X G cd a_times_line 39 rfl fun _ _ _ _ _ _ us hl => match us, hl with | [_, _], _ => rfl
  _plane_of_numbers := GL.dfX X G cd a_plane_of_numbers 40 rfl fun _ _ _ _ _ _ us hl => match us, hl with | [_, _], _ => rfl
  slope_along := GL.dfX X G cd a_slope_along 41 rfl fun _ _ _ _ _ _ us hl => match us, hl with | [_, _], _ => rfl
  series := GL.dfX X G cd a_series 42 rfl fun _ _ _ _ _ _ us hl => match us, hl with | [_, _], _ => rfl
  _law_pen := GL.dfX X G cd a_law_pen 43 rfl fun _ _ _ _ _ _ us hl => match us, hl with | [_], _ => rfl
  _law_draw := GL.dfX X G cd a_law_draw 44 rfl fun _ _ _ _ _ _ us hl => match us, hl with | [_, _], _ => rfl
  _law_pick := GL.dfX X G cd a_law_pick 45 rfl fun _ _ _ _ _ _ us hl => match us, hl with | [_, _], _ => rfl
  _law_gcd := GL.dfX X G cd a_law_gcd 46 rfl fun _ _ _ _ _ _ us hl => match us, hl with | [_, _], _ => rfl
  _law_q := GL.dfX X G cd a_law_q 47 rfl fun _ _ _ _ _ _ us hl => match us, hl with | [_, _], _ => rfl
  _law_plus := GL.dfX X G cd a_law_plus 48 rfl fun _ _ _ _ _ _ us hl => match us, hl with | [_, _], _ => rfl
  _law_times := GL.dfX X G cd a_law_times 49 rfl fun _ _ _ _ _ _ us hl => match us, hl with | [_, _], _ => rfl
  _law_share := GL.dfX X G cd a_law_share 50 rfl fun _ _ _ _ _ _ us hl => match us, hl with | [_, _], _ => rfl
  _law_passed := GL.dfX X G cd a_law_passed 51 rfl fun _ _ _ _ _ _ us hl => match us, hl with | [_, _], _ => rfl
  _law_ratio := GL.dfX X G cd a_law_ratio 52 rfl fun _ _ _ _ _ _ us hl => match us, hl with | [_, _], _ => rfl
  _law_poly := GL.dfX X G cd a_law_poly 53 rfl fun _ _ _ _ _ _ us hl => match us, hl with | [_], _ => rfl
  _law_p_plus := GL.dfX X G cd a_law_p_plus 54 rfl fun _ _ _ _ _ _ us hl => match us, hl with | [_, _], _ => rfl
  _law_p_times := GL.dfX X G cd a_law_p_times 55 rfl fun _ _ _ _ _ _ us hl => match us, hl with | [_, _], _ => rfl
  _law_p_at := GL.dfX X G cd a_law_p_at 56 rfl fun _ _ _ _ _ _ us hl => match us, hl with | [_, _], _ => rfl
  _law_p_moved := GL.dfX X G cd a_law_p_moved 57 rfl fun _ _ _ _ _ _ us hl => match us, hl with | [_, _, _], _ => rfl
  _law_drawn := GL.dfX X G cd a_law_drawn 58 rfl fun _ _ _ _ _ _ us hl => match us, hl with | [_, _, _], _ => rfl
  _law_v_plain := GL.dfX X G cd a_law_v_plain 59 rfl fun _ _ _ _ _ _ us hl => match us, hl with | [_], _ => rfl
  _law_v_plus := GL.dfX X G cd a_law_v_plus 60 rfl fun _ _ _ _ _ _ us hl => match us, hl with | [_, _], _ => rfl
  _law_v_scaled := GL.dfX X G cd a_law_v_scaled 61 rfl fun _ _ _ _ _ _ us hl => match us, hl with | [_, _], _ => rfl
  _law_v_times := GL.dfX X G cd a_law_v_times 62 rfl fun _ _ _ _ _ _ us hl => match us, hl with | [_, _], _ => rfl
  _law_q_power := GL.dfX X G cd a_law_q_power 63 rfl fun _ _ _ _ _ _ us hl => match us, hl with | [_, _], _ => rfl
  _law_v_at := GL.dfX X G cd a_law_v_at 64 rfl fun _ _ _ _ _ _ us hl => match us, hl with | [_, _], _ => rfl
  _law_v_of := GL.dfX X G cd a_law_v_of 65 rfl fun _ _ _ _ _ _ us hl => match us, hl with | [_], _ => rfl
  _law_v_rows := GL.dfX X G cd a_law_v_rows 66 rfl fun _ _ _ _ _ _ us hl => match us, hl with | [_], _ => rfl
  _law_made_plane := GL.dfX X G cd a_law_made_plane 67 rfl fun _ _ _ _ _ _ us hl => match us, hl with | [_, _], _ => rfl
  _law_v_drawn := GL.dfX X G cd a_law_v_drawn 68 rfl fun _ _ _ _ _ _ us hl => match us, hl with | [_, _, _], _ => rfl
  _law_place := GL.dfX X G cd a_law_place 69 rfl fun _ _ _ _ _ _ us hl => match us, hl with | [_, _], _ => rfl
  _law_fault := GL.dfX X G cd a_law_fault 70 rfl fun _ _ _ _ _ _ us hl => match us, hl with | [_], _ => rfl
  _law_made_field := GL.dfX X G cd a_law_made_field 71 rfl fun _ _ _ _ _ _ us hl => match us, hl with | [_, _], _ => rfl
  _law_x := GL.dfX X G cd a_law_x 72 rfl fun _ _ _ _ _ _ us hl => match us, hl with | [], _ => rfl
  _law_y := GL.dfX X G cd a_law_y 73 rfl fun _ _ _ _ _ _ us hl => match us, hl with | [], _ => rfl
  _law_some_field := GL.dfX X G cd a_law_some_field 74 rfl fun _ _ _ _ _ _ us hl => match us, hl with | [_, _, _], _ => rfl
  _law_easy_field := GL.dfX X G cd a_law_easy_field 75 rfl fun _ _ _ _ _ _ us hl => match us, hl with | [_], _ => rfl
  _law_easy_flow := GL.dfX X G cd a_law_easy_flow 76 rfl fun _ _ _ _ _ _ us hl => match us, hl with | [_, _, _], _ => rfl
  _law_row_times := GL.dfX X G cd a_law_row_times 77 rfl fun _ _ _ _ _ _ us hl => match us, hl with | [_, _, _], _ => rfl
  _law_row_of := GL.dfX X G cd a_law_row_of 78 rfl fun _ _ _ _ _ _ us hl => match us, hl with | [_, _, _], _ => rfl
  _law_solves := GL.dfX X G cd a_law_solves 79 rfl fun _ _ _ _ _ _ us hl => match us, hl with | [_, _], _ => rfl
  law := GL.dfX X G cd a_law 80 rfl fun _ _ _ _ _ _ us hl => match us, hl with | [_], _ => rfl
  BadNumber := ClI.ofX X G cd a_BadNumber ⟨ga_BadNumber, gg_BadNumber, sb_BadNumber, hd_BadNumber, ca_BadNumber, hn_, ht_, mo_BadNumber⟩ ⟨⟨_, _, _, _, _, _, _, _, _, _, _, _, _, _, _, xL_BadNumber, rb_BadNumber⟩, sa_BadNumber, sb_BadNumber, ty_BadNumber, kp_BadNumber⟩ i_BadNumber t_BadNumber 81 rfl (fun _ _ _ _ _ _ us hl => match us, hl with | [_, _, _], _ => rfl) (List.forall_mem_cons.mpr ⟨n_BadNumber_what, List.forall_mem_cons.mpr ⟨n_BadNumber_number, List.forall_mem_nil _⟩⟩)
  BadRow := ClI.ofX X G cd a_BadRow ⟨ga_BadRow, gg_BadRow, sb_BadRow, hd_BadRow, ca_BadRow, hn_, ht_, mo_BadRow⟩ ⟨⟨_, _, _, _, _, _, _, _, _, _, _, _, _, _, _, xL_BadRow, rb_BadRow⟩, sa_BadRow, sb_BadRow, ty_BadRow, kp_BadRow⟩ i_BadRow t_BadRow 82 rfl (fun _ _ _ _ _ _ us hl => match us, hl with | [_, _], _ => rfl) (List.forall_mem_cons.mpr ⟨n_BadRow_row, List.forall_mem_nil _⟩)
  xBadNumberBadNumber := by rw [fA_of (PySem.W.mg_of X G a_BadNumber)]; exact e_xBadNumberBadNumber
  xBadRowBadNumber := by rw [fA_of (PySem.W.mg_of X G a_BadRow), fA_of (PySem.W.mg_of X G a_BadNumber)]; exact e_xBadRowBadNumber
  xBadRowBadRow := by rw [fA_of (PySem.W.mg_of X G a_BadRow)]; exact e_xBadRowBadRow
  lb := GL.lbX X G cd a_law 80 rfl fun _ _ _ _ _ _ _ => rfl } (planeT_of (PySem.W.mg_of X G a_Plane) ⟨p_pg, p_hd, p_po, p_sa⟩ ⟨p_mk, ip_init, np_init, p_kp⟩ p_norows (Me.ofX cd ip_init np_init 83 rfl (fun _ _ _ _ _ _ us hl => match us, hl with | [_, _], _ => rfl)) (Me.ofX cd ip_eq np_eq 84 rfl (fun _ _ _ _ _ _ us hl => match us, hl with | [_, _], _ => rfl)) (Me.ofX cd ip_add np_add 85 rfl (fun _ _ _ _ _ _ us hl => match us, hl with | [_, _], _ => rfl)) (Me.ofX cd ip_radd np_radd 86 rfl (fun _ _ _ _ _ _ us hl => match us, hl with | [_, _], _ => rfl)) (Me.ofX cd ip_sub np_sub 87 rfl (fun _ _ _ _ _ _ us hl => match us, hl with | [_, _], _ => rfl)) (Me.ofX cd ip_rsub np_rsub 88 rfl (fun _ _ _ _ _ _ us hl => match us, hl with | [_, _], _ => rfl)) (Me.ofX cd ip_mul np_mul 89 rfl (fun _ _ _ _ _ _ us hl => match us, hl with | [_, _], _ => rfl)) (Me.ofX cd ip_rmul np_rmul 90 rfl (fun _ _ _ _ _ _ us hl => match us, hl with | [_, _], _ => rfl)) (Me.ofX cd ip_neg np_neg 91 rfl (fun _ _ _ _ _ _ us hl => match us, hl with | [_], _ => rfl)) (Me.ofX cd ip_degree np_degree 92 rfl (fun _ _ _ _ _ _ us hl => match us, hl with | [_], _ => rfl)) (Me.ofX cd ip_at np_at 93 rfl (fun _ _ _ _ _ _ us hl => match us, hl with | [_, _], _ => rfl)) (Me.ofX cd ip_slope_x np_slope_x 94 rfl (fun _ _ _ _ _ _ us hl => match us, hl with | [_], _ => rfl)) (Me.ofX cd ip_slope_y np_slope_y 95 rfl (fun _ _ _ _ _ _ us hl => match us, hl with | [_], _ => rfl)) p_me p_hc hn_ ht_ p_hm (fun T h => by (rcases h with rfl | rfl; exact p_kfint; exact p_kftuple)) (fun T h => by (rcases h with rfl | rfl; exact p_stint; exact p_sttuple)) p_kl (fun T h => by (rcases h with rfl | rfl; exact p_scint; exact p_sctuple)) (fun op ho => by (rcases ho with rfl | rfl | rfl; (rw [dn_add, dr_add]; exact ⟨⟨_, _, q_fointAdd, q_rointAdd, q_xintAdd⟩, _, _, q_fotupleAdd, q_rotupleAdd, q_xtupleAdd⟩); (rw [dn_sub, dr_sub]; exact ⟨⟨_, _, q_fointSub, q_rointSub, q_xintSub⟩, _, _, q_fotupleSub, q_rotupleSub, q_xtupleSub⟩); (rw [dn_mul, dr_mul]; exact ⟨⟨_, _, q_fointMult, q_rointMult, q_xintMult⟩, _, _, q_fotupleMult, q_rotupleMult, q_xtupleMult⟩)))) (fieldT_of (PySem.W.mg_of X G a_Field) ⟨f_pg, f_hd, f_po, f_sa⟩ ⟨f_mk, if_init, nf_init, f_kp⟩ f_nop f_noq (Me.ofX cd if_init nf_init 96 rfl (fun _ _ _ _ _ _ us hl => match us, hl with | [_, _, _], _ => rfl)) (Me.ofX cd if_eq nf_eq 97 rfl (fun _ _ _ _ _ _ us hl => match us, hl with | [_, _], _ => rfl)) f_hc hn_ ht_ f_hm f_ks (fun T h => by (rcases h with rfl | rfl; exact f_kfint; exact f_kftuple)) (fun T h => by (rcases h with rfl | rfl; exact f_stint; exact f_sttuple))) cC ecC hcC
end LW

namespace LW
open PySem PySem.Spec PyProof.Rows L2 GL
end LW
open PySem PySem.W PyProof.Rows
set_option maxRecDepth 100000 in
set_option maxHeartbeats 0 in
theorem PySem.Challenge.cw_flowpapers_k16_whole_series_holds : PySem.Challenge.rw_flowpapers_k16_whole_series.Holds := by
  w_on; o_law
  refine HandSHeadRun.head_imp (r := OpenLaw.row PySem.Challenge.rw_flowpapers_k16_whole_series) (q := view (OpenLaw.row PySem.Challenge.rw_flowpapers_k16_whole_series).prog [0, 95]) (H := LW.hk) (ob := LW.ob) (M := 20000) (loose := LW.names) (d := HandSHeadRun.topDef (OpenLaw.row PySem.Challenge.rw_flowpapers_k16_whole_series).prog 95) (kwd := []) LW.ob_eq
    LW.run (by kernel_rfl) (by kernel_rfl) (by kernel_rfl) (by rfl) (by first | assumption | decide +kernel) (by decide +kernel) ⟨rfl, rfl, rfl, rfl, rfl, by decide +kernel⟩ ?hw ?hc
  case hw => w_witness2
  case hc =>
    refine GL.walk_GTE (l := PySem.Challenge.rw_flowpapers_k16_whole_series) (n := 63) (k := 20) (x := "_law_script") rfl (by decide) (by kernel_rfl) ⟨rfl, by decide, by decide⟩ ?F
    intro w mg fa h Y G hmg0
    obtain ⟨K, KX, c⟩ := Y
    have hmg : mg ("law" : PySem.Str) = some (.ref fa) := by
      have e : (HandSHeadRun.topDef (OpenLaw.row PySem.Challenge.rw_flowpapers_k16_whole_series).prog 95).name = ("law" : PySem.Str) := by kernel_rfl
      rw [← e]
      exact hmg0
    refine ⟨K, KX, LW.factsX KX G c ?_⟩
    intro T0 T1 T2 cC ec h1
    have e : fa = GL.fA mg "law" := by
      have q := hmg.symm.trans T0.law.g
      exact Value.ref.inj (Option.some.inj q)
    subst e
    have hp : (("law", none) : He.Defn) ∈ LW.tf := List.mem_cons_self ..
    have hd : PySem.W.codeHdIn K cC (He.tabOf K cC) = true := by
      rw [ec]
      exact c.hd _ hp
    exact LW.fin_law T0 T1 T2 h1 (by rw [ec]; exact c.empty _ hp) (by rw [ec]; exact c.out _ hp) hd
