import PyProof.Rows.All
import Wide.All
import OpenK.AllK
import Wide.FinOn
import HandS.ForMost
import HandS.IsInst
import HandS.Style
import HandS.Wide
import PySem.Challenge.RW_namedabove_k01_names_and_marks
set_option Elab.async false
set_option linter.all false
set_option maxRecDepth 100000
set_option maxHeartbeats 4000000
/-! own layer: flat rules, what a list of three numbers keeps -/
namespace Ly
open PySem PySem.Spec PyProof.Rows L2

/-- all but d stands -/
def Chg (d : Addr) (H H' : Hp) : Prop := ∀ x o, x ≠ d → H x = some o → H' x = some o
theorem Chg.refl (d : Addr) (H : Hp) : Chg d H H := fun _ _ _ h => h
theorem Chg.trans {d : Addr} {H H1 H2 : Hp} (a : Chg d H H1) (b : Chg d H1 H2) : Chg d H H2 := fun x o n h => b x o n (a x o n h)
theorem Chg.of {d : Addr} {H H' : Hp} (s : Same H H') : Chg d H H' := fun x o _ h => s x o h
theorem Chg.upd {d : Addr} {H H' : Hp} {o : HO} (c : Chg d H H') : Chg d H (upd H' d o) := fun x u n h => by
  rw [upd_ne n]
  exact c x u n h
theorem same_new {H : Hp} {p : Addr} {o : HO} (h : H p = none) : Same H (upd H p o) := fun b x e => by
  rw [upd_ne (ne_of_none e h)]
  exact e
theorem Chg.new {d p : Addr} {H H' : Hp} {o : HO} (c : Chg d H H') (h : H' p = none) : Chg d H (L2.upd H' p o) := c.trans (.of (same_new h))

/-! ### rules with flat readings -/
section
variable {X : Cx}
theorem call_intI : CallR X (.type "int") (fun xs H Q => ∃ i, xs = [.int i] ∧ Q (.int i) H) := fun pins s σ H xs us Q I r ⟨i, e, q⟩ => call_int1 pins s σ H xs us Q I r (.inl ⟨i, e, q⟩)
theorem call_intB : CallR X (.type "int") (fun xs H Q => ∃ b : Bool, xs = [.bl b] ∧ Q (.int (if b then 1 else 0)) H) := fun pins s σ H xs us Q I r ⟨i, e, q⟩ => call_int1 pins s σ H xs us Q I r (.inr ⟨i, e, q⟩)
theorem call_lenL : CallR X (.builtin "len") (fun xs H Q => ∃ p ys, xs = [.ref p] ∧ SqL X.K H p ys ∧ Q (.int ys.length) H) := fun pins s σ H xs us Q I r ⟨p, ys, e, h, q⟩ => call_len_seq pins s σ H xs us Q I r ⟨p, ys, e, .inl h, q⟩
theorem call_lenT : CallR X (.builtin "len") (fun xs H Q => ∃ p ys, xs = [.ref p] ∧ SqT X.K H p ys ∧ Q (.int ys.length) H) := fun pins s σ H xs us Q I r ⟨p, ys, e, h, q⟩ => call_len_seq pins s σ H xs us Q I r ⟨p, ys, e, .inr h, q⟩
/-- powers of great numbers -/
def CPw (i j : Int) : Prop := 0 ≤ j ∧ (Builtin.Int.intBits i : Int) * j ≤ 2 ^ 27
theorem op_powW : OpR X (binaryOp .Pow) (rI CPw fun i j => .int (i ^ j.toNat)) := opI fun _ _ _ _ _ _ _ hc q => pow_int hc.1 hc.2 q
theorem call_reprB : CallR X (.builtin "repr") (fun xs H Q => ∃ b : Bool, xs = [.bl b] ∧ Q (.str (if b then "True" else "False")) H) := by
  intro pins s σ H xs us Q I r h
  obtain ⟨b, rfl, q⟩ := h
  obtain ⟨u, rfl, r1⟩ := vals1 r
  cases r1
  exact PySem.P.repr_of_bool ⟨.str (if b then "True" else "False"), H, I.tok _, ⟨_, rfl⟩, q⟩
end

/-! ### the three numbers of the dice -/
structure DB (a b c : Int) : Prop where
  a0 : 0 ≤ a
  aB : a.natAbs < 2 ^ 2000
  b0 : 0 ≤ b
  b1 : b < 2305843009213693951
  c0 : 0 ≤ c
def Dice (H : Hp) (d : Addr) : Prop := ∃ a b c : Int, H d = some (.lst [.int a, .int b, .int c]) ∧ DB a b c
theorem Dice.keep {H H' : Hp} {d : Addr} (s : Same H H') (h : Dice H d) : Dice H' d := by
  obtain ⟨a, b, c, e, D⟩ := h
  exact ⟨a, b, c, s _ _ e, D⟩
theorem Dice.chg {H H' : Hp} {d p : Addr} (s : Chg p H H') (n : d ≠ p) (h : Dice H d) : Dice H' d := by
  obtain ⟨a, b, c, e, D⟩ := h
  exact ⟨a, b, c, s _ _ n e, D⟩
theorem great_ok (x : Int) : 0 ≤ x % ((10 : Int) ^ (60 : Int).toNat) ^ (10 : Int).toNat ∧ (x % ((10 : Int) ^ (60 : Int).toNat) ^ (10 : Int).toNat).natAbs < 2 ^ 2000 := by
  have p : (0 : Int) < ((10 : Int) ^ (60 : Int).toNat) ^ (10 : Int).toNat := by decide +kernel
  have h0 := Int.emod_nonneg x (Int.ne_of_gt p)
  have h1 := Int.emod_lt_of_pos x p
  refine ⟨h0, ?_⟩
  have q : ((10 : Int) ^ (60 : Int).toNat) ^ (10 : Int).toNat < ((2 ^ 2000 : Nat) : Int) := by decide +kernel
  generalize ((10 : Int) ^ (60 : Int).toNat) ^ (10 : Int).toNat = m at *
  generalize (2 ^ 2000 : Nat) = n at *
  omega
theorem less_ok {x y : Int} (hx : 0 ≤ x) (hb : x.natAbs < 2 ^ 2000) (hy : 0 ≤ y) (h : y ≤ x) : y.natAbs < 2 ^ 2000 := by
  generalize (2 ^ 2000 : Nat) = n at *
  omega

/-! ### promises -/
def spDice (K : PySem.W.Frag) : Sp := fun vs H Q _ => ∃ (a : Addr) (ns : List Int) (k : Nat), vs = [.ref a, .int k] ∧ SqL K H a (ns.map V.int) ∧ ns.length ≤ 63 ∧ k < 64 ∧
  ∀ H' p, Same H H' → H p = none → Dice H' p → Q (.ref p) H'
def spRoll : Sp := fun vs H Q _ => ∃ (d : Addr) (n : Int), vs = [.ref d, .int n] ∧ Dice H d ∧ 0 < n ∧ n < 2 ^ 200 ∧ ∀ H' r, Chg d H H' → Dice H' d → 0 ≤ r → r < n → Q (.int r) H'
/-- an item of a list, or a sign of a text -/
def spOneL (K : PySem.W.Frag) : Sp := fun vs H Q _ => ∃ (d a : Addr) (xs : List V), vs = [.ref d, .ref a] ∧ Dice H d ∧ a ≠ d ∧ SqL K H a xs ∧ 0 < xs.length ∧ xs.length < 1000 ∧
  ∀ H' x, Chg d H H' → Dice H' d → x ∈ xs → Q x H'
def spOneS : Sp := fun vs H Q _ => ∃ (d : Addr) (z : Str), vs = [.ref d, .str z] ∧ Dice H d ∧ 0 < z.length ∧ z.length < 1000 ∧
  ∀ H' c, Chg d H H' → Dice H' d → c ∈ z.cps.toList → Q (.str ⟨#[c]⟩) H'
theorem Chg.seq {K : PySem.W.Frag} {H H' : Hp} {d a : Addr} {xs : List V} (e : Chg d H H') (n : a ≠ d) (h : SqL K H a xs) : SqL K H' a xs := by
  rcases h with (h | ⟨o, h⟩) | h
  · exact .inl (.inl (e _ _ n h))
  · exact .inl (.inr ⟨o, e _ _ n h⟩)
  · exact .inr h
end Ly
namespace Ly
open PySem PySem.Spec PyProof.Rows L2
/-- a value with its heap, told by P alone -/
theorem cutE {te : TE} {σ : L2.St} {H : Hp} {Q : VK} (P : V → Hp → Prop) (h : ∀ Q' : VK, (∀ v H', P v H' → Q' v H') → te σ H Q') (k : ∀ v H', P v H' → Q v H') : te σ H Q := h Q k
theorem cutT {te : TT} {σ : L2.St} {H : Hp} {Q : Bool → Hp → Prop} (P : Bool → Hp → Prop) (h : ∀ Q' : Bool → Hp → Prop, (∀ v H', P v H' → Q' v H') → te σ H Q') (k : ∀ v H', P v H' → Q v H') : te σ H Q := h Q k
/-- a def of the top: where it stands, how it is called -/
structure Df (K : PySem.W.Frag) (mg : Str → Option Value) (x : Str) (st : Stmt) (ps : List Str) (f : Addr) (fd : FuncData) : Prop where
  F : Fun K x x st f fd
  b : Binds K fd ps []
  g : mg x = some (.ref f)
theorem Df.kp {K : PySem.W.Frag} {mg : Str → Option Value} {x : Str} {st : Stmt} {ps : List Str} {f : Addr} {fd : FuncData} (D : Df K mg x st ps f fd) : PySem.W.keepIn K (.ref f) = true := D.F.kp
end Ly
namespace Ly
open PySem PySem.Spec PyProof.Rows L2
/-- x = e, its value told by P alone -/
theorem asgS {te : TE} {i : Nat} {t : TS} {D : Ends} {σ : L2.St} {H : Hp} (P : V → Hp → Prop) (h : ∀ Q' : VK, (∀ v H', P v H' → Q' v H') → te σ H Q') (k : ∀ v H', P v H' → t D (σ.set i (some v)) H') : tSeq (tAsg te (gName i)) t D σ H := h _ k
/-- if c: .. told by what holds of the test -/
theorem cutR {te : TE} {D : Ends} {σ : L2.St} {H : Hp} (P : V → Hp → Prop) (h : ∀ Q' : VK, (∀ v H', P v H' → Q' v H') → te σ H Q') (k : ∀ v H', P v H' → D.rt v H') : tRet te D σ H := h _ k
end Ly
namespace Ly
open PySem PySem.Spec PyProof.Rows L2
structure Cl (P : Program) (w : World) (K : PySem.W.Frag) (mg : Str → Option Value) (base : Heap) (x : Str) (k : Nat) (f : Addr) (fd : FuncData) (ps : List Str) (sp : Sp) : Prop where
  ok : FnOk P w K mg base CX0 k f fd ps sp
  g : mg x = some (.ref f)
  kp : PySem.W.keepIn K (.ref f) = true
  b : Binds K fd ps []
theorem Df.cl {P : Program} {w : World} {K : PySem.W.Frag} {mg : Str → Option Value} {base : Heap} {x : Str} {k : Nat} {st : Stmt} {ps : List Str} {f : Addr} {fd : FuncData} {sp : Sp} (D : Df K mg x st ps f fd) (o : FnOk P w K mg base CX0 k f fd ps sp) : Cl P w K mg base x k f fd ps sp := ⟨o, D.g, D.kp, D.b⟩
/-! ### texts of signs -/
theorem str_len (z : Str) : z.cps.toList.length = z.length := by
  show z.cps.toList.length = z.cps.size
  simp
theorem sz1000 {n : Nat} (h : n < 1000) : n ≤ sizeLine := Nat.le_of_lt (small1000 (Nat.le_of_lt h))
/-- the built-in class of a value's type, asked -/
def TyB (K : PySem.W.Frag) (H : Hp) (x : V) (t : String) : Prop := TyX K H x (.type t)
end Ly
namespace Ly
open PySem PySem.Spec PyProof.Rows L2
theorem at_nat {α : Type} {xs : List α} {i : Int} {v : α} (h0 : 0 ≤ i) (h : xs[i.toNat]? = some v) : atI xs i = some v := by
  have e := atI_nat h
  rwa [Int.toNat_of_nonneg h0] at e
end Ly
namespace Ly
open PySem PySem.Spec PyProof.Rows L2
/-- what a comprehension's loop asks of its turns -/
abbrev LcW (J : It) (g : TG) (tt : TT) (te : TE) (vs : List Nat) (σ : L2.St) (H1 : Hp) (D : Addr) (Qd : Hp → Prop) : Prop :=
  ∃ W : Nat → Nat → Hp → Prop, (∃ m, W 0 m (upd H1 D (.lst []))) ∧ (∀ i m H, W i m H → (J.stop i H ∧ Qd H) ∨ (J.go i H ∧ ∃ Nx : Hp → Prop,
    (∀ H', Nx H' → ∃ m', m' < m ∧ W (i + 1) m' H') ∧ (∀ x H', J.yld i H x H' → g x (wipe σ vs) H' fun σ2 H2 => wipe σ2 vs = wipe σ vs ∧
      tt σ2 H2 fun b H3 => if b = true then te σ2 H3 fun y H4 => ∃ acc, H4 D = some (.lst acc) ∧ acc.length < sizeLine ∧ Nx (upd H4 D (.lst (acc ++ [y]))) else Nx H3)))
theorem lc_gen {J : It} {n : Nat} {g : TG} {tt : TT} {te : TE} {vs : List Nat} {σ : L2.St} {H1 : Hp} {D : Addr} {Qd : Hp → Prop} (Pv : Nat → Hp → Prop) (h0 : Pv 0 (upd H1 D (.lst [])))
    (hgo : ∀ i H, i < n → Pv i H → J.go i H) (hst : ∀ H, Pv n H → J.stop n H)
    (hs : ∀ i x H H', i < n → Pv i H → J.yld i H x H' → g x (wipe σ vs) H' fun σ2 H2 => wipe σ2 vs = wipe σ vs ∧ tt σ2 H2 fun b H3 => if b = true then
      te σ2 H3 fun y H4 => ∃ acc, H4 D = some (.lst acc) ∧ acc.length < sizeLine ∧ Pv (i + 1) (upd H4 D (.lst (acc ++ [y]))) else Pv (i + 1) H3)
    (hd : ∀ H, Pv n H → Qd H) : LcW J g tt te vs σ H1 D Qd := by
  refine ⟨fun j left H => left + j = n ∧ Pv j H, ⟨n, by omega, h0⟩, ?_⟩
  rintro i m H ⟨em, p⟩
  rcases Nat.lt_or_ge i n with hlt | hge
  · exact .inr ⟨hgo i H hlt p, Pv (i + 1), fun H' p' => ⟨m - 1, by omega, by omega, p'⟩, fun x H' y => hs i x H H' hlt p y⟩
  · have e : i = n := by omega
    subst e
    exact .inl ⟨hst H p, hd H p⟩
/-- one sign against one sign -/
theorem sign_lt (a b : Nat) : decide ((⟨#[a]⟩ : Str).cps.toList < (⟨#[b]⟩ : Str).cps.toList) = decide (a < b) := by
  rw [decide_eq_decide]
  show ([a] : List Nat) < [b] ↔ a < b
  constructor
  · intro h
    rcases (List.cons_lt_cons_iff).mp h with h | ⟨_, h⟩
    · exact h
    · exact absurd h (List.not_lt_nil _)
  · exact fun h => List.cons_lt_cons_iff.mpr (.inl h)
end Ly
namespace Ly
open PySem PySem.Spec PyProof.Rows L2
theorem join_cps : ∀ ys : List Str, (Str.join Str.empty ys).cps.toList = ys.flatMap fun y => y.cps.toList
  | [] => rfl
  | [x] => by
    show x.cps.toList = _
    simp
  | x :: y :: r => by
    have h := join_cps (y :: r)
    show ((x ++ Str.empty ++ Str.join Str.empty (y :: r)) : Str).cps.toList = _
    rw [Str.cps_append, Str.append_empty, Array.toList_append, h]
    rfl
theorem txt_join (ys : List Str) : (Txt.join Str.empty ys).cps.toList = ys.flatMap fun y => y.cps.toList := by
  rw [show Txt.join Str.empty ys = Str.join Str.empty ys from StrLaws.glued_eq_join _ _, join_cps]
theorem app_cps (a b : Str) : (a ++ b).cps.toList = a.cps.toList ++ b.cps.toList := by
  rw [Str.cps_append, Array.toList_append]
theorem app_len (a b : Str) : (a ++ b).length = a.length + b.length := Str.length_append a b
theorem cut_to (z : Str) (k : Nat) (h : k ≤ z.length) : (cutS z none (some (k : Int))).cps.toList = z.cps.toList.take k := by
  unfold cutS
  rw [HT.sIx_none, HT.sIx_nat]
  show (List.take (min k z.length - 0) (z.cps.toList.drop 0)) = _
  rw [Nat.min_eq_left h]
  rfl
theorem cut_from (z : Str) (k : Nat) (h : k ≤ z.length) : (cutS z (some (k : Int)) none).cps.toList = z.cps.toList.drop k := by
  unfold cutS
  rw [HT.sIx_none, HT.sIx_nat, Nat.min_eq_left h]
  show (List.take (z.length - k) (z.cps.toList.drop k)) = _
  refine List.take_of_length_le ?_
  rw [List.length_drop, str_len]
  omega
theorem len_of_cps {z : Str} {l : List Nat} (h : z.cps.toList = l) : z.length = l.length := by
  rw [← h, str_len]
theorem Chg.dice {H H' : Hp} {d : Addr} (c : Chg d H H') {p : Addr} {o : HO} (n : p ≠ d) (h : H p = some o) : H' p = some o := c p o n h
theorem dice_ne {H : Hp} {d p : Addr} (h : Dice H d) (n : H p = none) : d ≠ p := by
  obtain ⟨a, b, c, e, _⟩ := h
  exact ne_of_none e n
theorem Dice.new {H : Hp} {d p : Addr} {o : HO} (h : Dice H d) (n : H p = none) : Dice (L2.upd H p o) d := h.keep (same_new n)
end Ly
namespace Ly
open PySem PySem.Spec PyProof.Rows L2
theorem ifF {c : Bool} {A B : Prop} (h : c = false) (b : B) : if c = true then A else B := by
  subst h
  exact iteF b
theorem ifT {c : Bool} {A B : Prop} (h : c = true) (b : A) : if c = true then A else B := by
  subst h
  exact iteT b
/-- if c: .., not taken -/
theorem ifNo {c : TT} {t r : TS} {D : Ends} {σ : L2.St} {H : Hp} (P : Hp → Prop) (h : ∀ Q' : Bool → Hp → Prop, (∀ H', P H' → Q' false H') → c σ H Q') (k : ∀ H', P H' → r D σ H') : tSeq (tIfS c t tNext) r D σ H :=
  h _ fun H' p => iteF (k H' p)
/-- things that are no text -/
def Odd (H : Hp) (x : V) : Prop := x = .non ∨ (∃ b, x = .bl b) ∨ (∃ i, x = .int i) ∨ ∃ p, x = .ref p ∧ ((∃ xs, H p = some (.lst xs)) ∨ (∃ xs, H p = some (.tup xs)) ∨ ∃ kvs, H p = some (.dK kvs))
theorem Odd.keep {H H' : Hp} {x : V} (s : Same H H') (h : Odd H x) : Odd H' x := by
  rcases h with h | h | h | ⟨p, e, h⟩
  · exact .inl h
  · exact .inr (.inl h)
  · exact .inr (.inr (.inl h))
  · refine .inr (.inr (.inr ⟨p, e, ?_⟩))
    rcases h with ⟨_, h⟩ | ⟨_, h⟩ | ⟨_, h⟩
    · exact .inl ⟨_, s _ _ h⟩
    · exact .inr (.inl ⟨_, s _ _ h⟩)
    · exact .inr (.inr ⟨_, s _ _ h⟩)
theorem Odd.ty {K : PySem.W.Frag} {H : Hp} {x : V} (h : Odd H x) : ∃ t, TyB K H x t ∧ kitB t "str" = some false := by
  rcases h with rfl | ⟨b, rfl⟩ | ⟨i, rfl⟩ | ⟨p, rfl, ⟨_, h⟩ | ⟨_, h⟩ | ⟨_, h⟩⟩
  · exact ⟨"NoneType", .base .non, by decide +kernel⟩
  · exact ⟨"bool", .base (.bl b), by decide +kernel⟩
  · exact ⟨"int", .base (.int i), by decide +kernel⟩
  · exact ⟨"list", .base (.lst h), by decide +kernel⟩
  · exact ⟨"tuple", .base (.tup h), by decide +kernel⟩
  · exact ⟨"dict", .base (.dK h), by decide +kernel⟩
theorem same_new2 {H : Hp} {p : Addr} {o u : HO} (h : H p = none) : Same H (upd (upd H p o) p u) := by
  rw [upd_upd]
  exact same_new h
theorem log_ok {n : Int} (h0 : 0 ≤ n) (h : n < 2 ^ 200) : n.natAbs.log2 < 1920 := by
  have e : (2 : Int) ^ 200 = ((2 ^ 200 : Nat) : Int) := by decide +kernel
  rw [e] at h
  have h2 : n.natAbs < 2 ^ 200 := by
    generalize (2 ^ 200 : Nat) = m at *
    omega
  exact Nat.lt_trans (PySem.Flt.log2_lt_of (by decide) h2) (by decide)
end Ly
namespace Ly
open PySem PySem.Spec PyProof.Rows L2
theorem or_ok {P : Program} {w : World} {K : PySem.W.Frag} {mg : Str → Option Value} {base : Heap} {CX : CXT} {k : Nat} {f : Addr} {fd : FuncData} {ps : List Str} {sp1 sp2 : Sp} (h1 : FnOk P w K mg base CX k f fd ps sp1) (h2 : FnOk P w K mg base CX k f fd ps sp2) :
    FnOk P w K mg base CX k f fd ps (fun vs H Q E => sp1 vs H Q E ∨ sp2 vs H Q E) :=
  ⟨fun vs H Q E h => h.elim (h1.len vs H Q E) (h2.len vs H Q E), fun A outer s H args us vs Q E hr e0 hb hv hs => hs.elim (h1.run A outer s H args us vs Q E hr e0 hb hv) (h2.run A outer s H args us vs Q E hr e0 hb hv)⟩
def timesS (z : Str) (k : Int) : Str := ⟨(List.replicate k.toNat z.cps).foldl (· ++ ·) #[]⟩
def MulS (z : Str) (k : Int) : Bool := decide (1 < k) && decide (k ≤ 1000) && decide (0 < z.length) && !decide ((z.length : Int) > (2 ^ 63 - 1) / k) && !Builtin.Str.tooLong (z.length * k.toNat) && decide ((timesS z k).length ≤ sizeLine)
theorem op_mul_str {X : Cx} : OpR X (binaryOp .Mult) (fun x y H Q => ∃ z k, x = .str z ∧ y = .int k ∧ MulS z k = true ∧ Q (.str (timesS z k)) H) := by
  intro pins s σ H x y v u Q I rx ry h
  obtain ⟨z, k, rfl, rfl, hm, q⟩ := h
  obtain ⟨t, rfl⟩ := rx
  obtain ⟨t', rfl⟩ := ry
  unfold MulS at hm
  simp only [Bool.and_eq_true, Bool.not_eq_true', decide_eq_true_eq, decide_eq_false_iff_not] at hm
  obtain ⟨⟨⟨⟨⟨h1, h2⟩, h3⟩, h4⟩, h5⟩, h6⟩ := hm
  refine PySem.P.mul_str ?_ (fun _ _ => h4) (fun _ _ => h5) ?_
  · rw [decide_eq_false (by omega), decide_eq_false (by omega)]
    rfl
  · rw [if_neg (by omega)]
    have e1 : (k == 1) = false := beq_eq_false_iff_ne.mpr (by omega)
    have e2 : (z.length == 0) = false := beq_eq_false_iff_ne.mpr (by omega)
    rw [e1, e2, if_neg (by decide)]
    exact ⟨h6, ⟨.str (timesS z k), H, I.tok _, ⟨_, rfl⟩, q⟩⟩
end Ly

set_option Elab.async false
set_option linter.all false
set_option maxRecDepth 100000
set_option maxHeartbeats 4000000
namespace K01
open PySem PySem.Spec PyProof.Rows L2 Ly
def topS (i : Nat) : Stmt := PySem.Challenge.pw_namedabove_k01_names_and_marks.main.body.getD i (.Pass ⟨0, 0, 0, 0⟩)
structure Zs (mg : Str → Option Value) : Prop where
  z_len : mg "len" = none
  z_int : mg "int" = none
  z_abs : mg "abs" = none
  z_max : mg "max" = none
  z_min : mg "min" = none
  z_range : mg "range" = none
  z_all : mg "all" = none
  z_isinstance : mg "isinstance" = none
  z_str : mg "str" = none
  z_repr : mg "repr" = none
  z_bool : mg "bool" = none
  g_MAX_NAME : ∃ t, mg "MAX_NAME" = some (.int 8 t)
abbrev s_dice : Stmt := topS 6
abbrev N_dice : List Str := ["_law_script", "_law_at", "_law_cell", "_law_great", "_law_mixed"]
abbrev P_dice : List Str := ["_law_script", "_law_at"]
theorem sc_dice : FnScope N_dice P_dice (defScope s_dice) := ⟨rfl, rfl, rfl, by decide +kernel, rfl, by decide +kernel, by decide +kernel⟩
abbrev s_roll : Stmt := topS 7
abbrev N_roll : List Str := ["_law_dice_here", "_law_total", "_law_found", "_law_one", "_law_two"]
abbrev P_roll : List Str := ["_law_dice_here", "_law_total"]
theorem sc_roll : FnScope N_roll P_roll (defScope s_roll) := ⟨rfl, rfl, rfl, by decide +kernel, rfl, by decide +kernel, by decide +kernel⟩
section
variable {P : Program} {w : World} {K : PySem.W.Frag} {mg : Str → Option Value} {base : Heap} {f : Addr} {fd : FuncData}
theorem ok_dice (Z : Zs mg) (D : Df K mg "_law_dice" s_dice P_dice f fd) : FnOk P w K mg base CX0 1 f fd P_dice (spDice K) := by
  refine D.F.ok sc_dice (fun vs H Q E h => ?_) (fun cdv A outer s H vs Q E hr h => ?_)
  · obtain ⟨a, ns, k, rfl, _⟩ := h
    rfl
  · obtain ⟨a, ns, k, rfl, hS, h63, hk, q⟩ := h
    have nd := sc_dice.nd
    refine ⟨_,
    (pss_cons
    (ps_set (i := 2) nd rfl (Or.inl rfl) (pe_ifExp (pt_cmpR op_lt (pv 1) (pe_callB call_lenL (by rfl) Z.z_len (by decide +kernel) (pa_cons (pv 0) pa_nil)) (nomark _)) (pe_ix ix_list (pv 0) (pv 1) (fun _ _ => rfl)) (pe_op op_add (pe_op op_mul pe_int (pv 1)) pe_int)))
    (pss_cons
    (ps_set (i := 3) nd rfl (Or.inl rfl) (pe_op op_mod (pe_callTy call_intI (by rfl) Z.z_int (by decide +kernel) (pa_cons (pe_callB call_abs (by rfl) Z.z_abs (by decide +kernel) (pa_cons (pv 2) pa_nil)) pa_nil)) (pe_op op_powW (pe_op op_powW pe_int pe_int) pe_int)))
    (pss_cons
    (ps_set (i := 4) nd rfl (Or.inl rfl) (pe_op op_add (pe_op op_add (pe_op op_add (pe_op op_mul (pe_op op_mod (pe_callTy call_intI (by rfl) Z.z_int (by decide +kernel) (pa_cons (pv 3) pa_nil)) pe_int) pe_int) (pe_op op_mul pe_int (pv 1))) (pe_op op_mul pe_int (pe_callTy call_intB (by rfl) Z.z_int (by decide +kernel) (pa_cons (pe_cmpR op_lt (pv 2) pe_int (nomark _)) pa_nil)))) pe_int))
    (pss_one
    (ps_ret (pe_lst (pa_cons (pe_callB (call_max2 rfl) (by rfl) Z.z_max (by decide +kernel) (pa_cons pe_int (pa_cons (pe_op op_sub (pv 3) (pe_op op_powW pe_int pe_int)) pa_nil))) (pa_cons (pe_op op_mod (pe_callTy call_intI (by rfl) Z.z_int (by decide +kernel) (pa_cons (pv 4) pa_nil)) pe_int) (pa_cons pe_int pa_nil))))))))), ?_⟩
    refine asgS (fun v H1 => H1 = H ∧ ∃ x : Int, v = .int x) (fun Q' q' => ?_) (fun v H' hv => ?_)
    · refine ⟨.int k, rfl, .ref a, rfl, a, _, rfl, hS, _, _, rfl, rfl, _, rfl, ite2 (fun e => ?_) (fun e => ?_)⟩
      · have e1 := of_decide_eq_true e
        rw [List.length_map] at e1
        have e2 : k < ns.length := by omega
        refine ⟨_, rfl, _, rfl, a, _, _, .int ns[k], rfl, rfl, hS, atI_nat ?_, q' _ _ ⟨rfl, _, rfl⟩⟩
        rw [List.getElem?_map, List.getElem?_eq_getElem e2]
        rfl
      · exact ⟨_, rfl, _, _, rfl, rfl, .inl ⟨by decide, by decide⟩, _, _, rfl, rfl, q' _ _ ⟨rfl, _, rfl⟩⟩
    · obtain ⟨rfl, x, rfl⟩ := hv
      have p60 : CPw 10 60 := ⟨by decide, by decide +kernel⟩
      have p600 : CPw ((10 : Int) ^ (60 : Int).toNat) 10 := ⟨by decide, by decide +kernel⟩
      have pos : (0 : Int) < ((10 : Int) ^ (60 : Int).toNat) ^ (10 : Int).toNat := by decide +kernel
      refine asgS (fun v H1 => H1 = H' ∧ ∃ gr : Int, v = .int gr ∧ 0 ≤ gr ∧ gr.natAbs < 2 ^ 2000) (fun Q' q' => ?_) (fun v H1 hv => ?_)
      · refine ⟨_, rfl, _, rfl, _, rfl, _, _, rfl, rfl, p60, _, _, rfl, rfl, p600, _, _, rfl, rfl, pos, q' _ _ ⟨rfl, _, rfl, great_ok _⟩⟩
      obtain ⟨rfl, gr, rfl, g0, gB⟩ := hv
      have cm : ∀ y : Int, CMul (y % 2147483399) 60017 := fun y => .inr ⟨by decide, by decide⟩
      refine ⟨_, rfl, _, rfl, _, _, rfl, rfl, by change (0 : Int) < _; decide, _, _, rfl, rfl, cm _, _, rfl, _, _, rfl, rfl, .inl ⟨by decide, by decide⟩, _, _, rfl, rfl, _, rfl, _, _, rfl, rfl, _, rfl, _, _, rfl, rfl, .inl ⟨by decide, by decide⟩, _, _, rfl, rfl, _, _, rfl, rfl, ?_⟩
      refine ⟨_, rfl, _, _, rfl, rfl, ⟨by decide, by decide +kernel⟩, _, _, rfl, rfl, _, _, rfl, _, rfl, _, rfl, _, _, rfl, rfl, by change (0 : Int) < _; decide, ?_⟩
      refine ⟨by show 3 ≤ sizeLine; decide, fun p hp => q _ p (same_new hp) hp ⟨_, _, _, upd_same, ?_⟩⟩
      refine ⟨?_, ?_, Int.emod_nonneg _ (by decide), Int.lt_trans (Int.emod_lt_of_pos _ (by decide)) (by decide), Int.le_refl _⟩
      · split <;> omega
      · refine less_ok g0 gB (by split <;> omega) ?_
        have t : (0 : Int) ≤ 10 ^ (18 : Int).toNat := by decide +kernel
        split <;> omega

theorem ok_roll (Z : Zs mg) (D : Df K mg "_law_roll" s_roll P_roll f fd) : FnOk P w K mg base CX0 1 f fd P_roll spRoll := by
  refine D.F.ok sc_roll (fun vs H Q E h => ?_) (fun cdv A outer s H vs Q E hr h => ?_)
  · obtain ⟨d, n, rfl, _⟩ := h
    rfl
  · obtain ⟨d, n, rfl, ⟨a, b, c, hd, B⟩, n0, n1, q⟩ := h
    have nd := sc_roll.nd
    refine ⟨_,
    (pss_cons
    (ps_if (pt_cmpR op_gt (pe_ix ix_list (pv 0) pe_int (fun _ _ => rfl)) pe_int (nomark _))
      (pss_cons
      (ps_set (i := 2) nd rfl (Or.inl rfl) (pe_op op_mod (pe_callTy call_intI (by rfl) Z.z_int (by decide +kernel) (pa_cons (pe_ix ix_list (pv 0) pe_int (fun _ _ => rfl)) pa_nil)) (pv 1)))
      (pss_cons
      (ps_asg (pe_op op_fdivW (pe_ix ix_list (pv 0) pe_int (fun _ _ => rfl)) (pv 1)) (pg_sub (pv 0) pe_int set_list))
      (pss_one
      (ps_ret (pv 2)))))
      pss_nil)
    (pss_cons
    (ps_asg (pe_op op_add (pe_ix ix_list (pv 0) pe_int (fun _ _ => rfl)) pe_int) (pg_sub (pv 0) pe_int set_list))
    (pss_cons
    (ps_set (i := 3) nd rfl (Or.inl rfl) (pe_op op_mod (pe_callTy call_intI (by rfl) Z.z_int (by decide +kernel) (pa_cons (pe_op op_add (pe_ix ix_list (pv 0) pe_int (fun _ _ => rfl)) (pe_op op_mul pe_int (pe_ix ix_list (pv 0) pe_int (fun _ _ => rfl)))) pa_nil)) pe_int))
    (pss_cons
    (ps_set (i := 4) nd rfl (Or.inl rfl) (pe_op op_add (pe_op op_mul (pe_op op_mod (pe_callTy call_intI (by rfl) Z.z_int (by decide +kernel) (pa_cons (pe_op op_mul (pv 3) (pv 3)) pa_nil)) pe_int) (pv 3)) (pe_op op_mul pe_int (pe_ix ix_list (pv 0) pe_int (fun _ _ => rfl)))))
    (pss_cons
    (ps_set (i := 4) nd rfl (Or.inl rfl) (pe_op op_mod (pe_callTy call_intI (by rfl) Z.z_int (by decide +kernel) (pa_cons (pv 4) pa_nil)) pe_int))
    (pss_one
    (ps_ret (pe_op op_mod (pe_callTy call_intI (by rfl) Z.z_int (by decide +kernel) (pa_cons (pe_op op_fdiv (pv 4) pe_int) pa_nil)) (pv 1))))))))), ?_⟩
    have nB : n.natAbs < 2 ^ 200 := by
      have e : (2 : Int) ^ 200 = ((2 ^ 200 : Nat) : Int) := by decide +kernel
      rw [e] at n1
      generalize (2 ^ 200 : Nat) = m at *
      omega
    refine ⟨_, rfl, d, _, 0, _, rfl, rfl, .of hd, rfl, a, 0, rfl, rfl, _, rfl, ite2 (fun e => ?_) (fun e => ?_)⟩
    · refine ⟨_, rfl, d, _, 0, _, rfl, rfl, .of hd, rfl, _, rfl, _, rfl, _, _, rfl, rfl, n0, ?_⟩
      refine ⟨_, rfl, d, _, 0, _, rfl, rfl, .of hd, rfl, _, rfl, _, _, rfl, rfl, wide_div n0 nB (by decide) (by decide), _, rfl, d, _, 0, 0, rfl, rfl, hd, rfl, ?_⟩
      refine ⟨_, rfl, q _ _ ((Chg.refl d H).upd) ⟨_, _, _, upd_same, ?_⟩ (Int.emod_nonneg _ (by omega)) (Int.emod_lt_of_pos _ n0)⟩
      have h1 : a / n ≤ a := Int.ediv_le_self _ B.a0
      have h2 : 0 ≤ a / n := Int.ediv_nonneg B.a0 (by omega)
      exact ⟨h2, less_ok B.a0 B.aB h2 h1, B.b0, B.b1, B.c0⟩
    · refine ⟨_, rfl, d, _, 2, _, rfl, rfl, .of hd, rfl, _, _, rfl, rfl, _, rfl, d, _, 2, 2, rfl, rfl, hd, rfl, ?_⟩
      have hd1 : (upd H d (.lst [.int a, .int b, .int (c + 1)])) d = some (.lst [.int a, .int b, .int (c + 1)]) := upd_same
      dsimp only
      refine asgS (fun v H' => H' = upd H d (.lst [.int a, .int b, .int (c + 1)]) ∧ ∃ x : Int, v = .int x ∧ 0 ≤ x ∧ x < 2305843009213693951) (fun Q' q' => ?_) (fun v H' hv => ?_)
      · refine ⟨_, rfl, d, _, 1, _, rfl, rfl, .of hd1, rfl, _, rfl, d, _, 2, _, rfl, rfl, .of hd1, rfl, _, _, rfl, rfl, .inl ⟨by decide, by decide⟩, _, _, rfl, rfl, _, rfl, _, _, rfl, rfl, by change (0 : Int) < _; decide, q' _ _ ⟨rfl, _, rfl, Int.emod_nonneg _ (by decide), Int.emod_lt_of_pos _ (by decide)⟩⟩
      obtain ⟨rfl, x, rfl, x0, x1⟩ := hv
      have y0 := Int.emod_nonneg (x * x) (show (2305843009213693921 : Int) ≠ 0 by decide)
      have y1 := Int.emod_lt_of_pos (x * x) (show (0 : Int) < 2305843009213693921 by decide)
      refine ⟨_, rfl, _, rfl, _, _, rfl, rfl, .inl ⟨by omega, by omega⟩, _, rfl, _, _, rfl, rfl, by change (0 : Int) < _; decide, _, rfl, _, _, rfl, rfl, .inl ⟨by omega, by omega⟩, _, rfl, d, _, 2, _, rfl, rfl, .of hd1, rfl, _, _, rfl, rfl, .inl ⟨by decide, by decide⟩, _, _, rfl, rfl, ?_⟩
      refine ⟨_, rfl, _, rfl, _, _, rfl, rfl, by change (0 : Int) < _; decide, ?_⟩
      refine ⟨_, rfl, _, _, rfl, rfl, ⟨by decide, by decide⟩, _, rfl, _, rfl, _, _, rfl, rfl, n0, ?_⟩
      refine q _ _ ((Chg.refl d H).upd) ⟨_, _, _, hd1, ?_⟩ (Int.emod_nonneg _ (by omega)) (Int.emod_lt_of_pos _ n0)
      have c1 := B.c0
      exact ⟨B.a0, B.aB, B.b0, B.b1, by omega⟩

end
end K01
set_option Elab.async false
set_option linter.all false
set_option maxRecDepth 100000
set_option maxHeartbeats 4000000
namespace K01
open PySem PySem.Spec PyProof.Rows L2 Ly
abbrev s_one_of : Stmt := topS 8
abbrev N_one_of : List Str := ["_law_dice_here", "_law_items"]
abbrev P_one_of : List Str := ["_law_dice_here", "_law_items"]
theorem sc_one_of : FnScope N_one_of P_one_of (defScope s_one_of) := ⟨rfl, rfl, rfl, by decide +kernel, rfl, by decide +kernel, by decide +kernel⟩
abbrev s_is_whole : Stmt := topS 2
abbrev N_is_whole : List Str := ["value"]
abbrev P_is_whole : List Str := ["value"]
theorem sc_is_whole : FnScope N_is_whole P_is_whole (defScope s_is_whole) := ⟨rfl, rfl, rfl, by decide +kernel, rfl, by decide +kernel, by decide +kernel⟩
abbrev s_is_name : Stmt := topS 3
abbrev N_is_name : List Str := ["value", "sign"]
abbrev P_is_name : List Str := ["value"]
theorem sc_is_name : FnScope N_is_name P_is_name (defScope s_is_name) := ⟨rfl, rfl, rfl, by decide +kernel, rfl, by decide +kernel, by decide +kernel⟩
abbrev s_is_mark : Stmt := topS 4
abbrev N_is_mark : List Str := ["value"]
abbrev P_is_mark : List Str := ["value"]
theorem sc_is_mark : FnScope N_is_mark P_is_mark (defScope s_is_mark) := ⟨rfl, rfl, rfl, by decide +kernel, rfl, by decide +kernel, by decide +kernel⟩
/-- the name's own test -/
def nameB (z : Str) : Bool := decide (1 ≤ z.length ∧ z.length ≤ 8) && z.cps.toList.all fun c => decide (97 ≤ c ∧ c ≤ 122)
def spWhole (K : PySem.W.Frag) : Sp := fun vs H Q _ => ∃ (x : V) (t : String) (b1 b2 : Bool), vs = [x] ∧ TyB K H x t ∧ kitB t "int" = some b1 ∧ (b1 = true → kitB t "bool" = some b2) ∧ Q (.bl (b1 && !b2)) H
def spNameS : Sp := fun vs H Q _ => ∃ z : Str, vs = [.str z] ∧ z.length < 1000 ∧ ∀ H', Same H H' → Q (.bl (nameB z)) H'
def spNameN (K : PySem.W.Frag) : Sp := fun vs H Q _ => ∃ (x : V) (t : String), vs = [x] ∧ TyB K H x t ∧ kitB t "str" = some false ∧ Q (.bl false) H
def spMarkI : Sp := fun vs H Q _ => ∃ i : Int, vs = [.int i] ∧ Q (.bl (decide (0 ≤ i))) H
def spMarkN (K : PySem.W.Frag) : Sp := fun vs H Q _ => ∃ (x : V) (t : String), vs = [x] ∧ TyB K H x t ∧ (kitB t "int" = some false ∨ kitB t "int" = some true ∧ kitB t "bool" = some true) ∧ Q (.bl false) H
section
variable {P : Program} {w : World} {K : PySem.W.Frag} {mg : Str → Option Value} {base : Heap} {f : Addr} {fd : FuncData}
theorem ok_oneS (Z : Zs mg) (D : Df K mg "_law_one_of" s_one_of P_one_of f fd) {fr : Addr} {fdr : FuncData} (D_roll : Cl P w K mg base "_law_roll" 1 fr fdr P_roll spRoll) : FnOk P w K mg base CX0 2 f fd P_one_of spOneS := by
  refine D.F.ok sc_one_of (fun vs H Q E h => ?_) (fun cdv A outer s H vs Q E hr h => ?_)
  · obtain ⟨d, z, rfl, _⟩ := h
    rfl
  · obtain ⟨d, z, rfl, hD, h0, h1, q⟩ := h
    have nd := sc_one_of.nd
    refine ⟨_,
    (pss_one
    (ps_ret (pe_ix ix_str (pv 1) (pe_call D_roll.ok (hr.mono (by decide)) (by rfl) D_roll.g D_roll.kp D_roll.b .nil pass0 (pa_cons (pv 0) (pa_cons (pe_callB call_len_str (by rfl) Z.z_len (by decide +kernel) (pa_cons (pv 1) pa_nil)) pa_nil))) (fun _ _ => rfl)))), ?_⟩
    refine ⟨_, rfl, _, rfl, _, rfl, z, rfl, sz1000 h1, d, z.length, rfl, hD, by omega, by omega, fun H' r c D' r0 r1 => ?_⟩
    have hl := str_len z
    have hr' : r.toNat < z.cps.toList.length := by omega
    refine ⟨z, r, z.cps.toList[r.toNat], rfl, rfl, sz1000 h1, ?_, q _ _ c D' (List.getElem_mem hr')⟩
    exact at_nat r0 (List.getElem?_eq_getElem hr')
theorem ok_oneL (Z : Zs mg) (D : Df K mg "_law_one_of" s_one_of P_one_of f fd) {fr : Addr} {fdr : FuncData} (D_roll : Cl P w K mg base "_law_roll" 1 fr fdr P_roll spRoll) : FnOk P w K mg base CX0 2 f fd P_one_of (spOneL K) := by
  refine D.F.ok sc_one_of (fun vs H Q E h => ?_) (fun cdv A outer s H vs Q E hr h => ?_)
  · obtain ⟨d, a, xs, rfl, _⟩ := h
    rfl
  · obtain ⟨d, a, xs, rfl, hD, ne, hS, h0, h1, q⟩ := h
    have nd := sc_one_of.nd
    refine ⟨_,
    (pss_one
    (ps_ret (pe_ix ix_list (pv 1) (pe_call D_roll.ok (hr.mono (by decide)) (by rfl) D_roll.g D_roll.kp D_roll.b .nil pass0 (pa_cons (pv 0) (pa_cons (pe_callB call_lenL (by rfl) Z.z_len (by decide +kernel) (pa_cons (pv 1) pa_nil)) pa_nil))) (fun _ _ => rfl)))), ?_⟩
    refine ⟨_, rfl, _, rfl, _, rfl, a, xs, rfl, hS, d, xs.length, rfl, hD, by omega, by omega, fun H' r c D' r0 r1 => ?_⟩
    have hr' : r.toNat < xs.length := by omega
    refine ⟨a, xs, r, xs[r.toNat], rfl, rfl, c.seq ne hS, ?_, q _ _ c D' (List.getElem_mem hr')⟩
    exact at_nat r0 (List.getElem?_eq_getElem hr')

theorem ok_whole (Z : Zs mg) (D : Df K mg "is_whole" s_is_whole P_is_whole f fd) : FnOk P w K mg base CX0 1 f fd P_is_whole (spWhole K) := by
  refine D.F.ok sc_is_whole (fun vs H Q E h => ?_) (fun cdv A outer s H vs Q E hr h => ?_)
  · obtain ⟨x, t, _, _, rfl, _⟩ := h
    rfl
  · obtain ⟨x, t, b1, b2, rfl, ht, k1, k2, q⟩ := h
    have nd := sc_is_whole.nd
    refine ⟨_,
    (pss_one
    (ps_ret (pe_and (pe_callB call_isi (by rfl) Z.z_isinstance (by decide +kernel) (pa_cons (pv 0) (pa_cons (pe_bltn (v := .ty "int") (by rfl) Z.z_int (by decide +kernel) rfl) pa_nil))) (pe_one (pe_not (pe_callB call_isi (by rfl) Z.z_isinstance (by decide +kernel) (pa_cons (pv 0) (pa_cons (pe_bltn (v := .ty "bool") (by rfl) Z.z_bool (by decide +kernel) rfl) pa_nil)))))))), ?_⟩
    refine ⟨_, rfl, x, .ty "int", _, _, b1, rfl, .ty _, ht, kit_ty k1, b1, rfl, ?_⟩
    cases b1 with
    | false => exact q
    | true => exact ⟨_, rfl, x, .ty "bool", _, _, b2, rfl, .ty _, ht, kit_ty (k2 rfl), b2, rfl, q⟩

theorem ok_nameN (Z : Zs mg) (D : Df K mg "is_name" s_is_name P_is_name f fd) : FnOk P w K mg base CX0 1 f fd P_is_name (spNameN K) := by
  refine D.F.ok sc_is_name (fun vs H Q E h => ?_) (fun cdv A outer s H vs Q E hr h => ?_)
  · obtain ⟨x, t, rfl, _⟩ := h
    rfl
  · obtain ⟨x, t, rfl, ht, k1, q⟩ := h
    have nd := sc_is_name.nd
    obtain ⟨t8, g8⟩ := Z.g_MAX_NAME
    refine ⟨_,
    (pss_cons
    (ps_if (PW.pt (pw_or (pt_not (pt_val (pe_callB call_isi (by rfl) Z.z_isinstance (by decide +kernel) (pa_cons (pv 0) (pa_cons (pe_bltn (v := .ty "str") (by rfl) Z.z_str (by decide +kernel) rfl) pa_nil))))) (pw_or1 (pt_not (pt_chain op_le op_le pe_int (pe_callB call_len_str (by rfl) Z.z_len (by decide +kernel) (pa_cons (pv 0) pa_nil)) (pe_glob (v := .int 8) rfl g8 ⟨_, rfl⟩))))))
      (pss_one
      (ps_ret pe_bl))
      pss_nil)
    (pss_one
    (ps_ret (pe_callB (cr_all rfl) (by rfl) Z.z_all (by decide +kernel) (pa_cons (pe_lc (own := [("sign", 1)]) (g := gName 1) (tt := tYes) rfl nd (pi_str (pv 0)) (blkOk_by (N := N_is_name) (sc := defScope s_is_name) (by decide +kernel)) (fun _ _ _ _ _ => (pg_name (i := 1) nd rfl (Or.inl rfl))) (fun _ _ _ _ _ => pts_nil) (fun _ _ _ _ _ => (pe_chain op_le_str op_le_str pe_str (pv 1) pe_str))) pa_nil))))), ?_⟩
    exact ⟨_, rfl, x, .ty "str", _, _, false, rfl, .ty _, ht, kit_ty k1, false, rfl, q⟩
theorem ok_nameS (Z : Zs mg) (D : Df K mg "is_name" s_is_name P_is_name f fd) : FnOk P w K mg base CX0 1 f fd P_is_name spNameS := by
  refine D.F.ok sc_is_name (fun vs H Q E h => ?_) (fun cdv A outer s H vs Q E hr h => ?_)
  · obtain ⟨x, rfl, _⟩ := h
    rfl
  · obtain ⟨z, rfl, hz, q⟩ := h
    have nd := sc_is_name.nd
    obtain ⟨t8, g8⟩ := Z.g_MAX_NAME
    refine ⟨_,
    (pss_cons
    (ps_if (PW.pt (pw_or (pt_not (pt_val (pe_callB call_isi (by rfl) Z.z_isinstance (by decide +kernel) (pa_cons (pv 0) (pa_cons (pe_bltn (v := .ty "str") (by rfl) Z.z_str (by decide +kernel) rfl) pa_nil))))) (pw_or1 (pt_not (pt_chain op_le op_le pe_int (pe_callB call_len_str (by rfl) Z.z_len (by decide +kernel) (pa_cons (pv 0) pa_nil)) (pe_glob (v := .int 8) rfl g8 ⟨_, rfl⟩))))))
      (pss_one
      (ps_ret pe_bl))
      pss_nil)
    (pss_one
    (ps_ret (pe_callB (cr_all rfl) (by rfl) Z.z_all (by decide +kernel) (pa_cons (pe_lc (own := [("sign", 1)]) (g := gName 1) (tt := tYes) rfl nd (pi_str (pv 0)) (blkOk_by (N := N_is_name) (sc := defScope s_is_name) (by decide +kernel)) (fun _ _ _ _ _ => (pg_name (i := 1) nd rfl (Or.inl rfl))) (fun _ _ _ _ _ => pts_nil) (fun _ _ _ _ _ => (pe_chain op_le_str op_le_str pe_str (pv 1) pe_str))) pa_nil))))), ?_⟩
    refine ⟨_, rfl, .str z, .ty "str", _, _, true, rfl, .ty _, .base (.str z), kit_ty (by decide +kernel), true, rfl, ?_⟩
    refine ⟨_, rfl, z, rfl, sz1000 hz, _, _, rfl, rfl, _, rfl, ite2 (fun e => ?_) (fun e => ?_)⟩
    · have e1 := of_decide_eq_true e
      refine ⟨_, _, rfl, rfl, _, rfl, ?_⟩
      by_cases e2 : (z.length : Int) ≤ 8
      · rw [decide_eq_true e2]
        refine iteF ?_
        dsimp only [tNext]
        refine cutR (fun v H' => Same H H' ∧ v = .bl (nameB z)) (fun Q' q' => ?_) (fun v H' hv => ?_)
        rotate_left
        · obtain ⟨sm, rfl⟩ := hv
          exact q H' sm
        refine ⟨_, rfl, z, rfl, fun D hD => ?_⟩
        have ea : (Str.ofString "a" : Str) = ⟨#[97]⟩ := by decide +kernel
        have ez : (Str.ofString "z" : Str) = ⟨#[122]⟩ := by decide +kernel
        refine lc_gen (n := z.cps.size) (fun i H' => Same H H' ∧ H' D = some (.lst (((z.cps.toList.take i).map fun c => decide (97 ≤ c ∧ c ≤ 122)).map V.bl))) ⟨same_new hD, upd_same⟩ (fun i H' hi _ => hi) (fun H' _ => Nat.le_refl _) ?_ ?_
        · intro i x H1 H' hi hP y
          obtain ⟨rfl, c, hc, rfl⟩ := y
          obtain ⟨sm, hd⟩ := hP
          refine ⟨rfl, .str ⟨#[c]⟩, rfl, _, _, rfl, rfl, ?_⟩
          have hl : i < z.cps.toList.length := by simpa using hi
          have hc' : z.cps.toList[i]? = some c := by simpa using hc
          have ht : z.cps.toList.take (i + 1) = z.cps.toList.take i ++ [c] := by rw [List.take_add_one, hc']; rfl
          have fin : ∀ b : Bool, b = decide (97 ≤ c ∧ c ≤ 122) → ∃ acc, H' D = some (.lst acc) ∧ acc.length < sizeLine ∧ Same H (upd H' D (.lst (acc ++ [.bl b]))) ∧ (upd H' D (.lst (acc ++ [.bl b]))) D = some (.lst (((z.cps.toList.take (i + 1)).map fun c => decide (97 ≤ c ∧ c ≤ 122)).map V.bl)) := by
            intro b eb
            refine ⟨_, hd, ?_, fun p o e => ?_, ?_⟩
            · rw [List.length_map, List.length_map, List.length_take]
              have hz2 := str_len z
              exact small1000 (by omega)
            · rw [upd_ne (ne_of_none e hD)]
              exact sm _ _ e
            · rw [upd_same, ht, eb, List.map_append, List.map_append]
              rfl
          rw [ea, ez, sign_lt]
          refine ⟨_, rfl, ?_⟩
          by_cases c1 : c < 97
          · rw [decide_eq_true c1]
            exact fin false (decide_eq_false (by omega)).symm
          · rw [decide_eq_false c1]
            refine ⟨_, _, rfl, rfl, ?_⟩
            rw [sign_lt]
            exact fin _ (by
              rw [← decide_not, decide_eq_decide]
              omega)
        · intro H' hP
          obtain ⟨sm, hd⟩ := hP
          rw [List.take_of_length_le (by simp)] at hd
          refine ⟨D, _, rfl, .of hd, q' _ _ ⟨sm, ?_⟩⟩
          have g1 : decide (1 ≤ z.length ∧ z.length ≤ 8) = true := decide_eq_true (by omega)
          unfold nameB
          rw [g1, List.all_map]
          rfl
      · rw [decide_eq_false e2]
        have g1 : nameB z = false := by
          unfold nameB
          rw [decide_eq_false (by omega)]
          rfl
        have k := q H (Same.refl H)
        rw [g1] at k
        exact k
    · have g1 : nameB z = false := by
        have e1 : ¬ (1 : Int) ≤ z.length := fun z => e (decide_eq_true z)
        unfold nameB
        rw [decide_eq_false (by omega)]
        rfl
      have k := q H (Same.refl H)
      rw [g1] at k
      exact ⟨_, rfl, k⟩

theorem ok_markI (Z : Zs mg) (D : Df K mg "is_mark" s_is_mark P_is_mark f fd) {fr : Addr} {fdr : FuncData} (D_is_whole : Cl P w K mg base "is_whole" 1 fr fdr P_is_whole (spWhole K)) : FnOk P w K mg base CX0 2 f fd P_is_mark spMarkI := by
  refine D.F.ok sc_is_mark (fun vs H Q E h => ?_) (fun cdv A outer s H vs Q E hr h => ?_)
  · obtain ⟨x, rfl, _⟩ := h
    rfl
  · obtain ⟨i, rfl, q⟩ := h
    have nd := sc_is_mark.nd
    refine ⟨_,
    (pss_one
    (ps_ret (pe_and (pe_call D_is_whole.ok (hr.mono (by decide)) (by rfl) D_is_whole.g D_is_whole.kp D_is_whole.b .nil pass0 (pa_cons (pv 0) pa_nil)) (pe_one (pe_cmpR op_ge (pv 0) pe_int (nomark _)))))), ?_⟩
    exact ⟨_, rfl, _, "int", true, false, rfl, .base (.int i), by decide +kernel, fun _ => by decide +kernel, _, rfl, _, rfl, _, _, rfl, rfl, q⟩
theorem ok_markN (Z : Zs mg) (D : Df K mg "is_mark" s_is_mark P_is_mark f fd) {fr : Addr} {fdr : FuncData} (D_is_whole : Cl P w K mg base "is_whole" 1 fr fdr P_is_whole (spWhole K)) : FnOk P w K mg base CX0 2 f fd P_is_mark (spMarkN K) := by
  refine D.F.ok sc_is_mark (fun vs H Q E h => ?_) (fun cdv A outer s H vs Q E hr h => ?_)
  · obtain ⟨x, t, rfl, _⟩ := h
    rfl
  · obtain ⟨x, t, rfl, ht, k, q⟩ := h
    have nd := sc_is_mark.nd
    refine ⟨_,
    (pss_one
    (ps_ret (pe_and (pe_call D_is_whole.ok (hr.mono (by decide)) (by rfl) D_is_whole.g D_is_whole.kp D_is_whole.b .nil pass0 (pa_cons (pv 0) pa_nil)) (pe_one (pe_cmpR op_ge (pv 0) pe_int (nomark _)))))), ?_⟩
    rcases k with k | ⟨k, k2⟩
    · exact ⟨_, rfl, _, t, false, false, rfl, ht, k, fun z => (by cases z), _, rfl, q⟩
    · exact ⟨_, rfl, _, t, true, true, rfl, ht, k, fun _ => k2, _, rfl, q⟩

end
end K01
set_option Elab.async false
set_option linter.all false
set_option maxRecDepth 100000
set_option maxHeartbeats 4000000
namespace K01
open PySem PySem.Spec PyProof.Rows L2 Ly
abbrev s_right : Stmt := topS 9
abbrev N_right : List Str := ["_law_dice_here", "_law_letters", "_law_text", "_law_sign", "_law_at", "_law_spoilt", "_law_number", "_law_told", "_law_odd", "_law_one"]
abbrev P_right : List Str := ["_law_dice_here"]
theorem sc_right : FnScope N_right P_right (defScope s_right) := ⟨rfl, rfl, rfl, by decide +kernel, rfl, by decide +kernel, by decide +kernel⟩
section
variable {P : Program} {w : World} {K : PySem.W.Frag} {mg : Str → Option Value} {base : Heap} {f : Addr} {fd : FuncData}
/-- is_name of whatever stands in the odd list: no name -/
def spName (K : PySem.W.Frag) : Sp := fun vs H Q _ => (∃ (x : V) (t : String), vs = [x] ∧ TyB K H x t ∧ kitB t "str" = some false ∧ Q (.bl false) H)
def spRight : Sp := fun vs H Q _ => ∃ d, vs = [.ref d] ∧ Dice H d ∧ ∀ H', Chg d H H' → Dice H' d → Q (.bl true) H'
def lettersA : Str := "abcdefghijklmnopqrstuvwxyz"
theorem lettersA_in : ∀ c ∈ lettersA.cps.toList, 97 ≤ c ∧ c ≤ 122 := by decide +kernel
theorem nameB_low {z : Str} (h : ∀ c ∈ z.cps.toList, 97 ≤ c ∧ c ≤ 122) : nameB z = decide (1 ≤ z.length ∧ z.length ≤ 8) := by
  unfold nameB
  rw [show (z.cps.toList.all fun c => decide (97 ≤ c ∧ c ≤ 122)) = true from List.all_eq_true.mpr fun c hc => decide_eq_true (h c hc), Bool.and_true]
theorem nameB_odd {z : Str} {c : Nat} (hc : c ∈ z.cps.toList) (h : ¬ (97 ≤ c ∧ c ≤ 122)) : nameB z = false := by
  unfold nameB
  rw [show (z.cps.toList.all fun c => decide (97 ≤ c ∧ c ≤ 122)) = false from List.all_eq_false.mpr ⟨c, hc, by simpa using h⟩, Bool.and_false]
theorem ok_right (Z : Zs mg) (D : Df K mg "_law_right" s_right P_right f fd) {f1 f2 f3 f4 : Addr} {d1 d2 d3 d4 : FuncData} (D_roll : Cl P w K mg base "_law_roll" 1 f1 d1 P_roll spRoll)
    (D_oneS : Cl P w K mg base "_law_one_of" 2 f2 d2 P_one_of spOneS) (D_oneL : Cl P w K mg base "_law_one_of" 2 f2 d2 P_one_of (spOneL K))
    (D_nameS : Cl P w K mg base "is_name" 1 f3 d3 P_is_name spNameS) (D_name : Cl P w K mg base "is_name" 1 f3 d3 P_is_name (spNameN K))
    (D_markI : Cl P w K mg base "is_mark" 2 f4 d4 P_is_mark spMarkI) (D_markN : Cl P w K mg base "is_mark" 2 f4 d4 P_is_mark (spMarkN K)) : FnOk P w K mg base CX0 3 f fd P_right spRight := by
  refine D.F.ok sc_right (fun vs H Q E h => ?_) (fun cdv A outer s H vs Q E hr h => ?_)
  · obtain ⟨d, rfl, _⟩ := h
    rfl
  · obtain ⟨d, rfl, hD, q⟩ := h
    have nd := sc_right.nd
    have hu : (A.deeper (envOfC "_law_right" (defScope s_right) s.heap.objs.size f cdv)).units + 64 < cLine := by
      have := hr.un
      omega
    refine ⟨_,
    (pss_cons
    (ps_set (i := 1) nd rfl (Or.inr rfl) pe_str)
    (pss_cons
    (ps_set (i := 2) nd rfl (Or.inl rfl) (pe_join pe_str (pe_lc (own := [("_law_sign", 3)]) (g := gName 3) (tt := tYes) rfl nd (pi_range1 (by rfl) Z.z_range (pa_cons (pe_call D_roll.ok (hr.mono (by decide)) (by rfl) D_roll.g D_roll.kp D_roll.b .nil pass0 (pa_cons (pv 0) (pa_cons pe_int pa_nil))) pa_nil)) (blkOk_by (N := N_right) (sc := defScope s_right) (by decide +kernel)) (fun _ _ _ _ _ => (pg_name (i := 3) nd rfl (Or.inl rfl))) (fun _ _ _ _ _ => pts_nil) (fun _ _ _ _ _ => (pe_call D_oneS.ok (hr.mono (by decide)) (by rfl) D_oneS.g D_oneS.kp D_oneS.b .nil pass0 (pa_cons (pv 0) (pa_cons (pv 1) pa_nil)))))))
    (pss_cons
    (ps_set (i := 3) nd rfl (Or.inl rfl) (pe_call D_oneL.ok (hr.mono (by decide)) (by rfl) D_oneL.g D_oneL.kp D_oneL.b .nil pass0 (pa_cons (pv 0) (pa_cons (pe_lst (pa_cons pe_str (pa_cons pe_str (pa_cons pe_str (pa_cons pe_str (pa_cons pe_str (pa_cons pe_str (pa_cons pe_str (pa_cons pe_str (pa_cons pe_str (pa_cons pe_str (pa_cons pe_str (pa_cons pe_str pa_nil))))))))))))) pa_nil))))
    (pss_cons
    (ps_set (i := 4) nd rfl (Or.inl rfl) (pe_call D_roll.ok (hr.mono (by decide)) (by rfl) D_roll.g D_roll.kp D_roll.b .nil pass0 (pa_cons (pv 0) (pa_cons (pe_op op_add (pe_callB call_len_str (by rfl) Z.z_len (by decide +kernel) (pa_cons (pv 2) pa_nil)) pe_int) pa_nil))))
    (pss_cons
    (ps_set (i := 5) nd rfl (Or.inl rfl) (pe_op op_add_str (pe_op op_add_str (pe_slice sl_str (pv 2) po_none (po_some (pv 4))) (pv 3)) (pe_slice sl_str (pv 2) (po_some (pv 4)) po_none)))
    (pss_cons
    (ps_if (PW.pt (pw_or (pt_cmpR op_ne (pe_callB call_reprB (by rfl) Z.z_repr (by decide +kernel) (pa_cons (pe_call D_nameS.ok (hr.mono (by decide)) (by rfl) D_nameS.g D_nameS.kp D_nameS.b .nil pass0 (pa_cons (pv 2) pa_nil)) pa_nil)) (pe_callB call_reprB (by rfl) Z.z_repr (by decide +kernel) (pa_cons (pe_chain op_lt op_lt pe_int (pe_callB call_len_str (by rfl) Z.z_len (by decide +kernel) (pa_cons (pv 2) pa_nil)) pe_int) pa_nil)) (nomark _)) (pw_or (pt_cmpR op_notBl (pe_call D_nameS.ok (hr.mono (by decide)) (by rfl) D_nameS.g D_nameS.kp D_nameS.b .nil pass0 (pa_cons (pv 5) pa_nil)) pe_bl (nomark _)) (pw_or1 (pt_cmpR op_notBl (pe_call D_markN.ok (hr.mono (by decide)) (by rfl) D_markN.g D_markN.kp D_markN.b .nil pass0 (pa_cons (pv 2) pa_nil)) pe_bl (nomark _))))))
      (pss_one
      (ps_ret pe_bl))
      pss_nil)
    (pss_cons
    (ps_set (i := 6) nd rfl (Or.inl rfl) (pe_call D_roll.ok (hr.mono (by decide)) (by rfl) D_roll.g D_roll.kp D_roll.b .nil pass0 (pa_cons (pv 0) (pa_cons (pe_op op_powW pe_int pe_int) pa_nil))))
    (pss_cons
    (ps_set (i := 7) nd rfl (Or.inl rfl) (pe_lst (pa_cons (pe_call D_markI.ok (hr.mono (by decide)) (by rfl) D_markI.g D_markI.kp D_markI.b .nil pass0 (pa_cons (pv 6) pa_nil)) (pa_cons (pe_call D_markI.ok (hr.mono (by decide)) (by rfl) D_markI.g D_markI.kp D_markI.b .nil pass0 (pa_cons (pe_op op_sub (pe_op op_sub pe_int pe_int) (pv 6)) pa_nil)) (pa_cons (pe_call D_markN.ok (hr.mono (by decide)) (by rfl) D_markN.g D_markN.kp D_markN.b .nil pass0 (pa_cons (pe_tup (pa_cons (pv 6) pa_nil)) pa_nil)) (pa_cons (pe_call D_markN.ok (hr.mono (by decide)) (by rfl) D_markN.g D_markN.kp D_markN.b .nil pass0 (pa_cons (pe_lst (pa_cons (pv 6) pa_nil)) pa_nil)) (pa_cons (pe_call D_markN.ok (hr.mono (by decide)) (by rfl) D_markN.g D_markN.kp D_markN.b .nil pass0 (pa_cons (pe_callTy call_str_int (by rfl) Z.z_str (by decide +kernel) (pa_cons (pv 6) pa_nil)) pa_nil)) pa_nil)))))))
    (pss_cons
    (ps_set (i := 8) nd rfl (Or.inl rfl) (pe_lst (pa_cons pe_non (pa_cons pe_bl (pa_cons pe_bl (pa_cons (pe_tup pa_nil) (pa_cons (pe_tup (pa_cons (pv 2) pa_nil)) (pa_cons (pe_lst (pa_cons (pv 2) pa_nil)) (pa_cons (pe_disp (pps_cons (pv 2) pe_int pps_nil) (by rfl) (by rfl) (fun z => by cases z) (by decide)) (pa_cons pe_dnewK (pa_cons (pv 6) (pa_cons (pe_lst (pa_cons (pe_lst pa_nil) pa_nil)) pa_nil))))))))))))
    (pss_one
    (ps_ret (pe_and (pe_cmpR (op_eqD hu) (pv 7) (pe_op op_cat (pe_lst (pa_cons pe_bl pa_nil)) (pe_op op_rep (pe_lst (pa_cons pe_bl pa_nil)) pe_int)) (nomark _)) (pe_one (pe_cmpR (op_eqD hu) (pe_lc (own := [("_law_one", 9)]) (g := gName 9) rfl nd (pi_list (pv 8)) (blkOk_by (N := N_right) (sc := defScope s_right) (by decide +kernel)) (fun _ _ _ _ _ => (pg_name (i := 9) nd rfl (Or.inl rfl))) (fun _ _ _ _ _ => (pts_one (pt_cmpR op_notBl (pe_call D_name.ok (hr.mono (by decide)) (by rfl) D_name.g D_name.kp D_name.b .nil pass0 (pa_cons (pv 9) pa_nil)) pe_bl (nomark _)))) (fun _ _ _ _ _ => (pv 9))) (pe_lst pa_nil) (nomark _))))))))))))))), ?_⟩
    -- letters
    refine asgS (fun v H' => H' = H ∧ v = .str lettersA) (fun Q' q' => q' _ _ ⟨rfl, rfl⟩) (fun v H' hv => ?_)
    obtain ⟨rfl, rfl⟩ := hv
    -- text
    refine asgS (fun v H1 => Chg d H' H1 ∧ Dice H1 d ∧ ∃ z : Str, v = .str z ∧ z.length < 11 ∧ ∀ c ∈ z.cps.toList, 97 ≤ c ∧ c ≤ 122) (fun Q' q' => ?_) (fun v H1 hv => ?_)
    · refine ⟨⟨_, rfl⟩, ?_⟩
      refine ⟨_, rfl, d, 11, rfl, hD, by decide, by decide +kernel, fun H1 r c1 D1 r0 r1 => ?_⟩
      refine ⟨r, rfl, by omega, by omega, fun D2 nD => ?_⟩
      have ne := dice_ne D1 nD
      refine lc_range (lo := 0) (n := r.toNat) (fun i H2 => Chg d H' H2 ∧ Dice H2 d ∧ ∃ ys : List Str, H2 D2 = some (.lst (ys.map V.str)) ∧ ys.length = i ∧ ∀ y ∈ ys, ∃ c, y = ⟨#[c]⟩ ∧ 97 ≤ c ∧ c ≤ 122)
        ⟨c1.new nD, D1.new nD, [], upd_same, rfl, fun _ h => by cases h⟩ (fun i H2 hi hP => ?_) (fun H2 hP => ?_)
      · obtain ⟨c2, D2', ys, hy, hl, hall⟩ := hP
        refine ⟨rfl, _, rfl, _, rfl, d, lettersA, rfl, D2', by decide +kernel, by decide +kernel, fun H3 c ch D3 mem => ?_⟩
        have e3 : H3 D2 = some (.lst (ys.map V.str)) := ch _ _ ne.symm hy
        refine ⟨_, e3, by rw [List.length_map]; exact small1000 (by omega), ?_⟩
        refine ⟨fun x o nx e => ?_, ?_, ys ++ [⟨#[c]⟩], ?_, ?_, ?_⟩
        · rw [upd_ne (ne_of_none (c1 _ _ nx e) nD)]
          exact (c2.trans ch) _ _ nx e
        · obtain ⟨a, b, c', ed, B⟩ := D3
          exact ⟨a, b, c', by rw [upd_ne ne]; exact ed, B⟩
        · rw [upd_same, List.map_append]
          rfl
        · rw [List.length_append, hl]
          rfl
        · intro y hy'
          rcases List.mem_append.mp hy' with hy' | hy'
          · exact hall y hy'
          · exact ⟨c, List.mem_singleton.mp hy', lettersA_in c mem⟩
      · obtain ⟨c2, D2', ys, hy, hl, hall⟩ := hP
        have hlen : ∀ y ∈ ys, y.length = 1 := fun y hy' => by
          obtain ⟨c, rfl, _⟩ := hall y hy'
          rfl
        have hsum : (ys.map (·.length)).sum = ys.length := by
          clear hy hl hall
          induction ys with
          | nil => rfl
          | cons y r ih =>
            rw [List.map_cons, List.sum_cons, hlen y List.mem_cons_self, ih fun y' hy' => hlen y' (List.mem_cons_of_mem _ hy')]
            rw [List.length_cons]
            omega
        have e0 : (Str.ofString "" : Str) = Str.empty := rfl
        refine ⟨Str.empty, D2, ys, e0 ▸ rfl, rfl, .inl (.of hy), ?_, q' _ _ ⟨c2, D2', _, rfl, ?_, ?_⟩⟩
        · rw [hsum]
          show ys.length + ys.length * 0 ≤ 16777216
          omega
        · rw [len_of_cps (txt_join ys), List.length_flatMap]
          have e1 : ys.map (fun y => y.cps.toList.length) = ys.map (·.length) := List.map_congr_left fun y _ => str_len y
          rw [e1, hsum]
          omega
        · rw [txt_join]
          intro c hc
          obtain ⟨y, hy', hc'⟩ := List.mem_flatMap.mp hc
          obtain ⟨c'', rfl, hb⟩ := hall y hy'
          have e1 : c = c'' := by simpa using hc'
          rw [e1]
          exact hb
    obtain ⟨c1, D1, z, rfl, hz, hlow⟩ := hv
    -- sign
    refine asgS (fun v H2 => Chg d H1 H2 ∧ Dice H2 d ∧ ∃ c : Nat, v = .str ⟨#[c]⟩ ∧ ¬ (97 ≤ c ∧ c ≤ 122)) (fun Q' q' => ?_) (fun v H2 hv => ?_)
    · refine ⟨_, rfl, by show 12 ≤ sizeLine; decide, fun p hp => ?_⟩
      refine ⟨d, p, _, rfl, D1.new hp, (dice_ne D1 hp).symm, .of upd_same, by decide, by decide, fun H2 x ch D2 mem => q' _ _ ⟨(Chg.of (same_new hp)).trans ch, D2, ?_⟩⟩
      have key : ∀ x ∈ ([.str " ", .str "A", .str "Z", .str "0", .str "_", .str "-", .str ".", .str "
", .str "{", .str "@", .str "`", .str "["] : List V), ∃ c : Nat, x = .str ⟨#[c]⟩ ∧ ¬ (97 ≤ c ∧ c ≤ 122) := by
        intro x hx
        simp only [List.mem_cons, List.not_mem_nil, or_false] at hx
        rcases hx with h | h | h | h | h | h | h | h | h | h | h | h <;> subst h
        · exact ⟨32, rfl, by omega⟩
        · exact ⟨65, rfl, by omega⟩
        · exact ⟨90, rfl, by omega⟩
        · exact ⟨48, rfl, by omega⟩
        · exact ⟨95, rfl, by omega⟩
        · exact ⟨45, rfl, by omega⟩
        · exact ⟨46, rfl, by omega⟩
        · exact ⟨10, rfl, by omega⟩
        · exact ⟨123, rfl, by omega⟩
        · exact ⟨64, rfl, by omega⟩
        · exact ⟨96, rfl, by omega⟩
        · exact ⟨91, rfl, by omega⟩
      exact key x mem
    obtain ⟨c2, D2, ob, rfl, hob⟩ := hv
    -- at
    refine asgS (fun v H3 => Chg d H2 H3 ∧ Dice H3 d ∧ ∃ k : Nat, v = .int k ∧ k ≤ z.length) (fun Q' q' => ?_) (fun v H3 hv => ?_)
    · refine ⟨_, rfl, _, rfl, z, rfl, sz1000 (by omega), _, _, rfl, rfl, d, _, rfl, D2, ?_, ?_, fun H3 r ch D3 r0 r1 => q' _ _ ⟨ch, D3, r.toNat, ?_, ?_⟩⟩
      · omega
      · have : (2 : Int) ^ 200 > 100 := by decide +kernel
        omega
      · rw [Int.toNat_of_nonneg r0]
      · omega
    obtain ⟨c3, D3, k, rfl, hk⟩ := hv
    -- spoilt
    refine asgS (fun v H4 => H4 = H3 ∧ ∃ y : Str, v = .str y ∧ y.length < 1000 ∧ nameB y = false) (fun Q' q' => ?_) (fun v H4 hv => ?_)
    · refine ⟨_, rfl, _, rfl, k, rfl, z, rfl, sz1000 (by omega), _, rfl, _, _, rfl, rfl, ?_, _, rfl, _, rfl, k, rfl, z, rfl, sz1000 (by omega), _, _, rfl, rfl, ?_, q' _ _ ⟨rfl, _, rfl, ?_, ?_⟩⟩
      · rw [len_of_cps (cut_to z k hk), List.length_take]
        exact Nat.le_trans (Nat.add_le_add (Nat.min_le_left _ _) (Nat.le_refl 1)) (sz1000 (by omega))
      · rw [app_len, len_of_cps (cut_to z k hk), len_of_cps (cut_from z k hk), List.length_take, List.length_drop, str_len]
        refine sz1000 ?_
        show min k z.length + 1 + (z.length - k) < 1000
        omega
      · rw [app_len, app_len, len_of_cps (cut_to z k hk), len_of_cps (cut_from z k hk), List.length_take, List.length_drop, str_len]
        show min k z.length + 1 + (z.length - k) < 1000
        omega
      · refine nameB_odd (c := ob) ?_ hob
        rw [app_cps, app_cps]
        exact List.mem_append_left _ (List.mem_append_right _ (by simp))
    obtain ⟨rfl, y, rfl, hy, hyn⟩ := hv
    -- if
    refine ifNo (fun H5 => Same H4 H5) (fun Q' q' => ?_) (fun H5 s5 => ?_)
    · have hzn := nameB_low hlow
      have back : ∀ H5, Same H4 H5 → tOr (tTest (tOp rNotB (tCall spNameS [] E0 (tCons (tVar 5) tNil)) (tC (V.bl false))))
          (tTest (tOp rNotB (tCall (spMarkN K) [] E0 (tCons (tVar 2) tNil)) (tC (V.bl false)))) [some (.ref d), some (.str lettersA), some (.str z), some (.str ⟨#[ob]⟩), some (.int k), some (.str y), none, none, none, none] H5 Q' := fun H5 s5 => by
        refine ⟨_, rfl, y, rfl, hy, fun H6 s6 => ⟨_, _, rfl, rfl, _, rfl, ifF (by rw [hyn]; rfl) ?_⟩⟩
        exact ⟨_, rfl, .str z, "str", rfl, .base (.str z), .inl (by decide +kernel), _, _, rfl, rfl, _, rfl, q' _ (s5.trans s6)⟩
      refine ⟨_, rfl, z, rfl, by omega, fun H5 s5 => ⟨_, rfl, _, rfl, z, rfl, sz1000 (by omega), _, _, rfl, rfl, _, rfl, ?_⟩⟩
      by_cases hz0 : (0 : Int) < (z.length : Int)
      · refine ifT (decide_eq_true hz0) ⟨_, _, rfl, rfl, _, rfl, rfl, _, rfl, ifF ?_ (back _ s5)⟩
        have e : nameB z = decide ((z.length : Int) < 9) := by
          rw [hzn, decide_eq_decide]
          omega
        rw [e, decide_eq_true rfl]
        rfl
      · refine ifF (decide_eq_false hz0) ⟨_, rfl, rfl, _, rfl, ifF ?_ (back _ s5)⟩
        have e : nameB z = false := by
          rw [hzn]
          exact decide_eq_false (by omega)
        rw [e, decide_eq_true rfl]
        rfl
    have D5 := D3.keep s5
    -- number
    refine asgS (fun v H6 => Chg d H5 H6 ∧ Dice H6 d ∧ ∃ n : Int, v = .int n ∧ 0 ≤ n ∧ n < 2 ^ 200) (fun Q' q' => ?_) (fun v H6 hv => ?_)
    · refine ⟨_, rfl, _, _, rfl, rfl, ⟨by decide, by decide +kernel⟩, d, _, rfl, D5, by decide +kernel, by decide +kernel, fun H6 r ch D6 r0 r1 => q' _ _ ⟨ch, D6, r, rfl, r0, Int.lt_trans r1 (by decide +kernel)⟩⟩
    obtain ⟨c6, D6, n, rfl, n0, n1⟩ := hv
    -- told
    refine asgS (fun v H7 => Same H6 H7 ∧ ∃ p, v = .ref p ∧ H7 p = some (.lst [.bl true, .bl false, .bl false, .bl false, .bl false]) ∧ p ≠ d) (fun Q' q' => ?_) (fun v H7 hv => ?_)
    · refine ⟨_, rfl, n, rfl, _, _, rfl, rfl, _, rfl, _, _, rfl, rfl, _, rfl, ?_⟩
      refine ⟨_, rfl, by show 1 ≤ sizeLine; decide, fun p1 n1' => ⟨_, "tuple", rfl, .base (.tup upd_same), .inl (by decide +kernel), ?_⟩⟩
      refine ⟨_, rfl, by show 1 ≤ sizeLine; decide, fun p2 n2 => ⟨_, "list", rfl, .base (.lst upd_same), .inl (by decide +kernel), ?_⟩⟩
      refine ⟨_, rfl, n, rfl, log_ok n0 n1, _, "str", rfl, .base (.str _), .inl (by decide +kernel), by show 5 ≤ sizeLine; decide, fun p3 n3 => q' _ _ ⟨((same_new n1').trans (same_new n2)).trans (same_new n3), p3, rfl, ?_, ?_⟩⟩
      · rw [upd_same, decide_eq_true n0, decide_eq_false (by omega)]
      · exact (dice_ne ((D6.new n1').new n2) n3).symm
    obtain ⟨s7, pt, rfl, ht, hpt⟩ := hv
    have D7 := D6.keep s7
    -- odd
    refine asgS (fun v H8 => Same H7 H8 ∧ ∃ p xs, v = .ref p ∧ H8 p = some (.lst xs) ∧ xs.length < 100 ∧ ∀ x ∈ xs, Odd H8 x) (fun Q' q' => ?_) (fun v H8 hv => ?_)
    · refine ⟨by show 0 ≤ sizeLine; decide, fun p1 m1 => ?_⟩
      refine ⟨_, rfl, by show 1 ≤ sizeLine; decide, fun p2 m2 => ?_⟩
      refine ⟨_, rfl, by show 1 ≤ sizeLine; decide, fun p3 m3 p4 m4 => ?_⟩
      refine ⟨_, rfl, upd_same, [(Sum.inr z, .int 1)], rfl, by show 1 ≤ 15; decide, fun p5 m5 => ?_⟩
      refine ⟨_, rfl, by show 0 ≤ sizeLine; decide, fun p6 m6 => ⟨by show 1 ≤ sizeLine; decide, fun p7 m7 => ⟨by show 10 ≤ sizeLine; decide, fun p8 m8 => ?_⟩⟩⟩
      have s1 := same_new (o := .tup []) m1
      have s2 := same_new (o := .tup [.str z]) m2
      have s3 := same_new (o := .lst [.str z]) m3
      have s4 := same_new2 (o := .dK []) (u := .dK (mergeK [] [(Sum.inr z, .int 1)])) m4
      have s5' := same_new (o := .dK []) m5
      have s6' := same_new (o := .lst []) m6
      have s7' := same_new (o := .lst [.ref p6]) m7
      have s8 := same_new (o := .lst [V.non, .bl true, .bl false, .ref p1, .ref p2, .ref p3, .ref p4, .ref p5, .int n, .ref p7]) m8
      have t7 := s8
      have t6 := s7'.trans t7
      have t5 := s6'.trans t6
      have t4 := s5'.trans t5
      have t3 := s4.trans t4
      have t2 := s3.trans t3
      have t1 := s2.trans t2
      refine q' _ _ ⟨s1.trans t1, p8, _, rfl, upd_same, by show 10 < 100; decide, fun x hx => ?_⟩
      simp only [List.mem_cons, List.not_mem_nil, or_false] at hx
      rcases hx with h | h | h | h | h | h | h | h | h | h <;> subst h
      · exact .inl rfl
      · exact .inr (.inl ⟨_, rfl⟩)
      · exact .inr (.inl ⟨_, rfl⟩)
      · exact .inr (.inr (.inr ⟨_, rfl, .inr (.inl ⟨_, t1 _ _ upd_same⟩)⟩))
      · exact .inr (.inr (.inr ⟨_, rfl, .inr (.inl ⟨_, t2 _ _ upd_same⟩)⟩))
      · exact .inr (.inr (.inr ⟨_, rfl, .inl ⟨_, t3 _ _ upd_same⟩⟩))
      · exact .inr (.inr (.inr ⟨_, rfl, .inr (.inr ⟨_, t4 _ _ upd_same⟩)⟩))
      · exact .inr (.inr (.inr ⟨_, rfl, .inr (.inr ⟨_, t5 _ _ upd_same⟩)⟩))
      · exact .inr (.inr (.inl ⟨_, rfl⟩))
      · exact .inr (.inr (.inr ⟨_, rfl, .inl ⟨_, t7 _ _ upd_same⟩⟩))
    obtain ⟨s8, po, xs, rfl, ho, hxs, hodd⟩ := hv
    -- return
    refine ⟨_, rfl, by show 1 ≤ sizeLine; decide, fun a1 m1 => ⟨by show 1 ≤ sizeLine; decide, fun a2 m2 => ?_⟩⟩
    refine ⟨a2, 4, _, rfl, rfl, upd_same, by decide, by decide, by decide, fun a3 m3 => ?_⟩
    have e1 := same_new (o := .lst [V.bl true]) m1
    have e2 := same_new (o := .lst [V.bl false]) m2
    have e3 := same_new (o := .lst (List.replicate (4 : Int).toNat [V.bl false]).flatten) m3
    refine ⟨a1, a3, _, _, rfl, rfl, e3 _ _ (e2 _ _ upd_same), upd_same, by decide, fun a4 m4 => ?_⟩
    have e4 := same_new (o := .lst ([V.bl true] ++ (List.replicate (4 : Int).toNat [V.bl false]).flatten)) m4
    have f1 := ((e1.trans e2).trans e3).trans e4
    refine ⟨.list [.bool true, .bool false, .bool false, .bool false, .bool false], .list [.bool true, .bool false, .bool false, .bool false, .bool false], ?_, ?_, by decide +kernel, by decide +kernel, _, rfl, ifT (by decide +kernel) ?_⟩
    · exact .lst (.of (f1 _ _ (s8 _ _ ht))) (.cons (.bl _) (.cons (.bl _) (.cons (.bl _) (.cons (.bl _) (.cons (.bl _) .nil)))))
    · exact .lst (.of upd_same) (.cons (.bl _) (.cons (.bl _) (.cons (.bl _) (.cons (.bl _) (.cons (.bl _) .nil)))))
    generalize hH9 : upd _ a4 _ = H9 at *
    have sx := f1 _ _ ho
    refine ⟨.ref po, rfl, po, rfl, ⟨xs, .of sx⟩, fun D9 n9 => lc_list (xs := xs) (fun i Hx => Hx = upd H9 D9 (.lst [])) rfl (fun i Hx _ e => ?_) (fun i x Hx hx e => ?_) (fun Hx e => ?_)⟩
    · rw [e]
      exact .of (same_new n9 _ _ sx)
    · subst e
      obtain ⟨t, ty, kt⟩ := ((hodd x (List.mem_of_getElem? hx)).keep (f1.trans (same_new n9))).ty (K := K)
      exact ⟨rfl, x, rfl, x, t, rfl, ty, kt, _, _, rfl, rfl, _, rfl, ifF rfl rfl⟩
    · subst e
      refine ⟨by show 0 ≤ sizeLine; decide, fun a5 m5 => ⟨.list [], .list [], .lst (.of (same_new m5 _ _ upd_same)) .nil, .lst (.of upd_same) .nil, by decide +kernel, by decide +kernel, ?_⟩⟩
      have e : PyData.eqv (.list []) (.list []) = true := by decide +kernel
      have g9 := (f1.trans (same_new n9)).trans (same_new (o := .lst []) m5)
      have k := q _ (((((((c1.trans c2).trans c3).trans (.of s5)).trans c6).trans (.of s7)).trans (.of s8)).trans (.of g9)) ((D7.keep s8).keep g9)
      rw [e]
      exact k

end
end K01
set_option Elab.async false
set_option linter.all false
set_option maxRecDepth 100000
set_option maxHeartbeats 4000000
namespace K01
open PySem PySem.Spec PyProof.Rows L2 Ly
abbrev s_law : Stmt := topS 10
abbrev N_law : List Str := ["_law_script", "_law_at", "_law_dice_here", "_law_turn", "_law_odd", "_law_one"]
abbrev P_law : List Str := ["_law_script"]
theorem sc_law : FnScope N_law P_law (defScope s_law) := ⟨rfl, rfl, rfl, by decide +kernel, rfl, by decide +kernel, by decide +kernel⟩
section
variable {P : Program} {w : World} {K : PySem.W.Frag} {mg : Str → Option Value} {base : Heap} {f : Addr} {fd : FuncData}
def spLaw (K : PySem.W.Frag) : Sp := fun vs H Q _ => ∃ (a : Addr) (ns : List Int), vs = [.ref a] ∧ SqL K H a (ns.map V.int) ∧ ns.length ≤ 63 ∧ ∀ H', Q (.bl true) H'
def spMark (K : PySem.W.Frag) : Sp := fun vs H Q E => spMarkI vs H Q E ∨ spMarkN K vs H Q E
/-- no mark -/
def NoMark (H : Hp) (x : V) : Prop := (∃ i : Int, x = .int i ∧ i < 0) ∨ (∃ b, x = .bl b) ∨ (∃ z, x = .str z) ∨ x = .non ∨ ∃ p, x = .ref p ∧ ((∃ xs, H p = some (.lst xs)) ∨ (∃ xs, H p = some (.tup xs)) ∨ ∃ kvs, H p = some (.dK kvs))
theorem NoMark.go {K : PySem.W.Frag} {H : Hp} {x : V} {Q : VK} {E : XK} (h : NoMark H x) (q : Q (.bl false) H) : spMark K [x] H Q E := by
  rcases h with ⟨i, rfl, hi⟩ | ⟨b, rfl⟩ | ⟨z, rfl⟩ | rfl | ⟨p, rfl, ⟨_, h⟩ | ⟨_, h⟩ | ⟨_, h⟩⟩
  · exact .inl ⟨i, rfl, (decide_eq_false (show ¬ 0 ≤ i by omega)).symm ▸ q⟩
  · exact .inr ⟨_, "bool", rfl, .base (.bl b), .inr ⟨by decide +kernel, by decide +kernel⟩, q⟩
  · exact .inr ⟨_, "str", rfl, .base (.str z), .inl (by decide +kernel), q⟩
  · exact .inr ⟨_, "NoneType", rfl, .base .non, .inl (by decide +kernel), q⟩
  · exact .inr ⟨_, "list", rfl, .base (.lst h), .inl (by decide +kernel), q⟩
  · exact .inr ⟨_, "tuple", rfl, .base (.tup h), .inl (by decide +kernel), q⟩
  · exact .inr ⟨_, "dict", rfl, .base (.dK h), .inl (by decide +kernel), q⟩
theorem ok_law (Z : Zs mg) (D : Df K mg "law" s_law P_law f fd) {f1 f2 f3 f4 : Addr} {d1 d2 d3 d4 : FuncData} (D_dice : Cl P w K mg base "_law_dice" 1 f1 d1 P_dice (spDice K))
    (D_right : Cl P w K mg base "_law_right" 3 f2 d2 P_right spRight) (D_nameS : Cl P w K mg base "is_name" 1 f3 d3 P_is_name spNameS) (D_mark : Cl P w K mg base "is_mark" 2 f4 d4 P_is_mark (spMark K)) : FnOk P w K mg base CX0 4 f fd P_law (spLaw K) := by
  refine D.F.ok sc_law (fun vs H Q E h => ?_) (fun cdv A outer s H vs Q E hr h => ?_)
  · obtain ⟨d, ns, rfl, _⟩ := h
    rfl
  · obtain ⟨a, ns, rfl, hS, hl, q⟩ := h
    have nd := sc_law.nd
    have hu : (A.deeper (envOfC "law" (defScope s_law) s.heap.objs.size f cdv)).units + 64 < cLine := by
      have := hr.un
      omega
    refine ⟨_,
    (pss_cons
    (ps_for PassesOwn.never rfl (pi_range1 (by rfl) Z.z_range (pa_cons (pe_callB (call_max2 rfl) (by rfl) Z.z_max (by decide +kernel) (pa_cons pe_int (pa_cons (pe_callB (call_min2 rfl) (by rfl) Z.z_min (by decide +kernel) (pa_cons pe_int (pa_cons (pe_callB call_lenL (by rfl) Z.z_len (by decide +kernel) (pa_cons (pv 0) pa_nil)) pa_nil))) pa_nil))) pa_nil)) (pg_name (i := 1) nd rfl (Or.inl rfl))
      (pss_cons
      (ps_set (i := 2) nd rfl (Or.inl rfl) (pe_call D_dice.ok (hr.mono (by decide)) (by rfl) D_dice.g D_dice.kp D_dice.b .nil pass0 (pa_cons (pv 0) (pa_cons (pv 1) pa_nil))))
      (pss_one
      (ps_for PassesOwn.never rfl (pi_range1 (by rfl) Z.z_range (pa_cons pe_int pa_nil)) (pg_name (i := 3) nd rfl (Or.inl rfl))
        (pss_one
        (ps_if (pt_not (pt_val (pe_call D_right.ok (hr.mono (by decide)) (by rfl) D_right.g D_right.kp D_right.b .nil pass0 (pa_cons (pv 2) pa_nil))))
          (pss_one
          (ps_ret pe_bl))
          pss_nil))))))
    (pss_cons
    (ps_set (i := 4) nd rfl (Or.inl rfl) (pe_lst (pa_cons pe_non (pa_cons pe_bl (pa_cons pe_bl (pa_cons pe_str (pa_cons pe_str (pa_cons (pe_tup pa_nil) (pa_cons (pe_tup (pa_cons pe_int pa_nil)) (pa_cons (pe_lst pa_nil) (pa_cons pe_dnewK (pa_cons (pe_un un_neg pe_int) pa_nil))))))))))))
    (pss_one
    (ps_ret (pe_and (pe_call D_mark.ok (hr.mono (by decide)) (by rfl) D_mark.g D_mark.kp D_mark.b .nil pass0 (pa_cons pe_int pa_nil)) (pe_and (pe_cmpR (op_eqD hu) (pe_lc (own := [("_law_one", 5)]) (g := gName 5) rfl nd (pi_list (pv 4)) (blkOk_by (N := N_law) (sc := defScope s_law) (by decide +kernel)) (fun _ _ _ _ _ => (pg_name (i := 5) nd rfl (Or.inl rfl))) (fun _ _ _ _ _ => (pts_one (pt_cmpR op_notBl (pe_call D_mark.ok (hr.mono (by decide)) (by rfl) D_mark.g D_mark.kp D_mark.b .nil pass0 (pa_cons (pv 5) pa_nil)) pe_bl (nomark _)))) (fun _ _ _ _ _ => (pv 5))) (pe_lst pa_nil) (nomark _)) (pe_and (pe_call D_nameS.ok (hr.mono (by decide)) (by rfl) D_nameS.g D_nameS.kp D_nameS.b .nil pass0 (pa_cons pe_str pa_nil)) (pe_one (pe_call D_nameS.ok (hr.mono (by decide)) (by rfl) D_nameS.g D_nameS.kp D_nameS.b .nil pass0 (pa_cons (pe_op op_mul_str pe_str pe_int) pa_nil)))))))))), ?_⟩
    refine ⟨_, rfl, a, _, rfl, hS, _, _, rfl, _, _, rfl, ?_⟩
    rw [List.length_map]
    generalize hn : (if (if (ns.length : Int) < 9 then (ns.length : Int) else 9) > 1 then (if (ns.length : Int) < 9 then (ns.length : Int) else 9) else 1) = n
    have n0 : 0 ≤ n ∧ n ≤ 9 := by
      rw [← hn]
      split <;> (try split) <;> omega
    refine ⟨n, rfl, by omega, by omega, ?_⟩
    refine for_range (lo := 0) (n := n.toNat) (fun i σ' H' => Same H H' ∧ ∃ x1 x2 x3, σ' = [some (.ref a), x1, x2, x3, none, none]) ⟨Same.refl H, none, none, none, rfl⟩ (fun i σ' H1 hi hP => ?_) (fun σ' H1 hP => ?_)
    · obtain ⟨s1, x1, x2, x3, rfl⟩ := hP
      refine asgS (fun v H2 => Same H1 H2 ∧ ∃ d, v = .ref d ∧ H1 d = none ∧ Dice H2 d) (fun Q' q' => ?_) (fun v H2 hv => ?_)
      · refine ⟨_, rfl, _, rfl, a, ns, i, by simp, s1.seq hS, hl, by omega, fun H2 d s2 nd' D2 => q' _ _ ⟨s2, d, rfl, nd', D2⟩⟩
      obtain ⟨s2, d, rfl, nd2, D2⟩ := hv
      refine ⟨3, rfl, by decide, by decide, ?_⟩
      refine for_range (lo := 0) (n := 3) (fun i' σ' H' => Chg d H2 H' ∧ Dice H' d ∧ ∃ x3, σ' = [some (.ref a), some (.int (0 + i)), some (.ref d), x3, none, none]) ⟨Chg.refl d H2, D2, _, rfl⟩ (fun i' σ' H3 hi' hP => ?_) (fun σ' H3 hP => ?_)
      · obtain ⟨c3, D3, y3, rfl⟩ := hP
        refine ⟨_, rfl, d, rfl, D3, fun H4 c4 D4 => ⟨_, rfl, ifF rfl ⟨c3.trans c4, D4, _, rfl⟩⟩⟩
      · obtain ⟨c3, D3, y3, rfl⟩ := hP
        refine ⟨fun b o e => ?_, _, _, _, rfl⟩
        have e1 := s1 _ _ e
        exact c3 _ _ (ne_of_none e1 nd2) (s2 _ _ e1)
    · obtain ⟨s1, x1, x2, x3, rfl⟩ := hP
      dsimp only
      refine asgS (fun v H2 => ∃ p xs, v = .ref p ∧ H2 p = some (.lst xs) ∧ xs.length < 100 ∧ ∀ x ∈ xs, NoMark H2 x) (fun Q' q' => ?_) (fun v H2 hv => ?_)
      · refine ⟨by show 0 ≤ sizeLine; decide, fun p1 m1 => ⟨by show 1 ≤ sizeLine; decide, fun p2 m2 => ⟨by show 0 ≤ sizeLine; decide, fun p3 m3 p4 m4 => ⟨1, rfl, by show 10 ≤ sizeLine; decide, fun p5 m5 => ?_⟩⟩⟩⟩
        have t5 := same_new (o := .lst [V.non, .bl true, .bl false, .str (Str.ofString ""), .str (Str.ofString "0"), .ref p1, .ref p2, .ref p3, .ref p4, .int (-1)]) m5
        have t4 := (same_new (o := .dK []) m4).trans t5
        have t3 := (same_new (o := .lst []) m3).trans t4
        have t2 := (same_new (o := .tup [V.int 0]) m2).trans t3
        refine q' _ _ ⟨p5, _, rfl, upd_same, by show 10 < 100; decide, fun x hx => ?_⟩
        simp only [List.mem_cons, List.not_mem_nil, or_false] at hx
        rcases hx with h | h | h | h | h | h | h | h | h | h <;> subst h
        · exact .inr (.inr (.inr (.inl rfl)))
        · exact .inr (.inl ⟨_, rfl⟩)
        · exact .inr (.inl ⟨_, rfl⟩)
        · exact .inr (.inr (.inl ⟨_, rfl⟩))
        · exact .inr (.inr (.inl ⟨_, rfl⟩))
        · exact .inr (.inr (.inr (.inr ⟨_, rfl, .inr (.inl ⟨_, t2 _ _ upd_same⟩)⟩)))
        · exact .inr (.inr (.inr (.inr ⟨_, rfl, .inr (.inl ⟨_, t3 _ _ upd_same⟩)⟩)))
        · exact .inr (.inr (.inr (.inr ⟨_, rfl, .inl ⟨_, t4 _ _ upd_same⟩⟩)))
        · exact .inr (.inr (.inr (.inr ⟨_, rfl, .inr (.inr ⟨_, t5 _ _ upd_same⟩)⟩)))
        · exact .inl ⟨_, rfl, by decide⟩
      obtain ⟨po, xs, rfl, ho, hxs, hno⟩ := hv
      refine .inl ⟨0, rfl, _, rfl, ifT (by decide) ?_⟩
      refine ⟨.ref po, rfl, po, rfl, ⟨xs, .of ho⟩, fun D9 n9 => lc_list (xs := xs) (fun i Hx => Hx = upd H2 D9 (.lst [])) rfl (fun i Hx _ e => ?_) (fun i x Hx hx e => ?_) (fun Hx e => ?_)⟩
      · rw [e]
        exact .of (same_new n9 _ _ ho)
      · subst e
        have hn' := hno x (List.mem_of_getElem? hx)
        have hk : NoMark (upd H2 D9 (.lst [])) x := by
          rcases hn' with h | h | h | h | ⟨p, e, h⟩
          · exact .inl h
          · exact .inr (.inl h)
          · exact .inr (.inr (.inl h))
          · exact .inr (.inr (.inr (.inl h)))
          · refine .inr (.inr (.inr (.inr ⟨p, e, ?_⟩)))
            rcases h with ⟨_, h⟩ | ⟨_, h⟩ | ⟨_, h⟩
            · exact .inl ⟨_, same_new n9 _ _ h⟩
            · exact .inr (.inl ⟨_, same_new n9 _ _ h⟩)
            · exact .inr (.inr ⟨_, same_new n9 _ _ h⟩)
        exact ⟨rfl, x, rfl, hk.go ⟨_, _, rfl, rfl, _, rfl, ifF rfl rfl⟩⟩
      · subst e
        refine ⟨by show 0 ≤ sizeLine; decide, fun a5 m5 => ⟨.list [], .list [], .lst (.of (same_new m5 _ _ upd_same)) .nil, .lst (.of upd_same) .nil, by decide +kernel, by decide +kernel, _, rfl, ifT (by decide +kernel) ?_⟩⟩
        refine ⟨_, rfl, by decide +kernel, fun H6 s6 => ⟨_, rfl, ifT (by decide +kernel) ?_⟩⟩
        refine ⟨_, _, rfl, rfl, by decide +kernel, timesS "z" 8, rfl, by decide +kernel, fun H7 s7 => ?_⟩
        have e : nameB (timesS "z" 8) = true := by decide +kernel
        rw [e]
        exact q H7
end
/-! ### what the top has written -/
theorem all_mk {l : PySem.W.OpenLaw} {w : World} {K : PySem.W.Frag} {h : Heap} {mg : Str → Option Value} {fa : Addr} (X : K.In h) (G : h.Ns mainGlobals mg) (hfa : mg "law" = some (.ref fa)) {t8 : Tok} {f_is_whole : Addr} {od_is_whole an_is_whole : Option Addr} {sl_is_whole : Array (Option Value)} {oc_is_whole kV_is_whole dc_is_whole pm_is_whole cd_is_whole ct_is_whole : Value} {f_is_name : Addr} {od_is_name an_is_name : Option Addr} {sl_is_name : Array (Option Value)} {oc_is_name kV_is_name dc_is_name pm_is_name cd_is_name ct_is_name : Value} {f_is_mark : Addr} {od_is_mark an_is_mark : Option Addr} {sl_is_mark : Array (Option Value)} {oc_is_mark kV_is_mark dc_is_mark pm_is_mark cd_is_mark ct_is_mark : Value} {f_dice : Addr} {od_dice an_dice : Option Addr} {sl_dice : Array (Option Value)} {oc_dice kV_dice dc_dice pm_dice cd_dice ct_dice : Value} {f_roll : Addr} {od_roll an_roll : Option Addr} {sl_roll : Array (Option Value)} {oc_roll kV_roll dc_roll pm_roll cd_roll ct_roll : Value} {f_one_of : Addr} {od_one_of an_one_of : Option Addr} {sl_one_of : Array (Option Value)} {oc_one_of kV_one_of dc_one_of pm_one_of cd_one_of ct_one_of : Value} {f_right : Addr} {od_right an_right : Option Addr} {sl_right : Array (Option Value)} {oc_right kV_right dc_right pm_right cd_right ct_right : Value} {f_law : Addr} {od_law an_law : Option Addr} {sl_law : Array (Option Value)} {oc_law kV_law dc_law pm_law cd_law ct_law : Value}
    (a_is_whole : PySem.W.nsIn K mainGlobals "is_whole" = some (some (.ref f_is_whole))) (l_is_whole : K.lookup f_is_whole = some ⟨oc_is_whole, od_is_whole, .func (PySem.W.fnOf "is_whole" "is_whole" (defArgs s_is_whole) (defBody s_is_whole) (defScope s_is_whole) .none kV_is_whole dc_is_whole pm_is_whole an_is_whole cd_is_whole ct_is_whole), sl_is_whole⟩) (c_is_whole : PySem.W.codeIn K cd_is_whole "is_whole" = true) (k_is_whole : PySem.W.keepIn K (.ref f_is_whole) = true)
    (a_is_name : PySem.W.nsIn K mainGlobals "is_name" = some (some (.ref f_is_name))) (l_is_name : K.lookup f_is_name = some ⟨oc_is_name, od_is_name, .func (PySem.W.fnOf "is_name" "is_name" (defArgs s_is_name) (defBody s_is_name) (defScope s_is_name) .none kV_is_name dc_is_name pm_is_name an_is_name cd_is_name ct_is_name), sl_is_name⟩) (c_is_name : PySem.W.codeIn K cd_is_name "is_name" = true) (k_is_name : PySem.W.keepIn K (.ref f_is_name) = true)
    (a_is_mark : PySem.W.nsIn K mainGlobals "is_mark" = some (some (.ref f_is_mark))) (l_is_mark : K.lookup f_is_mark = some ⟨oc_is_mark, od_is_mark, .func (PySem.W.fnOf "is_mark" "is_mark" (defArgs s_is_mark) (defBody s_is_mark) (defScope s_is_mark) .none kV_is_mark dc_is_mark pm_is_mark an_is_mark cd_is_mark ct_is_mark), sl_is_mark⟩) (c_is_mark : PySem.W.codeIn K cd_is_mark "is_mark" = true) (k_is_mark : PySem.W.keepIn K (.ref f_is_mark) = true)
    (a_dice : PySem.W.nsIn K mainGlobals "_law_dice" = some (some (.ref f_dice))) (l_dice : K.lookup f_dice = some ⟨oc_dice, od_dice, .func (PySem.W.fnOf "_law_dice" "_law_dice" (defArgs s_dice) (defBody s_dice) (defScope s_dice) .none kV_dice dc_dice pm_dice an_dice cd_dice ct_dice), sl_dice⟩) (c_dice : PySem.W.codeIn K cd_dice "_law_dice" = true) (k_dice : PySem.W.keepIn K (.ref f_dice) = true)
    (a_roll : PySem.W.nsIn K mainGlobals "_law_roll" = some (some (.ref f_roll))) (l_roll : K.lookup f_roll = some ⟨oc_roll, od_roll, .func (PySem.W.fnOf "_law_roll" "_law_roll" (defArgs s_roll) (defBody s_roll) (defScope s_roll) .none kV_roll dc_roll pm_roll an_roll cd_roll ct_roll), sl_roll⟩) (c_roll : PySem.W.codeIn K cd_roll "_law_roll" = true) (k_roll : PySem.W.keepIn K (.ref f_roll) = true)
    (a_one_of : PySem.W.nsIn K mainGlobals "_law_one_of" = some (some (.ref f_one_of))) (l_one_of : K.lookup f_one_of = some ⟨oc_one_of, od_one_of, .func (PySem.W.fnOf "_law_one_of" "_law_one_of" (defArgs s_one_of) (defBody s_one_of) (defScope s_one_of) .none kV_one_of dc_one_of pm_one_of an_one_of cd_one_of ct_one_of), sl_one_of⟩) (c_one_of : PySem.W.codeIn K cd_one_of "_law_one_of" = true) (k_one_of : PySem.W.keepIn K (.ref f_one_of) = true)
    (a_right : PySem.W.nsIn K mainGlobals "_law_right" = some (some (.ref f_right))) (l_right : K.lookup f_right = some ⟨oc_right, od_right, .func (PySem.W.fnOf "_law_right" "_law_right" (defArgs s_right) (defBody s_right) (defScope s_right) .none kV_right dc_right pm_right an_right cd_right ct_right), sl_right⟩) (c_right : PySem.W.codeIn K cd_right "_law_right" = true) (k_right : PySem.W.keepIn K (.ref f_right) = true)
    (a_law : PySem.W.nsIn K mainGlobals "law" = some (some (.ref f_law))) (l_law : K.lookup f_law = some ⟨oc_law, od_law, .func (PySem.W.fnOf "law" "law" (defArgs s_law) (defBody s_law) (defScope s_law) .none kV_law dc_law pm_law an_law cd_law ct_law), sl_law⟩) (c_law : PySem.W.codeIn K cd_law "law" = true) (k_law : PySem.W.keepIn K (.ref f_law) = true)
    (z_len : PySem.W.nsIn K mainGlobals "len" = some none) (z_int : PySem.W.nsIn K mainGlobals "int" = some none) (z_abs : PySem.W.nsIn K mainGlobals "abs" = some none) (z_max : PySem.W.nsIn K mainGlobals "max" = some none) (z_min : PySem.W.nsIn K mainGlobals "min" = some none) (z_range : PySem.W.nsIn K mainGlobals "range" = some none) (z_all : PySem.W.nsIn K mainGlobals "all" = some none) (z_isinstance : PySem.W.nsIn K mainGlobals "isinstance" = some none) (z_str : PySem.W.nsIn K mainGlobals "str" = some none) (z_repr : PySem.W.nsIn K mainGlobals "repr" = some none) (z_bool : PySem.W.nsIn K mainGlobals "bool" = some none) (g8 : PySem.W.nsIn K mainGlobals "MAX_NAME" = some (some (.int 8 t8))) :
    ∃ fd : FuncData, (∀ (s : Shared) (v : Value), BindsTo s fd ⟨[v], []⟩ [("_law_script", v)]) ∧ ∀ base : Heap, K.In base → base.Ns mainGlobals mg → FnOk l.prog w K mg base CX0 4 fa fd P_law (spLaw K) := by
  have e := hfa.symm.trans (PySem.W.mg_of X G a_law)
  cases e
  have Z : Zs mg := ⟨PySem.W.mg_none_of X G z_len, PySem.W.mg_none_of X G z_int, PySem.W.mg_none_of X G z_abs, PySem.W.mg_none_of X G z_max, PySem.W.mg_none_of X G z_min, PySem.W.mg_none_of X G z_range, PySem.W.mg_none_of X G z_all, PySem.W.mg_none_of X G z_isinstance, PySem.W.mg_none_of X G z_str, PySem.W.mg_none_of X G z_repr, PySem.W.mg_none_of X G z_bool, _, PySem.W.mg_of X G g8⟩
  have F_is_whole := fun_mk (st := s_is_whole) l_is_whole c_is_whole k_is_whole
  have D_is_whole : Df K mg "is_whole" s_is_whole P_is_whole f_is_whole _ := ⟨F_is_whole, F_is_whole.binds (ps := P_is_whole) fun _ _ _ _ _ _ us hl => match us, hl with | [_], _ => rfl, PySem.W.mg_of X G a_is_whole⟩
  have F_is_name := fun_mk (st := s_is_name) l_is_name c_is_name k_is_name
  have D_is_name : Df K mg "is_name" s_is_name P_is_name f_is_name _ := ⟨F_is_name, F_is_name.binds (ps := P_is_name) fun _ _ _ _ _ _ us hl => match us, hl with | [_], _ => rfl, PySem.W.mg_of X G a_is_name⟩
  have F_is_mark := fun_mk (st := s_is_mark) l_is_mark c_is_mark k_is_mark
  have D_is_mark : Df K mg "is_mark" s_is_mark P_is_mark f_is_mark _ := ⟨F_is_mark, F_is_mark.binds (ps := P_is_mark) fun _ _ _ _ _ _ us hl => match us, hl with | [_], _ => rfl, PySem.W.mg_of X G a_is_mark⟩
  have F_dice := fun_mk (st := s_dice) l_dice c_dice k_dice
  have D_dice : Df K mg "_law_dice" s_dice P_dice f_dice _ := ⟨F_dice, F_dice.binds (ps := P_dice) fun _ _ _ _ _ _ us hl => match us, hl with | [_, _], _ => rfl, PySem.W.mg_of X G a_dice⟩
  have F_roll := fun_mk (st := s_roll) l_roll c_roll k_roll
  have D_roll : Df K mg "_law_roll" s_roll P_roll f_roll _ := ⟨F_roll, F_roll.binds (ps := P_roll) fun _ _ _ _ _ _ us hl => match us, hl with | [_, _], _ => rfl, PySem.W.mg_of X G a_roll⟩
  have F_one_of := fun_mk (st := s_one_of) l_one_of c_one_of k_one_of
  have D_one_of : Df K mg "_law_one_of" s_one_of P_one_of f_one_of _ := ⟨F_one_of, F_one_of.binds (ps := P_one_of) fun _ _ _ _ _ _ us hl => match us, hl with | [_, _], _ => rfl, PySem.W.mg_of X G a_one_of⟩
  have F_right := fun_mk (st := s_right) l_right c_right k_right
  have D_right : Df K mg "_law_right" s_right P_right f_right _ := ⟨F_right, F_right.binds (ps := P_right) fun _ _ _ _ _ _ us hl => match us, hl with | [_], _ => rfl, PySem.W.mg_of X G a_right⟩
  have F_law := fun_mk (st := s_law) l_law c_law k_law
  have D_law : Df K mg "law" s_law P_law fa _ := ⟨F_law, F_law.binds (ps := P_law) fun _ _ _ _ _ _ us hl => match us, hl with | [_], _ => rfl, PySem.W.mg_of X G a_law⟩
  refine ⟨PySem.W.fnOf "law" "law" (defArgs s_law) (defBody s_law) (defScope s_law) .none kV_law dc_law pm_law an_law cd_law ct_law, fun s v => .of_eq rfl, fun base _ _ => ?_⟩
  have C_whole := D_is_whole.cl (P := l.prog) (w := w) (base := base) (ok_whole Z D_is_whole)
  have C_roll := D_roll.cl (P := l.prog) (w := w) (base := base) (ok_roll Z D_roll)
  have C_markI := D_is_mark.cl (P := l.prog) (w := w) (base := base) (ok_markI Z D_is_mark C_whole)
  have C_markN := D_is_mark.cl (P := l.prog) (w := w) (base := base) (ok_markN Z D_is_mark C_whole)
  have C_right := D_right.cl (P := l.prog) (w := w) (base := base) (ok_right Z D_right C_roll (D_one_of.cl (ok_oneS Z D_one_of C_roll)) (D_one_of.cl (ok_oneL Z D_one_of C_roll)) (D_is_name.cl (ok_nameS Z D_is_name)) (D_is_name.cl (ok_nameN Z D_is_name)) C_markI C_markN)
  exact ok_law Z D_law (D_dice.cl (ok_dice Z D_dice)) C_right (D_is_name.cl (ok_nameS Z D_is_name)) (D_is_mark.cl (or_ok C_markI.ok C_markN.ok))
end K01
open PySem PySem.W PyProof.Rows
set_option maxHeartbeats 0 in
theorem PySem.Challenge.cw_namedabove_k01_names_and_marks_holds : PySem.Challenge.rw_namedabove_k01_names_and_marks.Holds := by
  w_on; o_law; k_head; (case hw => w_witness2)
  k_fill
  refine L2.walk_of (l := PySem.Challenge.rw_namedabove_k01_names_and_marks) (n := 63) (k := 4) (x := "_law_script") (CX := fun _ => L2.CX0) (sp := fun w => K01.spLaw _) rfl (by decide) rfl ⟨rfl, by decide, by decide⟩ (fun w h Y => PySem.W.kIn_of Y) ?F (fun _ _ a ns hl _ hS => ⟨a, ns, rfl, hS, hl, fun _ => rfl⟩) (fun _ _ _ _ _ h => h)
  case F =>
    intro w mg fa h KX G hmg
    refine' K01.all_mk KX G hmg ?a_is_whole ?l_is_whole ?c_is_whole ?k_is_whole ?a_is_name ?l_is_name ?c_is_name ?k_is_name ?a_is_mark ?l_is_mark ?c_is_mark ?k_is_mark ?a_dice ?l_dice ?c_dice ?k_dice ?a_roll ?l_roll ?c_roll ?k_roll ?a_one_of ?l_one_of ?c_one_of ?k_one_of ?a_right ?l_right ?c_right ?k_right ?a_law ?l_law ?c_law ?k_law ?z_len ?z_int ?z_abs ?z_max ?z_min ?z_range ?z_all ?z_isinstance ?z_str ?z_repr ?z_bool ?g8
    (case a_is_whole => k_is); (case l_is_whole => k_is); (case c_is_whole => k_is); (case k_is_whole => k_is); (case a_is_name => k_is); (case l_is_name => k_is); (case c_is_name => k_is); (case k_is_name => k_is); (case a_is_mark => k_is); (case l_is_mark => k_is); (case c_is_mark => k_is); (case k_is_mark => k_is); (case a_dice => k_is); (case l_dice => k_is); (case c_dice => k_is); (case k_dice => k_is); (case a_roll => k_is); (case l_roll => k_is); (case c_roll => k_is); (case k_roll => k_is); (case a_one_of => k_is); (case l_one_of => k_is); (case c_one_of => k_is); (case k_one_of => k_is); (case a_right => k_is); (case l_right => k_is); (case c_right => k_is); (case k_right => k_is); (case a_law => k_is); (case l_law => k_is); (case c_law => k_is); (case k_law => k_is); (case z_len => k_is); (case z_int => k_is); (case z_abs => k_is); (case z_max => k_is); (case z_min => k_is); (case z_range => k_is); (case z_all => k_is); (case z_isinstance => k_is); (case z_str => k_is); (case z_repr => k_is); (case z_bool => k_is); (case g8 => k_is)
