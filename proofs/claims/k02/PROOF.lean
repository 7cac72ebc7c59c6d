import PyProof.Rows.All
import Wide.All
import OpenK.AllK
import Wide.FinOn
import HandS.ForMost
import HandS.IsInst
import HandS.Style
import HandS.Wide
import HandS.Star
import HandS.Property
import HandS.ClsMeth
import HandS.OwnEq
import HandS.Conv
import KE.GoesEnum
import HandS.RaiseMore
import HandS.Flow
import HandS.TryOnly
import PySem.Challenge.RW_namedabove_k02_cutters_and_kept_places
set_option Elab.async false
set_option linter.all false
set_option maxRecDepth 100000
set_option maxHeartbeats 4000000
/-! own layer: flat rules, what a list of three numbers keeps -/
namespace Ly
open PySem PySem.Spec PyProof.Rows L2

/-- all but d stands -/
def Chg (d : Addr) (H H' : Hp) : Prop := ∀ x o, x ≠ d → H x = some o → H' x = some o
theorem Chg.refl (d : Addr) (H : Hp) : Chg d H H := fun _ _ _ h => h
theorem Chg.trans {d : Addr} {H H1 H2 : Hp} (a : Chg d H H1) (b : Chg d H1 H2) : Chg d H H2 := fun x o n h => b x o n (a x o n h)
theorem Chg.of {d : Addr} {H H' : Hp} (s : Same H H') : Chg d H H' := fun x o _ h => s x o h
theorem Chg.upd {d : Addr} {H H' : Hp} {o : HO} (c : Chg d H H') : Chg d H (upd H' d o) := fun x u n h => by
  rw [upd_ne n]
  exact c x u n h
theorem same_new {H : Hp} {p : Addr} {o : HO} (h : H p = none) : Same H (upd H p o) := fun b x e => by
  rw [upd_ne (ne_of_none e h)]
  exact e
theorem Chg.new {d p : Addr} {H H' : Hp} {o : HO} (c : Chg d H H') (h : H' p = none) : Chg d H (L2.upd H' p o) := c.trans (.of (same_new h))

/-! ### rules with flat readings -/
section
variable {X : Cx}
theorem call_intI : CallR X (.type "int") (fun xs H Q => ∃ i, xs = [.int i] ∧ Q (.int i) H) := fun pins s σ H xs us Q I r ⟨i, e, q⟩ => call_int1 pins s σ H xs us Q I r (.inl ⟨i, e, q⟩)
theorem call_intB : CallR X (.type "int") (fun xs H Q => ∃ b : Bool, xs = [.bl b] ∧ Q (.int (if b then 1 else 0)) H) := fun pins s σ H xs us Q I r ⟨i, e, q⟩ => call_int1 pins s σ H xs us Q I r (.inr ⟨i, e, q⟩)
theorem call_lenL : CallR X (.builtin "len") (fun xs H Q => ∃ p ys, xs = [.ref p] ∧ SqL X.K H p ys ∧ Q (.int ys.length) H) := fun pins s σ H xs us Q I r ⟨p, ys, e, h, q⟩ => call_len_seq pins s σ H xs us Q I r ⟨p, ys, e, .inl h, q⟩
theorem call_lenT : CallR X (.builtin "len") (fun xs H Q => ∃ p ys, xs = [.ref p] ∧ SqT X.K H p ys ∧ Q (.int ys.length) H) := fun pins s σ H xs us Q I r ⟨p, ys, e, h, q⟩ => call_len_seq pins s σ H xs us Q I r ⟨p, ys, e, .inr h, q⟩
/-- powers of great numbers -/
def CPw (i j : Int) : Prop := 0 ≤ j ∧ (Builtin.Int.intBits i : Int) * j ≤ 2 ^ 27
theorem op_powW : OpR X (binaryOp .Pow) (rI CPw fun i j => .int (i ^ j.toNat)) := opI fun _ _ _ _ _ _ _ hc q => pow_int hc.1 hc.2 q
theorem call_reprB : CallR X (.builtin "repr") (fun xs H Q => ∃ b : Bool, xs = [.bl b] ∧ Q (.str (if b then "True" else "False")) H) := by
  intro pins s σ H xs us Q I r h
  obtain ⟨b, rfl, q⟩ := h
  obtain ⟨u, rfl, r1⟩ := vals1 r
  cases r1
  exact PySem.P.repr_of_bool ⟨.str (if b then "True" else "False"), H, I.tok _, ⟨_, rfl⟩, q⟩
end

/-! ### the three numbers of the dice -/
structure DB (a b c : Int) : Prop where
  a0 : 0 ≤ a
  aB : a.natAbs < 2 ^ 2000
  b0 : 0 ≤ b
  b1 : b < 2305843009213693951
  c0 : 0 ≤ c
def Dice (H : Hp) (d : Addr) : Prop := ∃ a b c : Int, H d = some (.lst [.int a, .int b, .int c]) ∧ DB a b c
theorem Dice.keep {H H' : Hp} {d : Addr} (s : Same H H') (h : Dice H d) : Dice H' d := by
  obtain ⟨a, b, c, e, D⟩ := h
  exact ⟨a, b, c, s _ _ e, D⟩
theorem Dice.chg {H H' : Hp} {d p : Addr} (s : Chg p H H') (n : d ≠ p) (h : Dice H d) : Dice H' d := by
  obtain ⟨a, b, c, e, D⟩ := h
  exact ⟨a, b, c, s _ _ n e, D⟩
theorem great_ok (x : Int) : 0 ≤ x % ((10 : Int) ^ (60 : Int).toNat) ^ (10 : Int).toNat ∧ (x % ((10 : Int) ^ (60 : Int).toNat) ^ (10 : Int).toNat).natAbs < 2 ^ 2000 := by
  have p : (0 : Int) < ((10 : Int) ^ (60 : Int).toNat) ^ (10 : Int).toNat := by decide +kernel
  have h0 := Int.emod_nonneg x (Int.ne_of_gt p)
  have h1 := Int.emod_lt_of_pos x p
  refine ⟨h0, ?_⟩
  have q : ((10 : Int) ^ (60 : Int).toNat) ^ (10 : Int).toNat < ((2 ^ 2000 : Nat) : Int) := by decide +kernel
  generalize ((10 : Int) ^ (60 : Int).toNat) ^ (10 : Int).toNat = m at *
  generalize (2 ^ 2000 : Nat) = n at *
  omega
theorem less_ok {x y : Int} (hx : 0 ≤ x) (hb : x.natAbs < 2 ^ 2000) (hy : 0 ≤ y) (h : y ≤ x) : y.natAbs < 2 ^ 2000 := by
  generalize (2 ^ 2000 : Nat) = n at *
  omega

/-! ### promises -/
def spDice (K : PySem.W.Frag) : Sp := fun vs H Q _ => ∃ (a : Addr) (ns : List Int) (k : Nat), vs = [.ref a, .int k] ∧ SqL K H a (ns.map V.int) ∧ ns.length ≤ 63 ∧ k < 64 ∧
  ∀ H' p, Same H H' → H p = none → Dice H' p → Q (.ref p) H'
def spRoll : Sp := fun vs H Q _ => ∃ (d : Addr) (n : Int), vs = [.ref d, .int n] ∧ Dice H d ∧ 0 < n ∧ n < 2 ^ 200 ∧ ∀ H' r, Chg d H H' → Dice H' d → 0 ≤ r → r < n → Q (.int r) H'
/-- an item of a list, or a sign of a text -/
def spOneL (K : PySem.W.Frag) : Sp := fun vs H Q _ => ∃ (d a : Addr) (xs : List V), vs = [.ref d, .ref a] ∧ Dice H d ∧ a ≠ d ∧ SqL K H a xs ∧ 0 < xs.length ∧ xs.length < 1000 ∧
  ∀ H' x, Chg d H H' → Dice H' d → x ∈ xs → Q x H'
def spOneS : Sp := fun vs H Q _ => ∃ (d : Addr) (z : Str), vs = [.ref d, .str z] ∧ Dice H d ∧ 0 < z.length ∧ z.length < 1000 ∧
  ∀ H' c, Chg d H H' → Dice H' d → c ∈ z.cps.toList → Q (.str ⟨#[c]⟩) H'
theorem Chg.seq {K : PySem.W.Frag} {H H' : Hp} {d a : Addr} {xs : List V} (e : Chg d H H') (n : a ≠ d) (h : SqL K H a xs) : SqL K H' a xs := by
  rcases h with (h | ⟨o, h⟩) | h
  · exact .inl (.inl (e _ _ n h))
  · exact .inl (.inr ⟨o, e _ _ n h⟩)
  · exact .inr h
end Ly
namespace Ly
open PySem PySem.Spec PyProof.Rows L2
/-- a value with its heap, told by P alone -/
theorem cutE {te : TE} {σ : L2.St} {H : Hp} {Q : VK} (P : V → Hp → Prop) (h : ∀ Q' : VK, (∀ v H', P v H' → Q' v H') → te σ H Q') (k : ∀ v H', P v H' → Q v H') : te σ H Q := h Q k
theorem cutT {te : TT} {σ : L2.St} {H : Hp} {Q : Bool → Hp → Prop} (P : Bool → Hp → Prop) (h : ∀ Q' : Bool → Hp → Prop, (∀ v H', P v H' → Q' v H') → te σ H Q') (k : ∀ v H', P v H' → Q v H') : te σ H Q := h Q k
/-- a def of the top: where it stands, how it is called -/
structure Df (K : PySem.W.Frag) (mg : Str → Option Value) (x : Str) (st : Stmt) (ps : List Str) (f : Addr) (fd : FuncData) : Prop where
  F : Fun K x x st f fd
  b : Binds K fd ps []
  g : mg x = some (.ref f)
theorem Df.kp {K : PySem.W.Frag} {mg : Str → Option Value} {x : Str} {st : Stmt} {ps : List Str} {f : Addr} {fd : FuncData} (D : Df K mg x st ps f fd) : PySem.W.keepIn K (.ref f) = true := D.F.kp
end Ly
namespace Ly
open PySem PySem.Spec PyProof.Rows L2
/-- x = e, its value told by P alone -/
theorem asgS {te : TE} {i : Nat} {t : TS} {D : Ends} {σ : L2.St} {H : Hp} (P : V → Hp → Prop) (h : ∀ Q' : VK, (∀ v H', P v H' → Q' v H') → te σ H Q') (k : ∀ v H', P v H' → t D (σ.set i (some v)) H') : tSeq (tAsg te (gName i)) t D σ H := h _ k
/-- if c: .. told by what holds of the test -/
theorem cutR {te : TE} {D : Ends} {σ : L2.St} {H : Hp} (P : V → Hp → Prop) (h : ∀ Q' : VK, (∀ v H', P v H' → Q' v H') → te σ H Q') (k : ∀ v H', P v H' → D.rt v H') : tRet te D σ H := h _ k
end Ly
namespace Ly
open PySem PySem.Spec PyProof.Rows L2
structure Cl (P : Program) (w : World) (K : PySem.W.Frag) (mg : Str → Option Value) (base : Heap) (x : Str) (k : Nat) (f : Addr) (fd : FuncData) (ps : List Str) (sp : Sp) : Prop where
  ok : FnOk P w K mg base CX0 k f fd ps sp
  g : mg x = some (.ref f)
  kp : PySem.W.keepIn K (.ref f) = true
  b : Binds K fd ps []
theorem Df.cl {P : Program} {w : World} {K : PySem.W.Frag} {mg : Str → Option Value} {base : Heap} {x : Str} {k : Nat} {st : Stmt} {ps : List Str} {f : Addr} {fd : FuncData} {sp : Sp} (D : Df K mg x st ps f fd) (o : FnOk P w K mg base CX0 k f fd ps sp) : Cl P w K mg base x k f fd ps sp := ⟨o, D.g, D.kp, D.b⟩
/-! ### texts of signs -/
theorem str_len (z : Str) : z.cps.toList.length = z.length := by
  show z.cps.toList.length = z.cps.size
  simp
theorem sz1000 {n : Nat} (h : n < 1000) : n ≤ sizeLine := Nat.le_of_lt (small1000 (Nat.le_of_lt h))
/-- the built-in class of a value's type, asked -/
def TyB (K : PySem.W.Frag) (H : Hp) (x : V) (t : String) : Prop := TyX K H x (.type t)
end Ly
namespace Ly
open PySem PySem.Spec PyProof.Rows L2
theorem at_nat {α : Type} {xs : List α} {i : Int} {v : α} (h0 : 0 ≤ i) (h : xs[i.toNat]? = some v) : atI xs i = some v := by
  have e := atI_nat h
  rwa [Int.toNat_of_nonneg h0] at e
end Ly
namespace Ly
open PySem PySem.Spec PyProof.Rows L2
/-- what a comprehension's loop asks of its turns -/
abbrev LcW (J : It) (g : TG) (tt : TT) (te : TE) (vs : List Nat) (σ : L2.St) (H1 : Hp) (D : Addr) (Qd : Hp → Prop) : Prop :=
  ∃ W : Nat → Nat → Hp → Prop, (∃ m, W 0 m (upd H1 D (.lst []))) ∧ (∀ i m H, W i m H → (J.stop i H ∧ Qd H) ∨ (J.go i H ∧ ∃ Nx : Hp → Prop,
    (∀ H', Nx H' → ∃ m', m' < m ∧ W (i + 1) m' H') ∧ (∀ x H', J.yld i H x H' → g x (wipe σ vs) H' fun σ2 H2 => wipe σ2 vs = wipe σ vs ∧
      tt σ2 H2 fun b H3 => if b = true then te σ2 H3 fun y H4 => ∃ acc, H4 D = some (.lst acc) ∧ acc.length < sizeLine ∧ Nx (upd H4 D (.lst (acc ++ [y]))) else Nx H3)))
theorem lc_gen {J : It} {n : Nat} {g : TG} {tt : TT} {te : TE} {vs : List Nat} {σ : L2.St} {H1 : Hp} {D : Addr} {Qd : Hp → Prop} (Pv : Nat → Hp → Prop) (h0 : Pv 0 (upd H1 D (.lst [])))
    (hgo : ∀ i H, i < n → Pv i H → J.go i H) (hst : ∀ H, Pv n H → J.stop n H)
    (hs : ∀ i x H H', i < n → Pv i H → J.yld i H x H' → g x (wipe σ vs) H' fun σ2 H2 => wipe σ2 vs = wipe σ vs ∧ tt σ2 H2 fun b H3 => if b = true then
      te σ2 H3 fun y H4 => ∃ acc, H4 D = some (.lst acc) ∧ acc.length < sizeLine ∧ Pv (i + 1) (upd H4 D (.lst (acc ++ [y]))) else Pv (i + 1) H3)
    (hd : ∀ H, Pv n H → Qd H) : LcW J g tt te vs σ H1 D Qd := by
  refine ⟨fun j left H => left + j = n ∧ Pv j H, ⟨n, by omega, h0⟩, ?_⟩
  rintro i m H ⟨em, p⟩
  rcases Nat.lt_or_ge i n with hlt | hge
  · exact .inr ⟨hgo i H hlt p, Pv (i + 1), fun H' p' => ⟨m - 1, by omega, by omega, p'⟩, fun x H' y => hs i x H H' hlt p y⟩
  · have e : i = n := by omega
    subst e
    exact .inl ⟨hst H p, hd H p⟩
/-- one sign against one sign -/
theorem sign_lt (a b : Nat) : decide ((⟨#[a]⟩ : Str).cps.toList < (⟨#[b]⟩ : Str).cps.toList) = decide (a < b) := by
  rw [decide_eq_decide]
  show ([a] : List Nat) < [b] ↔ a < b
  constructor
  · intro h
    rcases (List.cons_lt_cons_iff).mp h with h | ⟨_, h⟩
    · exact h
    · exact absurd h (List.not_lt_nil _)
  · exact fun h => List.cons_lt_cons_iff.mpr (.inl h)
end Ly
namespace Ly
open PySem PySem.Spec PyProof.Rows L2
theorem join_cps : ∀ ys : List Str, (Str.join Str.empty ys).cps.toList = ys.flatMap fun y => y.cps.toList
  | [] => rfl
  | [x] => by
    show x.cps.toList = _
    simp
  | x :: y :: r => by
    have h := join_cps (y :: r)
    show ((x ++ Str.empty ++ Str.join Str.empty (y :: r)) : Str).cps.toList = _
    rw [Str.cps_append, Str.append_empty, Array.toList_append, h]
    rfl
theorem txt_join (ys : List Str) : (Txt.join Str.empty ys).cps.toList = ys.flatMap fun y => y.cps.toList := by
  rw [show Txt.join Str.empty ys = Str.join Str.empty ys from StrLaws.glued_eq_join _ _, join_cps]
theorem app_cps (a b : Str) : (a ++ b).cps.toList = a.cps.toList ++ b.cps.toList := by
  rw [Str.cps_append, Array.toList_append]
theorem app_len (a b : Str) : (a ++ b).length = a.length + b.length := Str.length_append a b
theorem cut_to (z : Str) (k : Nat) (h : k ≤ z.length) : (cutS z none (some (k : Int))).cps.toList = z.cps.toList.take k := by
  unfold cutS
  rw [HT.sIx_none, HT.sIx_nat]
  show (List.take (min k z.length - 0) (z.cps.toList.drop 0)) = _
  rw [Nat.min_eq_left h]
  rfl
theorem cut_from (z : Str) (k : Nat) (h : k ≤ z.length) : (cutS z (some (k : Int)) none).cps.toList = z.cps.toList.drop k := by
  unfold cutS
  rw [HT.sIx_none, HT.sIx_nat, Nat.min_eq_left h]
  show (List.take (z.length - k) (z.cps.toList.drop k)) = _
  refine List.take_of_length_le ?_
  rw [List.length_drop, str_len]
  omega
theorem len_of_cps {z : Str} {l : List Nat} (h : z.cps.toList = l) : z.length = l.length := by
  rw [← h, str_len]
theorem Chg.dice {H H' : Hp} {d : Addr} (c : Chg d H H') {p : Addr} {o : HO} (n : p ≠ d) (h : H p = some o) : H' p = some o := c p o n h
theorem dice_ne {H : Hp} {d p : Addr} (h : Dice H d) (n : H p = none) : d ≠ p := by
  obtain ⟨a, b, c, e, _⟩ := h
  exact ne_of_none e n
theorem Dice.new {H : Hp} {d p : Addr} {o : HO} (h : Dice H d) (n : H p = none) : Dice (L2.upd H p o) d := h.keep (same_new n)
end Ly
namespace Ly
open PySem PySem.Spec PyProof.Rows L2
theorem ifF {c : Bool} {A B : Prop} (h : c = false) (b : B) : if c = true then A else B := by
  subst h
  exact iteF b
theorem ifT {c : Bool} {A B : Prop} (h : c = true) (b : A) : if c = true then A else B := by
  subst h
  exact iteT b
/-- if c: .., not taken -/
theorem ifNo {c : TT} {t r : TS} {D : Ends} {σ : L2.St} {H : Hp} (P : Hp → Prop) (h : ∀ Q' : Bool → Hp → Prop, (∀ H', P H' → Q' false H') → c σ H Q') (k : ∀ H', P H' → r D σ H') : tSeq (tIfS c t tNext) r D σ H :=
  h _ fun H' p => iteF (k H' p)
/-- things that are no text -/
def Odd (H : Hp) (x : V) : Prop := x = .non ∨ (∃ b, x = .bl b) ∨ (∃ i, x = .int i) ∨ ∃ p, x = .ref p ∧ ((∃ xs, H p = some (.lst xs)) ∨ (∃ xs, H p = some (.tup xs)) ∨ ∃ kvs, H p = some (.dK kvs))
theorem Odd.keep {H H' : Hp} {x : V} (s : Same H H') (h : Odd H x) : Odd H' x := by
  rcases h with h | h | h | ⟨p, e, h⟩
  · exact .inl h
  · exact .inr (.inl h)
  · exact .inr (.inr (.inl h))
  · refine .inr (.inr (.inr ⟨p, e, ?_⟩))
    rcases h with ⟨_, h⟩ | ⟨_, h⟩ | ⟨_, h⟩
    · exact .inl ⟨_, s _ _ h⟩
    · exact .inr (.inl ⟨_, s _ _ h⟩)
    · exact .inr (.inr ⟨_, s _ _ h⟩)
theorem Odd.ty {K : PySem.W.Frag} {H : Hp} {x : V} (h : Odd H x) : ∃ t, TyB K H x t ∧ kitB t "str" = some false := by
  rcases h with rfl | ⟨b, rfl⟩ | ⟨i, rfl⟩ | ⟨p, rfl, ⟨_, h⟩ | ⟨_, h⟩ | ⟨_, h⟩⟩
  · exact ⟨"NoneType", .base .non, by decide +kernel⟩
  · exact ⟨"bool", .base (.bl b), by decide +kernel⟩
  · exact ⟨"int", .base (.int i), by decide +kernel⟩
  · exact ⟨"list", .base (.lst h), by decide +kernel⟩
  · exact ⟨"tuple", .base (.tup h), by decide +kernel⟩
  · exact ⟨"dict", .base (.dK h), by decide +kernel⟩
theorem same_new2 {H : Hp} {p : Addr} {o u : HO} (h : H p = none) : Same H (upd (upd H p o) p u) := by
  rw [upd_upd]
  exact same_new h
theorem log_ok {n : Int} (h0 : 0 ≤ n) (h : n < 2 ^ 200) : n.natAbs.log2 < 1920 := by
  have e : (2 : Int) ^ 200 = ((2 ^ 200 : Nat) : Int) := by decide +kernel
  rw [e] at h
  have h2 : n.natAbs < 2 ^ 200 := by
    generalize (2 ^ 200 : Nat) = m at *
    omega
  exact Nat.lt_trans (PySem.Flt.log2_lt_of (by decide) h2) (by decide)
end Ly
namespace Ly
open PySem PySem.Spec PyProof.Rows L2
theorem or_ok {P : Program} {w : World} {K : PySem.W.Frag} {mg : Str → Option Value} {base : Heap} {CX : CXT} {k : Nat} {f : Addr} {fd : FuncData} {ps : List Str} {sp1 sp2 : Sp} (h1 : FnOk P w K mg base CX k f fd ps sp1) (h2 : FnOk P w K mg base CX k f fd ps sp2) :
    FnOk P w K mg base CX k f fd ps (fun vs H Q E => sp1 vs H Q E ∨ sp2 vs H Q E) :=
  ⟨fun vs H Q E h => h.elim (h1.len vs H Q E) (h2.len vs H Q E), fun A outer s H args us vs Q E hr e0 hb hv hs => hs.elim (h1.run A outer s H args us vs Q E hr e0 hb hv) (h2.run A outer s H args us vs Q E hr e0 hb hv)⟩
def timesS (z : Str) (k : Int) : Str := ⟨(List.replicate k.toNat z.cps).foldl (· ++ ·) #[]⟩
def MulS (z : Str) (k : Int) : Bool := decide (1 < k) && decide (k ≤ 1000) && decide (0 < z.length) && !decide ((z.length : Int) > (2 ^ 63 - 1) / k) && !Builtin.Str.tooLong (z.length * k.toNat) && decide ((timesS z k).length ≤ sizeLine)
theorem op_mul_str {X : Cx} : OpR X (binaryOp .Mult) (fun x y H Q => ∃ z k, x = .str z ∧ y = .int k ∧ MulS z k = true ∧ Q (.str (timesS z k)) H) := by
  intro pins s σ H x y v u Q I rx ry h
  obtain ⟨z, k, rfl, rfl, hm, q⟩ := h
  obtain ⟨t, rfl⟩ := rx
  obtain ⟨t', rfl⟩ := ry
  unfold MulS at hm
  simp only [Bool.and_eq_true, Bool.not_eq_true', decide_eq_true_eq, decide_eq_false_iff_not] at hm
  obtain ⟨⟨⟨⟨⟨h1, h2⟩, h3⟩, h4⟩, h5⟩, h6⟩ := hm
  refine PySem.P.mul_str ?_ (fun _ _ => h4) (fun _ _ => h5) ?_
  · rw [decide_eq_false (by omega), decide_eq_false (by omega)]
    rfl
  · rw [if_neg (by omega)]
    have e1 : (k == 1) = false := beq_eq_false_iff_ne.mpr (by omega)
    have e2 : (z.length == 0) = false := beq_eq_false_iff_ne.mpr (by omega)
    rw [e1, e2, if_neg (by decide)]
    exact ⟨h6, ⟨.str (timesS z k), H, I.tok _, ⟨_, rfl⟩, q⟩⟩
end Ly

set_option Elab.async false
set_option linter.all false
set_option maxRecDepth 100000
set_option maxHeartbeats 4000000
/-! own layer: defs that ask for repr of lists: the promise is told where no repr is under way -/
namespace Ly
open PySem PySem.Spec PyProof.Rows L2
abbrev Quiet (A : Around) : Prop := A.guards = some []
/-- the promise of a def, called where no repr is under way -/
def FnG (P : Program) (w : World) (K : PySem.W.Frag) (mg : Str → Option Value) (base : Heap) (CX : CXT) (k : Nat) (f : Addr) (sp : Sp) : Prop :=
  ∀ (A : Around) (outer : List Env) (s : Shared) (H : Hp) (us : List Value) (vs : List V) (Q : VK) (E : XK), Room k A → Quiet A →
    Env0 P w K mg base A outer s H → Vals vs us → sp vs H Q E → codeAny (model P w) A (.call (.ref f) ⟨us, []⟩) (CR CX outer P w H s Q E) s
section
variable {P : Program} {w : World} {K : PySem.W.Frag} {mg : Str → Option Value} {base : Heap} {CX : CXT} {k : Nat}
/-- a def's body, walked where no repr is under way -/
theorem fnG_of {x qual : Str} {st : Stmt} {f : Addr} {fd : FuncData} {N ps : List Str} {sp : Sp} (F : Fun K x qual st f fd) (S : FnScope N ps (defScope st)) (b : Binds K fd ps []) (len : ∀ vs H Q E, sp vs H Q E → vs.length = ps.length)
    (hbody : ∀ (cdv : Value) (A : Around) (outer : List Env) (s : Shared) (H : Hp) (vs : List V) (Q : VK) (E : XK), Room k (A.deeper (envOfC qual (defScope st) s.heap.objs.size f cdv)) → Quiet (A.deeper (envOfC qual (defScope st) s.heap.objs.size f cdv)) →
      sp vs H Q E → ∃ t, PSs (cxOf CX P w K mg base N qual (defScope st) f cdv A outer s H E).nox (defBody st) t ∧ t { nx := fun _ H' => Q .non H', rt := Q } (start N vs) H) :
    FnG P w K mg base CX (k + 1) f sp := by
  obtain ⟨oc, od, kV, doc, pm, an, cdv, ct, osl, rfl, lk, hcd⟩ := F.ex
  intro A outer s H us vs Q E hr hq e0 r hsp
  have hl := len vs H Q E hsp
  have hl2 : (us ++ ([] : List Value)).length = ps.length := by
    rw [List.append_nil, ← r.length]
    exact hl
  have hb := b s us (e0.mod.kin.keeps fun b o e => (e0.bs b o e).1) hl2
  rw [List.append_nil] at hb
  refine StX.run_bnd (G := fun xs H2 => xs = vs ∧ H2 = H) lk hcd S hr e0 (fun A' Ex Q' h => hb _ A' Ex Q' (h s H vs us e0 .refl rfl (fun _ _ z => z) r hl ⟨rfl, rfl⟩)) fun s2 H2 xs g hr' => ?_
  obtain ⟨rfl, rfl⟩ := g
  obtain ⟨t, h, q⟩ := hbody cdv A outer s2 H2 xs Q E hr' hq hsp
  exact ⟨t, h.nox, q⟩
theorem FnG.or {f : Addr} {sp1 sp2 : Sp} (h1 : FnG P w K mg base CX k f sp1) (h2 : FnG P w K mg base CX k f sp2) : FnG P w K mg base CX k f (fun vs H Q E => sp1 vs H Q E ∨ sp2 vs H Q E) :=
  fun A outer s H us vs Q E hr hq e0 r hs => hs.elim (h1 A outer s H us vs Q E hr hq e0 r) (h2 A outer s H us vs Q E hr hq e0 r)
theorem _root_.L2.FnOk.quiet {f : Addr} {fd : FuncData} {ps : List Str} {sp : Sp} (F : FnOk P w K mg base CX k f fd ps sp) (b : Binds K fd ps []) : FnG P w K mg base CX k f sp := by
  intro A outer s H us vs Q E hr _ e0 r hs
  have z := F.raw b .nil A outer s H us vs Q E hr e0 r
  simp only [List.append_nil] at z
  exact z hs
end
section
variable {X : Cx} {CX : CXT} {k : Nat} {f : Addr} {sp : Sp} {E : XK}
/-- such a def as a thing that is called -/
theorem callG (F : FnG X.prog X.w X.K X.mg X.base CX k f sp) (hr : Room k X.A) (hq : Quiet X.A) (hx : Passes CX X E) : CallR X (.ref f) (fun vs H Q => sp vs H Q E) := by
  intro pins s σ H vs us Q I r h
  refine wpAny_call (codeAny_mono (F X.A X.stack s H us vs Q E hr hq I.env0 r h) fun res s' hres => ?_)
  cases res with
  | error e => exact hx pins σ H s e s' I hres
  | ok fl =>
    cases fl with
    | ret u => exact I.after hres
    | next => exact False.elim hres
    | brk => exact False.elim hres
    | cont => exact False.elim hres
/-- x(..), x a def of the module, by what its call is worth -/
theorem pe_callV {x : Str} {p pos : Pos} {e : Expr} {es : List Expr} {t : TA} {r : List V → Hp → VK → Prop} (c : CallR X (.ref f) r) (hg : Gl X x) (hm : X.mg x = some (.ref f)) (hk : PySem.W.keepIn X.K (.ref f) = true) (ha : PA X (e :: es) t)
    (hdb : (x == ("__debug__" : Str)) = false := by decide) (he : starEach (e :: es) X.env = (false, eval e X.env) :: starEach es X.env := by rfl) (hpl : (backTo pos (starEach es X.env)).any (·.1) = false := by rfl) :
    PE X (.Call (.Name x p) (e :: es) [] pos) (tCB r t) := ⟨fun pins s σ H Q I h => wpAny_Call_Name_kw (ld_glob I hg hm
  (PySem.W.callWith_K (h₀ := X.base) I.ok.mod.kin hk (thn (ha.run pos pins s σ H _ I h) fun us s1 ⟨vs, H1, I1, rv, q⟩ => ⟨I1.kIn, c pins s1 σ H1 vs us Q I1 rv q⟩) he hpl) hdb)⟩
end
/-! ### the law's own end -/
section
variable {P : Program} {w : World} {K : PySem.W.Frag} {mg mb : Str → Option Value} {CX : CXT} {k : Nat} {fa a : Addr} {sp : Sp} {s1 : Shared} {vs : List Value} {ns : List Int}
/-- what is asked of the call of the law -/
abbrev LawGoal (P : Program) (w : World) (fa a : Addr) (s1 : Shared) : Prop :=
  codeAny (model P w) callerA (.call (.ref fa) ⟨[.ref a], []⟩) (fun r s' => r = .ok (.ret (.bool true)) ∧ OldK s1.heap s'.heap ∧ s'.os = s1.os ∧ AllBare s'.gens) s1
theorem lawG_core (KX : K.In s1.heap) (hns : s1.heap.Ns mainGlobals mg) (hb : s1.heap.Ns builtinsNs mb) (hbb : ∀ x : Str, x ≠ "__name__" → mb x = bootBuiltins x) (hlim : s1.heap.NoLimit) (hg : s1.gens = #[])
    (ha : s1.heap.get? a = some { cls := .type "list", data := .seq vs.toArray }) (hr : Room k callerA) (F : ∀ base : Heap, K.In base → base.Ns mainGlobals mg → FnG P w K mg base CX k fa sp)
    (hCX : ∀ H e s', CX [] H s1 (fun _ _ _ => False) e s' → False) {H : Hp} (hO : Only H) (hok : HOk P w H s1.heap) (hA : ∀ b, H b ≠ none → b = a ∧ K.lookup a = none) (hsp : sp [.ref a] H (fun v _ => v = .bl true) fun _ _ _ => False) : LawGoal P w fa a s1 := by
  -- what is tracked is the script alone: it is no dict and no part of K
  have plain : ∀ {b : Addr} {o : Obj}, s1.heap.get? b = some o → (∀ its n, o.data ≠ .seq its n) → H b = none := by
    intro b o e d
    rcases hO b with z | ⟨ob, xs, z⟩
    · exact z
    · obtain ⟨rfl, _⟩ := hA b (by rw [z]; exact fun q => nomatch q)
      rw [ha] at e
      cases e
      exact absurd rfl (d _ _)
  have nsB : ∀ {b : Addr} {m : Str → Option Value}, s1.heap.Ns b m → (hidT s1.heap H).Ns b m := fun {b m} h => by
    obtain ⟨o, es, ep, e, d, r⟩ := h
    exact ⟨o, es, ep, hidT_get e (plain e fun its n z => by rw [d] at z; cases z), d, r⟩
  have kB : K.In (hidT s1.heap H) := fun b o e => hidT_get (KX b o e) (by
    rcases hO b with z | ⟨ob, xs, z⟩
    · exact z
    · obtain ⟨rfl, n⟩ := hA b (by rw [z]; exact fun q => nomatch q)
      rw [n] at e
      cases e)
  obtain ⟨mc, l1, l2⟩ := hlim
  have e0 : Env0 P w K mg (hidT s1.heap H) callerA [] s1 H := {
    frames := rfl
    mod := ⟨kB, nsB hns, ⟨mb, nsB hb, hbb⟩, ⟨mc, nsB l1, l2⟩⟩
    bs := fun b o e => of_hidT e
    bsz := Nat.le_of_eq (hidT_size _ _)
    funs := trivial
    frf := fun b hb' => by cases hb'
    hok := hok
    bare := .of_eq hg }
  refine codeAny_mono (F _ kB (nsB hns) callerA [] s1 H [.ref a] [.ref a] _ _ hr rfl e0 (.cons rfl .nil) hsp) fun r s' h => ?_
  match r, h with
  | .error e, h => exact (hCX H e s' h).elim
  | .ok .next, h => exact False.elim h
  | .ok .brk, h => exact False.elim h
  | .ok .cont, h => exact False.elim h
  | .ok (.ret u), h =>
    obtain ⟨v, H', os, bare, un, hok', r', q⟩ := h
    have q' : v = .bl true := q
    subst q'
    obtain rfl : u = Value.bool true := r'
    refine ⟨rfl, OldK.of_keep fun b o e => ?_, os, bare⟩
    rcases hO b with z | ⟨ob, xs, z⟩
    · exact un.keep b o e z (fun z => by cases z) (fun z => by cases z)
    · obtain ⟨e1, _⟩ := hok b _ z
      obtain ⟨e2, _⟩ := hok' b _ (un.frzs b ob _ z)
      rw [e] at e1
      cases e1
      exact e2
theorem lawG (KX : K.In s1.heap) (hns : s1.heap.Ns mainGlobals mg) (hb : s1.heap.Ns builtinsNs mb) (hbb : ∀ x : Str, x ≠ "__name__" → mb x = bootBuiltins x) (hlim : s1.heap.NoLimit) (hg : s1.gens = #[])
    (ha : s1.heap.get? a = some { cls := .type "list", data := .seq vs.toArray }) (hi : IntsAre vs ns) (hl : ns.length ≤ sizeLine) (hr : Room k callerA) (F : ∀ base : Heap, K.In base → base.Ns mainGlobals mg → FnG P w K mg base CX k fa sp)
    (hsp : ∀ H : Hp, Only H → SqL K H a (ns.map V.int) → sp [.ref a] H (fun v _ => v = .bl true) fun _ _ _ => False) (hCX : ∀ H e s', CX [] H s1 (fun _ _ _ => False) e s' → False) : LawGoal P w fa a s1 := by
  have rv := vals_ints hi
  have lv := hi.length
  cases hk : K.lookup a with
  | some o =>
    have e := KX a o hk
    rw [ha] at e
    cases e
    exact lawG_core KX hns hb hbb hlim hg ha hr F hCX (H := fun _ => none) (fun _ => .inl rfl) (fun b u z => by cases z) (fun b z => absurd rfl z)
      (hsp _ (fun _ => .inl rfl) (.inr ⟨_, vs.toArray, _, hk, rfl, rfl, rfl, by rw [List.size_toArray, lv]; exact hl, by simpa using rv⟩))
  | none =>
    have at_ : ∀ b, (upd (fun _ => none) a (.frz { cls := .type "list", data := .seq vs.toArray } (.lst (ns.map V.int)))) b ≠ none → b = a := fun b z => by
      by_cases hb : b = a
      · exact hb
      · exact absurd (upd_ne hb) z
    have only : Only (upd (fun _ => none) a (.frz { cls := .type "list", data := .seq vs.toArray } (.lst (ns.map V.int)))) := fun b => by
      by_cases hb : b = a
      · exact .inr ⟨_, _, by rw [hb]; exact upd_same⟩
      · exact .inl (upd_ne hb)
    refine lawG_core KX hns hb hbb hlim hg ha hr F hCX only (fun b u z => ?_) (fun b z => ⟨at_ b z, hk⟩) (hsp _ only (.inl (.inr ⟨_, upd_same⟩)))
    have eb := at_ b (by rw [z]; exact fun q => nomatch q)
    subst eb
    rw [upd_same] at z
    cases z
    exact ⟨ha, by rw [List.length_map]; exact hl, vs, _, rv, ha⟩
end
theorem walk_ofG {l : PySem.W.OpenLaw} {n k : Nat} {q : Program} {loose : List Str} {XP : (Str → Option Value) → Heap → Prop} {YP : World → Heap → Prop} {d : DefRec} {K : Params → PySem.W.Frag} {sp : World → Sp}
    (hn : l.most = some n) (hn2 : n ≤ sizeLine) (hdf : d.params.defaults = []) (hr : Room k callerA) (hY : ∀ (w : World) (h : Heap), YP w h → (K w.params).In h)
    (F : ∀ (w : World) (mg : Str → Option Value) (fa : Addr) (h : Heap), (K w.params).In h → h.Ns mainGlobals mg → mg d.name = some (.ref fa) →
      ∀ base : Heap, (K w.params).In base → base.Ns mainGlobals mg → FnG l.prog w (K w.params) mg base CX0 k fa (sp w))
    (hsp : ∀ (w : World) (H : Hp) (a : Addr) (ns : List Int), ns.length ≤ n → Only H → SqL (K w.params) H a (ns.map V.int) → sp w [.ref a] H (fun v _ => v = .bl true) fun _ _ _ => False) :
    PySem.W.WalkO q loose XP YP l.row.toRowW d [] (fun f vs => PySem.call f vs) :=
  Att.attach_call hn hdf fun w _ _ mg _ fa _ _ _ _ a vs ns G Y ho hd hcd hmg hobj hints hlen hg =>
    lawG (hY w _ Y) G.T.g G.T.b G.T.builtins G.T.nolimit hg hobj hints (Nat.le_trans hlen hn2) hr (F w mg fa _ (hY w _ Y) G.T.g hmg) (fun H hO hS => hsp w H a ns hlen hO hS) fun _ _ _ z => z
/-! ### repr of data -/
mutual
/-- the value v is the datum, by the abstract heap; its repr is short enough to be told by its size -/
def Rp (H : Hp) : PyData → V → Prop
  | .none, v => v = .non
  | .bool b, v => v = .bl b
  | .int i, v => v = .int i ∧ i.natAbs.log2 < 1920
  | .str x, v => v = .str x ∧ ∀ c ∈ x.cps.toList, c < 16 ^ 8
  | .list ds, v => ∃ a xs, v = .ref a ∧ a ≠ sysModules ∧ H a = some (.lst xs) ∧ RpAll H ds xs
  | .tuple ds, v => ∃ a xs, v = .ref a ∧ H a = some (.tup xs) ∧ RpAll H ds xs
  | .dict [], v => ∃ a, v = .ref a ∧ H a = some (.dK [])
  | .dict (_ :: _), _ => False
def RpAll (H : Hp) : List PyData → List V → Prop
  | [], xs => xs = []
  | d :: ds, xs => ∃ x r, xs = x :: r ∧ Rp H d x ∧ RpAll H ds r
end
mutual
theorem Rp.ok {H : Hp} : ∀ (d : PyData) (v : V), Rp H d v → d.showable = true ∧ d.leavesShort 1921 = true
  | .none, _, _ => ⟨rfl, rfl⟩
  | .bool _, _, _ => ⟨rfl, rfl⟩
  | .int i, v, h => by
    obtain ⟨_, h⟩ := (show v = .int i ∧ i.natAbs.log2 < 1920 from h)
    exact ⟨decide_eq_true h, decide_eq_true (int_text_len_1921 h)⟩
  | .str x, v, h => by
    obtain ⟨_, h⟩ := (show v = .str x ∧ ∀ c ∈ x.cps.toList, c < 16 ^ 8 from h)
    exact ⟨rfl, List.all_eq_true.mpr fun c hc => decide_eq_true (h c hc)⟩
  | .list ds, v, h => by
    obtain ⟨_, xs, _, _, _, h⟩ := (show ∃ a xs, v = .ref a ∧ a ≠ sysModules ∧ H a = some (.lst xs) ∧ RpAll H ds xs from h)
    exact RpAll.ok ds xs h
  | .tuple ds, v, h => by
    obtain ⟨_, xs, _, _, h⟩ := (show ∃ a xs, v = .ref a ∧ H a = some (.tup xs) ∧ RpAll H ds xs from h)
    exact RpAll.ok ds xs h
  | .dict [], _, _ => ⟨rfl, rfl⟩
  | .dict (_ :: _), _, h => (show False from h).elim
theorem RpAll.ok {H : Hp} : ∀ (ds : List PyData) (xs : List V), RpAll H ds xs → PyData.showableAll ds = true ∧ PyData.leavesShortAll 1921 ds = true
  | [], _, _ => ⟨rfl, rfl⟩
  | d :: ds, xs, h => by
    obtain ⟨x, r, _, h1, h2⟩ := (show ∃ x r, xs = x :: r ∧ Rp H d x ∧ RpAll H ds r from h)
    obtain ⟨a1, a2⟩ := Rp.ok d x h1
    obtain ⟨b1, b2⟩ := RpAll.ok ds r h2
    exact ⟨by simp only [PyData.showableAll, a1, b1, Bool.and_self], by simp only [PyData.leavesShortAll, a2, b2, Bool.and_self]⟩
end
mutual
theorem Rp.keep {H H' : Hp} (s : Same H H') : ∀ (d : PyData) (v : V), Rp H d v → Rp H' d v
  | .none, _, h => h
  | .bool _, _, h => h
  | .int _, _, h => h
  | .str _, _, h => h
  | .list ds, v, h => by
    obtain ⟨a, xs, e, n, ha, h⟩ := (show ∃ a xs, v = .ref a ∧ a ≠ sysModules ∧ H a = some (.lst xs) ∧ RpAll H ds xs from h)
    exact ⟨a, xs, e, n, s _ _ ha, RpAll.keep s ds xs h⟩
  | .tuple ds, v, h => by
    obtain ⟨a, xs, e, ha, h⟩ := (show ∃ a xs, v = .ref a ∧ H a = some (.tup xs) ∧ RpAll H ds xs from h)
    exact ⟨a, xs, e, s _ _ ha, RpAll.keep s ds xs h⟩
  | .dict [], v, h => by
    obtain ⟨a, e, ha⟩ := (show ∃ a, v = .ref a ∧ H a = some (.dK []) from h)
    exact ⟨a, e, s _ _ ha⟩
  | .dict (_ :: _), _, h => (show False from h).elim
theorem RpAll.keep {H H' : Hp} (s : Same H H') : ∀ (ds : List PyData) (xs : List V), RpAll H ds xs → RpAll H' ds xs
  | [], _, h => h
  | d :: ds, xs, h => by
    obtain ⟨x, r, e, h1, h2⟩ := (show ∃ x r, xs = x :: r ∧ Rp H d x ∧ RpAll H ds r from h)
    exact ⟨x, r, e, Rp.keep s d x h1, RpAll.keep s ds r h2⟩
end
section
variable {X : Cx} {pins : List (Addr × Obj)} {σ : L2.St} {H : Hp} {s : Shared}
mutual
theorem Rp.reads (I : Inv X pins σ H s) : ∀ (d : PyData) (v : V) (u : Value), Rp H d v → RelV v u → ∃ as, Reads s.heap u d as ∧ sysModules ∉ as
  | .none, v, u, h, r => by
    obtain rfl := (show v = .non from h)
    cases r
    exact ⟨_, .none, by simp⟩
  | .bool b, v, u, h, r => by
    obtain rfl := (show v = .bl b from h)
    cases r
    exact ⟨_, .bool b, by simp⟩
  | .int i, v, u, h, r => by
    obtain ⟨rfl, _⟩ := (show v = .int i ∧ i.natAbs.log2 < 1920 from h)
    obtain ⟨t, rfl⟩ := r
    exact ⟨_, .int i t, by simp⟩
  | .str x, v, u, h, r => by
    obtain ⟨rfl, _⟩ := (show v = .str x ∧ ∀ c ∈ x.cps.toList, c < 16 ^ 8 from h)
    obtain ⟨t, rfl⟩ := r
    exact ⟨_, .str x t, by simp⟩
  | .list ds, v, u, h, r => by
    obtain ⟨a, xs, rfl, n, ha, h⟩ := (show ∃ a xs, v = .ref a ∧ a ≠ sysModules ∧ H a = some (.lst xs) ∧ RpAll H ds xs from h)
    cases r
    obtain ⟨_, its, m, rv, e⟩ := (show ObjOk X.prog X.w H s.heap a (.lst xs) from I.hok a _ ha)
    obtain ⟨as, ra, na⟩ := RpAll.reads I ds xs its h rv
    exact ⟨_, .list e rfl rfl ra, fun z => (List.mem_cons.mp z).elim (fun z => n z.symm) na⟩
  | .tuple ds, v, u, h, r => by
    obtain ⟨a, xs, rfl, ha, h⟩ := (show ∃ a xs, v = .ref a ∧ H a = some (.tup xs) ∧ RpAll H ds xs from h)
    cases r
    obtain ⟨_, its, rv, o, e, c, m, dd⟩ := (show ObjOk X.prog X.w H s.heap a (.tup xs) from I.hok a _ ha)
    obtain ⟨as, ra, na⟩ := RpAll.reads I ds xs its h rv
    exact ⟨_, .tuple e c dd ra, na⟩
  | .dict [], v, u, h, r => by
    obtain ⟨a, rfl, ha⟩ := (show ∃ a, v = .ref a ∧ H a = some (.dK []) from h)
    cases r
    obtain ⟨_, ns, vs, kv, dk⟩ := (show ObjOk X.prog X.w H s.heap a (.dK []) from I.hok a _ ha)
    cases kv
    obtain ⟨o, es, ep, e, ex, dd, _, hes, _⟩ := dk
    have e0 : es.toList = [] := by
      generalize es.toList = l at hes
      cases hes
      rfl
    refine ⟨_, .dict (kvs := []) e ex.1 dd (by rw [e0]; exact .nil) (by rw [e0]; exact .nil), fun z => ?_⟩
    have z' : sysModules = a := by simpa using z
    rw [← z'] at ns
    exact absurd ns (by decide)
  | .dict (_ :: _), _, _, h, _ => (show False from h).elim
theorem RpAll.reads (I : Inv X pins σ H s) : ∀ (ds : List PyData) (xs : List V) (us : List Value), RpAll H ds xs → Vals xs us → ∃ as, ReadsAll s.heap us ds as ∧ sysModules ∉ as
  | [], xs, us, h, r => by
    obtain rfl := (show xs = [] from h)
    cases r
    exact ⟨_, .nil, by simp⟩
  | d :: ds, xs, us, h, r => by
    obtain ⟨x, rr, rfl, h1, h2⟩ := (show ∃ x r, xs = x :: r ∧ Rp H d x ∧ RpAll H ds r from h)
    cases r with
    | cons q qs =>
      obtain ⟨as, ra, na⟩ := Rp.reads I d x _ h1 q
      obtain ⟨bs, rb, nb⟩ := RpAll.reads I ds rr _ h2 qs
      exact ⟨_, .cons ra rb, fun z => (List.mem_append.mp z).elim na nb⟩
end
end
/-- repr of a list, a tuple, a dict of data -/
def rRepr : List V → Hp → VK → Prop := fun vs H Q => ∃ (x : V) (d : PyData), vs = [x] ∧ Rp H d x ∧ d.bulk ≤ 8000 ∧ d.depth ≤ 60 ∧ Q (.str d.shown) H
theorem call_repr {X : Cx} (hq : Quiet X.A) (hu : X.A.units + 64 < cLine) : CallR X (.builtin "repr") rRepr := by
  intro pins s σ H xs us Q I r h
  obtain ⟨x, d, rfl, hd, hb, hdp, q⟩ := h
  obtain ⟨u, rfl, r1⟩ := vals1 r
  obtain ⟨k1, k2⟩ := Rp.ok d x hd
  have sz : d.shown.length ≤ sizeLine := by
    have z := PyData.shown_le_bulk 1921 (by decide) d k2
    have e : (1921 + 2) * d.bulk ≤ 1923 * 8000 := Nat.mul_le_mul_left _ hb
    rw [sizeLine_eq]
    omega
  obtain ⟨as, ra, na⟩ := Rp.reads I d x u hd r1
  have goal : ∀ a, u = .ref a → wpAny (model X.prog X.w) X.A (call (.builtin "repr") [u]) (EP X pins σ Q) X.xe s := by
    rintro a rfl
    exact repr_of_reads' ra k1 (fun _ => na) hq (by omega) (fun _ _ e => e) (fun h' t tk hk => ⟨.str d.shown, H, I.kept hk, ⟨_, rfl⟩, q⟩) sz
  match d, hd with
  | .none, hd =>
    obtain rfl := (show x = .non from hd)
    cases r1
    exact PySem.P.repr_of_none ⟨.str _, H, I.tok _, ⟨_, rfl⟩, q⟩
  | .bool b, hd =>
    obtain rfl := (show x = .bl b from hd)
    cases r1
    exact PySem.P.repr_of_bool ⟨.str _, H, I.tok _, ⟨_, rfl⟩, q⟩
  | .int i, hd =>
    obtain ⟨rfl, hi⟩ := (show x = .int i ∧ i.natAbs.log2 < 1920 from hd)
    obtain ⟨t, rfl⟩ := r1
    exact PySem.P.repr_of_int hi ⟨.str _, H, I.tok _, ⟨_, rfl⟩, q⟩
  | .str y, hd =>
    obtain ⟨rfl, _⟩ := (show x = .str y ∧ ∀ c ∈ y.cps.toList, c < 16 ^ 8 from hd)
    obtain ⟨t, rfl⟩ := r1
    exact PySem.P.repr_of_str ⟨.str _, H, I.tok _, ⟨_, rfl⟩, q⟩ sz
  | .list ds, hd =>
    obtain ⟨a, _, rfl, _⟩ := (show ∃ a xs, x = .ref a ∧ a ≠ sysModules ∧ H a = some (.lst xs) ∧ RpAll H ds xs from hd)
    exact goal a r1
  | .tuple ds, hd =>
    obtain ⟨a, _, rfl, _⟩ := (show ∃ a xs, x = .ref a ∧ H a = some (.tup xs) ∧ RpAll H ds xs from hd)
    exact goal a r1
  | .dict [], hd =>
    obtain ⟨a, rfl, _⟩ := (show ∃ a, x = .ref a ∧ H a = some (.dK []) from hd)
    exact goal a r1
  | .dict (_ :: _), hd => exact (show False from hd).elim
/-- a list display whose place is told not to be the modules' own -/
theorem pe_lstN {X : Cx} {es : List Expr} {t : TA} {pos : Pos} (h : PA X es t) : PE X (.List es pos) (fun σ H Q => t σ H fun xs H1 => xs.length ≤ sizeLine ∧ ∀ p, H1 p = none → p ≠ sysModules → Q (.ref p) (upd H1 p (.lst xs))) := by
  refine ⟨fun pins s σ H Q I hq => ?_⟩
  refine wpAny_List_spliced (thn (h.run pos pins s σ H _ I hq) fun us s1 hh => ?_)
  obtain ⟨xs, H1, I1, r, z, q⟩ := hh
  have big := I1.big
  refine ⟨by rw [← r.length]; exact z, ⟨.ref s1.heap.objs.size, _, I1.laid (t' := s1.toks) (o := .lst xs) (fun b u e => Heap.get?_push_of_some _ e) (Nat.le_refl _) ⟨z, us, 0, r, Heap.get?_push_size _ rfl⟩, rfl, q _ (I1.hok.fresh (Nat.le_refl _)) fun e => ?_⟩⟩
  rw [e] at big
  exact absurd big (Nat.lt_irrefl _)
end Ly
namespace Ly
open PySem PySem.Spec PyProof.Rows L2
/-! ### the same rules, said of the written part that a block shares with its def -/
section
variable {X : Cx} {K : PySem.W.Frag}
theorem ixL (h : X.K = K) : IxR X (rIxL K) := h ▸ ix_list
theorem ixT (h : X.K = K) : IxR X (rIxT K) := h ▸ ix_tup
theorem isiK (h : X.K = K) : CallR X (.builtin "isinstance") (rIsi K) := h ▸ call_isi
theorem inK (h : X.K = K) : OpR X (compareOp .In) (rIn K false) := h ▸ op_in_seq
theorem ninK (h : X.K = K) : OpR X (compareOp .NotIn) (rIn K true) := h ▸ op_notIn_seq
def rLenL (K : PySem.W.Frag) : List V → Hp → VK → Prop := fun xs H Q => ∃ p ys, xs = [.ref p] ∧ SqL K H p ys ∧ Q (.int ys.length) H
def rLenT (K : PySem.W.Frag) : List V → Hp → VK → Prop := fun xs H Q => ∃ p ys, xs = [.ref p] ∧ SqT K H p ys ∧ Q (.int ys.length) H
theorem lenLK (h : X.K = K) : CallR X (.builtin "len") (rLenL K) := h ▸ call_lenL
theorem lenTK (h : X.K = K) : CallR X (.builtin "len") (rLenT K) := h ▸ call_lenT
end
end Ly
namespace Ly
open PySem PySem.Spec PyProof.Rows L2
theorem sameT {K : PySem.W.Frag} {H H' : Hp} {a : Addr} {xs : List V} (e : Same H H') (h : SqT K H a xs) : SqT K H' a xs := by
  rcases h with (h | ⟨o, h⟩) | h
  · exact .inl (.inl (e _ _ h))
  · exact .inl (.inr ⟨o, e _ _ h⟩)
  · exact .inr h
/-- a loop's comprehension that maps a list's items, told at once: y = [e for x in xs] -/
theorem same_set {H H1 : Hp} {p : Addr} {o : HO} (s : Same H H1) (n : H p = none) : Same H (upd H1 p o) := fun b u e => by
  rw [upd_ne (ne_of_none e n)]
  exact s _ _ e
end Ly

set_option Elab.async false
set_option linter.all false
set_option maxRecDepth 100000
set_option maxHeartbeats 4000000
/-! cutters as plain functions: parts, what a part keeps of a row, what parts one after another keep -/
namespace Cut
inductive Part where
  | all
  | pat (f b : List Bool)
  deriving DecidableEq
/-- whether there is a plus at this index -/
def hp (l : List Bool) (i : Int) : Bool := decide (0 ≤ i) && decide (i < l.length) && l.getD i.toNat false
def kat (f b : List Bool) (n i : Nat) : Bool := hp f i || hp b ((i : Int) - ((n : Int) - b.length))
/-- the places that one part keeps of a row of n -/
def sel : Part → Nat → List Nat
  | .all, n => List.range n
  | .pat f b, n => (List.range n).filter (kat f b n)
def pick {α : Type} (p : Part) (xs : List α) : List α := (sel p xs.length).filterMap fun i => xs[i]?
def run {α : Type} (ps : List Part) (xs : List α) : List α := ps.foldl (fun l p => pick p l) xs
def places (ps : List Part) (n : Nat) : List Nat := run ps (List.range n)
def keepsAll (ps : List Part) : Bool := ps.all fun p => decide (p = .all)
def Ok : Part → Prop
  | .all => True
  | .pat f b => f.length ≤ 2 ∧ b.length ≤ 3
/-! ### rows -/
theorem get_range {α : Type} : ∀ xs : List α, (List.range xs.length).filterMap (fun i => xs[i]?) = xs
  | [] => rfl
  | x :: r => by
    rw [List.length_cons, List.range_succ_eq_map, List.filterMap_cons, List.filterMap_map]
    show x :: (List.range r.length).filterMap (fun i => r[i]?) = x :: r
    rw [get_range r]
theorem pick_all {α : Type} (xs : List α) : pick .all xs = xs := get_range xs
theorem pick_map {α β : Type} (p : Part) (g : α → β) (xs : List α) : pick p (xs.map g) = (pick p xs).map g := by
  unfold pick
  rw [List.length_map, List.map_filterMap]
  congr 1
  funext i
  rw [List.getElem?_map]
theorem run_map {α β : Type} (g : α → β) : ∀ (ps : List Part) (xs : List α), run ps (xs.map g) = (run ps xs).map g
  | [], _ => rfl
  | p :: ps, xs => by
    show run ps (pick p (xs.map g)) = (run ps (pick p xs)).map g
    rw [pick_map, run_map g ps]
theorem run_cons {α : Type} (p : Part) (ps : List Part) (xs : List α) : run (p :: ps) xs = run ps (pick p xs) := rfl
theorem run_append {α : Type} (ps qs : List Part) (xs : List α) : run (ps ++ qs) xs = run qs (run ps xs) := List.foldl_append
theorem sel_lt {p : Part} {n i : Nat} (h : i ∈ sel p n) : i < n := by
  cases p with
  | all => exact List.mem_range.mp h
  | pat f b => exact List.mem_range.mp (List.mem_filter.mp h).1
/-- the values kept are those at the kept places -/
theorem run_get {α : Type} (ps : List Part) (xs : List α) : run ps xs = (places ps xs.length).filterMap fun i => xs[i]? := by
  have key : ∀ (qs : List Part) (l : List Nat), (∀ i ∈ l, i < xs.length) → run qs (l.filterMap fun i => xs[i]?) = (run qs l).filterMap fun i => xs[i]? := by
    intro qs l hl
    cases xs with
    | nil =>
      cases l with
      | nil =>
        have e : ∀ rs : List Part, run rs ([] : List Nat) = [] := fun rs => by
          induction rs with
          | nil => rfl
          | cons p rs ih =>
            rw [run_cons]
            have e1 : pick p ([] : List Nat) = [] := by
              unfold pick
              cases p <;> rfl
            rw [e1, ih]
        have e' : ∀ rs : List Part, run rs ([] : List α) = [] := fun rs => by
          induction rs with
          | nil => rfl
          | cons p rs ih =>
            rw [run_cons]
            have e1 : pick p ([] : List α) = [] := by
              unfold pick
              cases p <;> rfl
            rw [e1, ih]
        show run qs ([] : List α) = (run qs ([] : List Nat)).filterMap fun i => ([] : List α)[i]?
        rw [e, e']
        rfl
      | cons a r => exact absurd (hl a List.mem_cons_self) (Nat.not_lt_zero _)
    | cons x r =>
      have e : ∀ l : List Nat, (∀ i ∈ l, i < (x :: r).length) → (l.filterMap fun i => (x :: r)[i]?) = l.map fun i => (x :: r).getD i x := by
        intro l
        induction l with
        | nil => intro _; rfl
        | cons a l ih =>
          intro h
          have ha := h a List.mem_cons_self
          rw [List.filterMap_cons, List.getElem?_eq_getElem ha, ih fun i hi => h i (List.mem_cons_of_mem _ hi), List.map_cons]
          rw [List.getD_eq_getElem?_getD, List.getElem?_eq_getElem ha]
          rfl
      rw [e l hl, run_map]
      refine (e _ fun i hi => ?_).symm
      -- what is kept is among what there was
      have sub : ∀ (qs : List Part) (l : List Nat), ∀ i ∈ run qs l, i ∈ l := by
        intro qs
        induction qs with
        | nil => exact fun l i h => h
        | cons p qs ih =>
          intro l i h
          have h1 := ih _ i h
          obtain ⟨j, hj, e⟩ := List.mem_filterMap.mp h1
          exact List.mem_of_getElem? e
      exact hl i (sub qs l i hi)
  have h := key ps (List.range xs.length) fun i hi => List.mem_range.mp hi
  rw [get_range] at h
  exact h
theorem run_sub {α : Type} : ∀ (ps : List Part) (xs : List α) (x : α), x ∈ run ps xs → x ∈ xs
  | [], _, _, h => h
  | p :: ps, xs, x, h => by
    have h1 := run_sub ps _ x h
    obtain ⟨j, _, e⟩ := List.mem_filterMap.mp h1
    exact List.mem_of_getElem? e
theorem places_lt {ps : List Part} {n i : Nat} (h : i ∈ places ps n) : i < n := List.mem_range.mp (run_sub ps _ i h)
theorem pick_len {α : Type} (p : Part) (xs : List α) : (pick p xs).length ≤ xs.length := by
  refine Nat.le_trans (List.length_filterMap_le _ _) ?_
  cases p with
  | all => exact Nat.le_of_eq List.length_range
  | pat f b => exact Nat.le_trans (List.length_filter_le _ _) (Nat.le_of_eq List.length_range)
theorem run_len {α : Type} : ∀ (ps : List Part) (xs : List α), (run ps xs).length ≤ xs.length
  | [], _ => Nat.le_refl _
  | p :: ps, xs => Nat.le_trans (run_len ps _) (pick_len p xs)
theorem places_len (ps : List Part) (n : Nat) : (places ps n).length ≤ n := Nat.le_trans (run_len ps _) (Nat.le_of_eq List.length_range)
theorem run_all {α : Type} : ∀ (ps : List Part) (xs : List α), keepsAll ps = true → run ps xs = xs
  | [], _, _ => rfl
  | p :: ps, xs, h => by
    have h' : (decide (p = .all) && keepsAll ps) = true := h
    rw [Bool.and_eq_true] at h'
    have e := of_decide_eq_true h'.1
    rw [e, run_cons, pick_all]
    exact run_all ps xs h'.2
/-! ### five and more places -/
/-- where the five places that patterns speak of stand in a row of n -/
def emb (n i : Nat) : Nat := if i < 2 then i else i + (n - 5)
theorem hp_neg {l : List Bool} {i : Int} (h : i < 0) : hp l i = false := by
  unfold hp
  rw [decide_eq_false (by omega)]
  rfl
theorem hp_out {l : List Bool} {i : Int} (h : (l.length : Int) ≤ i) : hp l i = false := by
  unfold hp
  rw [decide_eq_false (show ¬ i < (l.length : Int) by omega), Bool.and_false]
  rfl
theorem kat_mid {f b : List Bool} (hf : f.length ≤ 2) (hb : b.length ≤ 3) {n i : Nat} (h2 : 2 ≤ i) (h3 : i + 3 < n) : kat f b n i = false := by
  unfold kat
  rw [hp_out (by omega), hp_neg (by omega)]
  rfl
theorem kat_emb {f b : List Bool} (hf : f.length ≤ 2) (hb : b.length ≤ 3) {n i : Nat} (hn : 5 ≤ n) (hi : i < 5) : kat f b n (emb n i) = kat f b 5 i := by
  unfold kat emb
  by_cases h : i < 2
  · rw [if_pos h, hp_neg (l := b) (by omega), hp_neg (l := b) (by omega)]
  · rw [if_neg h, hp_out (l := f) (by omega), hp_out (l := f) (by omega)]
    congr 2
    omega
theorem range_five (m : Nat) : List.range (m + 5) = [0, 1] ++ ((List.range m).map (· + 2) ++ [m + 2, m + 3, m + 4]) := by
  rw [show m + 5 = 2 + (m + 3) by omega, List.range_add, List.range_add]
  congr 1
  rw [List.map_append]
  congr 1
  · exact List.map_congr_left fun i _ => Nat.add_comm 2 i
  · show [2 + (m + 0), 2 + (m + 1), 2 + (m + 2)] = _
    rw [show 2 + (m + 0) = m + 2 by omega, show 2 + (m + 1) = m + 3 by omega, show 2 + (m + 2) = m + 4 by omega]
theorem sel_five {f b : List Bool} (hf : f.length ≤ 2) (hb : b.length ≤ 3) {n : Nat} (hn : 5 ≤ n) : sel (.pat f b) n = (sel (.pat f b) 5).map (emb n) := by
  obtain ⟨m, rfl⟩ : ∃ m, n = m + 5 := ⟨n - 5, by omega⟩
  show (List.range (m + 5)).filter (kat f b (m + 5)) = ((List.range 5).filter (kat f b 5)).map (emb (m + 5))
  have mid : ((List.range m).map (· + 2)).filter (kat f b (m + 5)) = [] := by
    rw [List.filter_eq_nil_iff]
    intro i hi
    obtain ⟨j, hj, rfl⟩ := List.mem_map.mp hi
    have := List.mem_range.mp hj
    rw [kat_mid hf hb (by omega) (by omega)]
    exact Bool.false_ne_true
  rw [range_five, List.filter_append, List.filter_append, mid, List.nil_append, ← List.filter_append]
  have e : ([0, 1] ++ [m + 2, m + 3, m + 4] : List Nat) = (List.range 5).map (emb (m + 5)) := by
    show [0, 1, m + 2, m + 3, m + 4] = [emb (m + 5) 0, emb (m + 5) 1, emb (m + 5) 2, emb (m + 5) 3, emb (m + 5) 4]
    unfold emb
    rw [if_pos (by decide), if_pos (by decide), if_neg (by decide), if_neg (by decide), if_neg (by decide)]
    rw [show 2 + (m + 5 - 5) = m + 2 by omega, show 3 + (m + 5 - 5) = m + 3 by omega, show 4 + (m + 5 - 5) = m + 4 by omega]
  rw [e, List.filter_map]
  congr 1
  refine List.filter_congr fun i hi => ?_
  exact kat_emb hf hb hn (List.mem_range.mp hi)
theorem pick_five {f b : List Bool} (hf : f.length ≤ 2) (hb : b.length ≤ 3) {n : Nat} (hn : 5 ≤ n) : pick (.pat f b) (List.range n) = (pick (.pat f b) (List.range 5)).map (emb n) := by
  have e : ∀ k : Nat, pick (.pat f b) (List.range k) = sel (.pat f b) k := fun k => by
    unfold pick
    rw [List.length_range]
    have : ∀ l : List Nat, (∀ i ∈ l, i < k) → l.filterMap (fun i => (List.range k)[i]?) = l := by
      intro l
      induction l with
      | nil => intro _; rfl
      | cons a l ih =>
        intro h
        have ha := h a List.mem_cons_self
        rw [List.filterMap_cons, List.getElem?_eq_getElem (by rw [List.length_range]; exact ha), List.getElem_range, ih fun i hi => h i (List.mem_cons_of_mem _ hi)]
    exact this _ fun i hi => sel_lt hi
  rw [e, e, sel_five hf hb hn]
theorem places_five : ∀ (ps : List Part), (∀ p ∈ ps, Ok p) → keepsAll ps = false → ∀ n, 5 ≤ n → places ps n = (places ps 5).map (emb n)
  | [], _, h, _, _ => by cases h
  | .all :: ps, hok, h, n, hn => by
    show run ps (pick .all (List.range n)) = (run ps (pick .all (List.range 5))).map (emb n)
    rw [pick_all, pick_all]
    exact places_five ps (fun p hp => hok p (List.mem_cons_of_mem _ hp)) h n hn
  | .pat f b :: ps, hok, _, n, hn => by
    obtain ⟨hf, hb⟩ := (show f.length ≤ 2 ∧ b.length ≤ 3 from hok _ List.mem_cons_self)
    show run ps (pick (.pat f b) (List.range n)) = (run ps (pick (.pat f b) (List.range 5))).map (emb n)
    rw [pick_five hf hb hn, run_map]
theorem places_le5 {ps : List Part} (hok : ∀ p ∈ ps, Ok p) (h : keepsAll ps = false) (n : Nat) : (places ps n).length ≤ 5 := by
  by_cases hn : 5 ≤ n
  · rw [places_five ps hok h n hn, List.length_map]
    exact Nat.le_trans (run_len ps _) (Nat.le_of_eq List.length_range)
  · refine Nat.le_trans (run_len ps _) ?_
    rw [List.length_range]
    omega
end Cut

set_option Elab.async false
set_option linter.all false
set_option maxRecDepth 100000
set_option maxHeartbeats 4000000
/-! texts of parts -/
namespace Cut
open PySem PySem.Spec PyProof.Rows L2 Ly
def sgn (b : Bool) : Nat := if b then 43 else 45
def sT (l : List Bool) : Str := ⟨(l.map sgn).toArray⟩
def Part.text : Part → Str
  | .all => "all"
  | .pat f b => sT f ++ ".." ++ sT b
def fronts : List (List Bool) := [[], [true], [false], [true, true], [true, false], [false, true], [false, false]]
def backs : List (List Bool) := fronts ++ [[true, true, true], [true, true, false], [true, false, true], [true, false, false], [false, true, true], [false, true, false], [false, false, true], [false, false, false]]
theorem mem_fronts : ∀ f : List Bool, f.length ≤ 2 → f ∈ fronts
  | [], _ => by decide
  | [a], _ => by cases a <;> decide
  | [a, b], _ => by cases a <;> cases b <;> decide
  | _ :: _ :: _ :: r, h => by
    simp only [List.length_cons] at h
    omega
theorem mem_backs : ∀ f : List Bool, f.length ≤ 3 → f ∈ backs
  | [], _ => by decide
  | [a], _ => by cases a <;> decide
  | [a, b], _ => by cases a <;> cases b <;> decide
  | [a, b, c], _ => by cases a <;> cases b <;> cases c <;> decide
  | _ :: _ :: _ :: _ :: r, h => by
    simp only [List.length_cons] at h
    omega
def facts (f b : List Bool) : Bool :=
  decide (Txt.partition (Part.pat f b).text ".." = (sT f, (".." : Str), sT b)) && decide (Txt.split (Part.pat f b).text ".." = [sT f, sT b]) && !decide ((Part.pat f b).text = "all") && decide ((Part.pat f b).text.length ≤ 10) &&
  (Part.pat f b).text.cps.toList.all fun c => decide (c = 43 ∨ c = 45 ∨ c = 46)
theorem all_facts : (fronts.all fun f => backs.all fun b => facts f b) = true := by decide +kernel
structure Facts (f b : List Bool) : Prop where
  part : Txt.partition (Part.pat f b).text ".." = (sT f, (".." : Str), sT b)
  spl : Txt.split (Part.pat f b).text ".." = [sT f, sT b]
  ne : (Part.pat f b).text ≠ "all"
  len : (Part.pat f b).text.length ≤ 10
  cs : ∀ c ∈ (Part.pat f b).text.cps.toList, c = 43 ∨ c = 45 ∨ c = 46
theorem pat_facts {f b : List Bool} (h : Ok (.pat f b)) : Facts f b := by
  obtain ⟨hf, hb⟩ := (show f.length ≤ 2 ∧ b.length ≤ 3 from h)
  have z := List.all_eq_true.mp (List.all_eq_true.mp all_facts f (mem_fronts f hf)) b (mem_backs b hb)
  unfold facts at z
  simp only [Bool.and_eq_true, decide_eq_true_eq, Bool.not_eq_true', decide_eq_false_iff_not, List.all_eq_true] at z
  obtain ⟨⟨⟨⟨z1, z2⟩, z3⟩, z4⟩, z5⟩ := z
  exact ⟨z1, z2, z3, z4, z5⟩
theorem text_len {p : Part} (h : Ok p) : p.text.length ≤ 10 := by
  cases p with
  | all => decide +kernel
  | pat f b => exact (pat_facts h).len
theorem text_cs {p : Part} (h : Ok p) : ∀ c ∈ p.text.cps.toList, c < 16 ^ 8 := by
  cases p with
  | all => decide +kernel
  | pat f b =>
    intro c hc
    rcases (pat_facts h).cs c hc with e | e | e <;> rw [e] <;> decide
theorem text_all {p : Part} (h : Ok p) : decide (p.text = "all") = decide (p = .all) := by
  cases p with
  | all =>
    show decide ((Str.ofString "all" : Str) = Str.ofString "all") = decide (Part.all = Part.all)
    rw [decide_eq_true rfl, decide_eq_true rfl]
  | pat f b => rw [decide_eq_false (pat_facts h).ne, decide_eq_false (fun z => by cases z)]
theorem sT_len (l : List Bool) : (sT l).length = l.length := by
  show ((l.map sgn).toArray).size = l.length
  simp
theorem sT_get {l : List Bool} {i : Nat} (h : i < l.length) : (sT l).cps.toList[i]? = some (sgn (l.getD i false)) := by
  show ((l.map sgn).toArray).toList[i]? = _
  rw [List.getD_eq_getElem?_getD, List.getElem?_eq_getElem h]
  simp [h]
theorem sgn_plus (b : Bool) : decide ((⟨#[sgn b]⟩ : Str) = "+") = b := by cases b <;> decide +kernel
theorem sT_sign {l : List Bool} {c : Nat} (h : c ∈ (sT l).cps.toList) : c = 43 ∨ c = 45 := by
  have h' : c ∈ l.map sgn := by
    have e : (sT l).cps.toList = l.map sgn := by
      show ((l.map sgn).toArray).toList = _
      simp
    rw [e] at h
    exact h
  obtain ⟨b, _, rfl⟩ := List.mem_map.mp h'
  cases b
  · exact .inr rfl
  · exact .inl rfl
/-- list(range(n)) as values -/
def iV (l : List Nat) : List V := l.map fun (i : Nat) => V.int (i : Int)
theorem rgV_iV (n : Nat) : rgV 0 (n : Int) = iV (List.range n) := by
  unfold rgV iV
  rw [show ((n : Int) - 0).toNat = n by omega]
  exact List.map_congr_left fun i _ => by rw [Int.zero_add]
theorem iV_len (l : List Nat) : (iV l).length = l.length := List.length_map _
theorem iV_get {l : List Nat} {i x : Nat} (h : l[i]? = some x) : (iV l)[i]? = some (.int (x : Int)) := by
  unfold iV
  rw [List.getElem?_map, h]
  rfl
section
variable {X : Cx} {x : Str} {pos : Pos}
theorem pe_gI {n : Int} (hg : Gl X x) (h : ∃ t, X.mg x = some (.int n t)) (hd : (x == ("__debug__" : Str)) = false := by decide) : PE X (.Name x pos) (tC (.int n)) := by
  obtain ⟨t, h⟩ := h
  exact pe_glob hg h ⟨t, rfl⟩ hd
theorem pe_gS {z : Str} (hg : Gl X x) (h : ∃ t, X.mg x = some (.str z t)) (hd : (x == ("__debug__" : Str)) = false := by decide) : PE X (.Name x pos) (tC (.str z)) := by
  obtain ⟨t, h⟩ := h
  exact pe_glob hg h ⟨t, rfl⟩ hd
end
/-- the parts of a cutter as values -/
def pV (ps : List Part) : List V := ps.map fun p => V.str p.text
end Cut

set_option Elab.async false
set_option linter.all false
set_option maxRecDepth 100000
set_option maxHeartbeats 8000000
namespace K02
open PySem PySem.Spec PyProof.Rows L2 Ly Cut

def topS (i : Nat) : Stmt := PySem.Challenge.pw_namedabove_k02_cutters_and_kept_places.main.body.getD i (.Pass ⟨0, 0, 0, 0⟩)
structure Zs (mg : Str → Option Value) : Prop where
  z_len : mg "len" = none
  z_int : mg "int" = none
  z_abs : mg "abs" = none
  z_max : mg "max" = none
  z_min : mg "min" = none
  z_range : mg "range" = none
  z_all : mg "all" = none
  z_isinstance : mg "isinstance" = none
  z_str : mg "str" = none
  z_repr : mg "repr" = none
  z_bool : mg "bool" = none
  z_list : mg "list" = none
  z_tuple : mg "tuple" = none
  z_enumerate : mg "enumerate" = none
  z_zip : mg "zip" = none
  z_dict : mg "dict" = none
  g_MAX_PARTS : ∃ t, mg "MAX_PARTS" = some (.int 4 t)
  g_MAX_ROW : ∃ t, mg "MAX_ROW" = some (.int 1000 t)
  g_KEEP_ALL : ∃ t, mg "KEEP_ALL" = some (.str "all" t)
  g_DOTS : ∃ t, mg "DOTS" = some (.str ".." t)
  g_MAX_FRONT : ∃ t, mg "MAX_FRONT" = some (.int 2 t)
  g_MAX_BACK : ∃ t, mg "MAX_BACK" = some (.int 3 t)
  g_REACH : ∃ t, mg "REACH" = some (.int 5 t)
abbrev s_has_plus : Stmt := topS 20
abbrev N_has_plus : List Str := ["signs", "at"]
abbrev P_has_plus : List Str := ["signs", "at"]
theorem sc_has_plus : FnScope N_has_plus P_has_plus (defScope s_has_plus) := ⟨rfl, rfl, rfl, by decide +kernel, rfl, by decide +kernel, by decide +kernel⟩

abbrev s_part_places : Stmt := topS 21
abbrev N_part_places : List Str := ["part", "many", "front", "_", "back", "ahead", "at"]
abbrev P_part_places : List Str := ["part", "many"]
theorem sc_part_places : FnScope N_part_places P_part_places (defScope s_part_places) := ⟨rfl, rfl, rfl, by decide +kernel, rfl, by decide +kernel, by decide +kernel⟩

abbrev s_kept_places : Stmt := topS 22
abbrev N_kept_places : List Str := ["parts", "many", "places", "part", "at"]
abbrev P_kept_places : List Str := ["parts", "many"]
theorem sc_kept_places : FnScope N_kept_places P_kept_places (defScope s_kept_places) := ⟨rfl, rfl, rfl, by decide +kernel, rfl, by decide +kernel, by decide +kernel⟩

abbrev s_table_of : Stmt := topS 24
abbrev N_table_of : List Str := ["parts", "many"]
abbrev P_table_of : List Str := ["parts"]
theorem sc_table_of : FnScope N_table_of P_table_of (defScope s_table_of) := ⟨rfl, rfl, rfl, by decide +kernel, rfl, by decide +kernel, by decide +kernel⟩

abbrev s_is_part : Stmt := topS 18
abbrev N_is_part : List Str := ["value", "front", "dots", "back", "sign"]
abbrev P_is_part : List Str := ["value"]
theorem sc_is_part : FnScope N_is_part P_is_part (defScope s_is_part) := ⟨rfl, rfl, rfl, by decide +kernel, rfl, by decide +kernel, by decide +kernel⟩

abbrev s_check_parts : Stmt := topS 19
abbrev N_check_parts : List Str := ["parts", "at", "part"]
abbrev P_check_parts : List Str := ["parts"]
theorem sc_check_parts : FnScope N_check_parts P_check_parts (defScope s_check_parts) := ⟨rfl, rfl, rfl, by decide +kernel, rfl, by decide +kernel, by decide +kernel⟩

section
variable {P : Program} {w : World} {K : PySem.W.Frag} {mg : Str → Option Value} {base : Heap} {f : Addr} {fd : FuncData}
def spPlus : Sp := fun vs H Q _ => ∃ (l : List Bool) (i : Int), vs = [.str (sT l), .int i] ∧ l.length ≤ 3 ∧ Q (.bl (hp l i)) H
def spPlaces : Sp := fun vs H Q _ => ∃ (p : Part) (n : Nat), vs = [.str p.text, .int n] ∧ Ok p ∧ n ≤ 1001 ∧ ∀ H' q, Same H H' → H q = none → H' q = some (.lst (iV (sel p n))) → Q (.ref q) H'
def spKept (K : PySem.W.Frag) : Sp := fun vs H Q _ => ∃ (a : Addr) (ps : List Part) (n : Nat), vs = [.ref a, .int n] ∧ SqT K H a (pV ps) ∧ (∀ p ∈ ps, Ok p) ∧ n ≤ 1001 ∧
  ∀ H' q, Same H H' → H q = none → H' q = some (.tup (iV (Cut.places ps n))) → Q (.ref q) H'
theorem ok_plus (Z : Zs mg) (D : Df K mg "has_plus" s_has_plus P_has_plus f fd) : FnOk P w K mg base CX0 1 f fd P_has_plus spPlus := by
  refine D.F.ok sc_has_plus (fun vs H Q E h => ?_) (fun cdv A outer s H vs Q E hr h => ?_)
  · obtain ⟨l, i, rfl, _⟩ := h
    rfl
  · obtain ⟨l, i, rfl, hl, q⟩ := h
    have nd := sc_has_plus.nd
    refine ⟨_,
    (pss_one
    (ps_ret (pe_and (pe_chain op_le op_lt pe_int (pv 1) (pe_callB call_len_str (by rfl) Z.z_len (by decide +kernel) (pa_cons (pv 0) pa_nil))) (pe_one (pe_cmpR op_eq (pe_ix ix_str (pv 0) (pv 1) (fun _ _ => rfl)) pe_str (nomark _)))))), ?_⟩
    have hz : (sT l).length ≤ sizeLine := by rw [sT_len]; exact sz1000 (by omega)
    refine ⟨_, rfl, _, _, rfl, rfl, _, rfl, ?_⟩
    by_cases h0 : 0 ≤ i
    · refine ifT (decide_eq_true h0) ⟨_, rfl, sT l, rfl, hz, _, _, rfl, rfl, _, rfl, ?_⟩
      rw [sT_len]
      by_cases h1 : i < (l.length : Int)
      · refine ifT (decide_eq_true h1) ⟨_, rfl, _, rfl, sT l, i, sgn (l.getD i.toNat false), rfl, rfl, hz, at_nat h0 (sT_get (by omega)), rfl, ?_⟩
        have e : hp l i = decide ((V.str ⟨#[sgn (l.getD i.toNat false)]⟩) = V.str "+") := by
          unfold hp
          rw [decide_eq_true h0, decide_eq_true h1, Bool.true_and, Bool.true_and]
          refine (sgn_plus (l.getD i.toNat false)).symm.trans ?_
          rw [decide_eq_decide]
          exact ⟨fun h => congrArg V.str h, fun h => V.str.inj h⟩
        rw [e] at q
        exact q
      · refine ifF (decide_eq_false h1) ?_
        rw [hp_out (by omega)] at q
        exact q
    · refine ifF (decide_eq_false h0) ⟨_, rfl, ?_⟩
      rw [hp_neg (by omega)] at q
      exact q

theorem ok_places (Z : Zs mg) (D : Df K mg "part_places" s_part_places P_part_places f fd) {fp : Addr} {dp : FuncData} (D_has_plus : Cl P w K mg base "has_plus" 1 fp dp P_has_plus spPlus) : FnOk P w K mg base CX0 2 f fd P_part_places spPlaces := by
  refine D.F.ok sc_part_places (fun vs H Q E h => ?_) (fun cdv A outer s H vs Q E hr h => ?_)
  · obtain ⟨p, n, rfl, _⟩ := h
    rfl
  · obtain ⟨p, n, rfl, hok, hn, q⟩ := h
    have nd := sc_part_places.nd
    refine ⟨_,
    (pss_cons
    (ps_if (pt_cmpR op_eq (pv 0) (pe_gS rfl Z.g_KEEP_ALL) (nomark _))
      (pss_one
      (ps_ret (pe_listRg rfl (by rfl) Z.z_list (prg_1 (by rfl) Z.z_range (pv 1)))))
      pss_nil)
    (pss_cons
    (ps_asg (pe_partition (pv 0) (pe_gS rfl Z.g_DOTS)) (pg_tup rfl (pgs_cons (pg_name (i := 2) nd rfl (Or.inr rfl)) (pgs_cons (pg_name (i := 3) nd rfl (Or.inl rfl)) (pgs_cons (pg_name (i := 4) nd rfl (Or.inr rfl)) pgs_nil)))))
    (pss_cons
    (ps_set (i := 5) nd rfl (Or.inr rfl) (pe_op op_sub (pv 1) (pe_callB call_len_str (by rfl) Z.z_len (by decide +kernel) (pa_cons (pv 4) pa_nil))))
    (pss_one
    (ps_ret (pe_lc (own := [("at", 6)]) (g := gName 6) rfl nd (pi_range1 (by rfl) Z.z_range (pa_cons (pv 1) pa_nil)) (blkOk_by (N := N_part_places) (sc := defScope s_part_places) (by decide +kernel)) (fun _ _ _ _ _ => (pg_name (i := 6) nd rfl (Or.inl rfl))) (fun _ _ _ _ _ => (pts_one (PW.pt (pw_or (pt_val (pe_call D_has_plus.ok (hr.mono (by decide)) (by rfl) D_has_plus.g D_has_plus.kp D_has_plus.b .nil pass0 (pa_cons (pv 2) (pa_cons (pv 6) pa_nil)))) (pw_or1 (pt_val (pe_call D_has_plus.ok (hr.mono (by decide)) (by rfl) D_has_plus.g D_has_plus.kp D_has_plus.b .nil pass0 (pa_cons (pv 4) (pa_cons (pe_op op_sub (pv 6) (pv 5)) pa_nil))))))))) (fun _ _ _ _ _ => (pv 6)))))))), ?_⟩
    refine ⟨_, rfl, rfl, _, rfl, ?_⟩
    cases p with
    | all =>
      refine ifT (decide_eq_true rfl) ⟨_, rfl, n, rfl, .of_le (by decide) (by omega) (by decide) (by omega), fun a na => ?_⟩
      refine q _ a (same_new na) na ?_
      rw [upd_same, rgV_iV]
      rfl
    | pat f b =>
      have F := pat_facts hok
      obtain ⟨hf, hb⟩ := (show f.length ≤ 2 ∧ b.length ≤ 3 from hok)
      refine ifF (decide_eq_false fun z => F.ne (V.str.inj z)) ?_
      dsimp only [tNext]
      refine ⟨_, rfl, ⟨_, rfl⟩, _, _, rfl, rfl, by decide +kernel, sz1000 (Nat.lt_of_le_of_lt F.len (by decide)), fun a na => ?_⟩
      rw [F.part]
      refine ⟨a, _, rfl, .of upd_same, rfl, _, _, rfl, _, _, rfl, _, _, rfl, rfl, ?_⟩
      refine ⟨_, rfl, _, rfl, sT b, rfl, by rw [sT_len]; exact sz1000 (by omega), _, _, rfl, rfl, ?_⟩
      rw [sT_len]
      have s1 := same_new (o := .tup [V.str (sT f), .str ".." , .str (sT b)]) na
      generalize upd H a _ = H1 at s1 ⊢
      refine ⟨_, rfl, n, rfl, by omega, by omega, fun D9 nD => ?_⟩
      refine lc_range (lo := 0) (n := (n : Int).toNat) (fun i H' => Same H1 H' ∧ H' D9 = some (.lst (iV ((List.range i).filter (kat f b n))))) ⟨same_new nD, upd_same⟩ (fun i H' hi hP => ?_) (fun H' hP => ?_)
      · obtain ⟨s2, hd⟩ := hP
        have hcond : hp f (0 + (i : Int)) = hp f i := by rw [Int.zero_add]
        have hcond2 : hp b (0 + (i : Int) - ((n : Int) - b.length)) = hp b ((i : Int) - ((n : Int) - b.length)) := by rw [Int.zero_add]
        have fin1 : kat f b n i = true → ∃ acc, H' D9 = some (.lst acc) ∧ acc.length < sizeLine ∧ Same H1 (upd H' D9 (.lst (acc ++ [.int (0 + (i : Int))]))) ∧ (upd H' D9 (.lst (acc ++ [.int (0 + (i : Int))]))) D9 = some (.lst (iV ((List.range (i + 1)).filter (kat f b n)))) := fun hc => by
          refine ⟨_, hd, ?_, fun p o e => ?_, ?_⟩
          · rw [iV_len]
            refine small1000 (Nat.le_trans (List.length_filter_le _ _) ?_)
            rw [List.length_range]
            omega
          · rw [upd_ne (ne_of_none e nD)]
            exact s2 _ _ e
          · rw [upd_same, List.range_succ, List.filter_append, Int.zero_add]
            have e1 : [i].filter (kat f b n) = [i] := by rw [List.filter_cons, hc]; rfl
            rw [e1]
            unfold iV
            rw [List.map_append]
            rfl
        have fin0 : kat f b n i = false → Same H1 H' ∧ H' D9 = some (.lst (iV ((List.range (i + 1)).filter (kat f b n)))) := fun hc => by
          refine ⟨s2, ?_⟩
          rw [List.range_succ, List.filter_append]
          have e1 : [i].filter (kat f b n) = [] := by rw [List.filter_cons, hc]; rfl
          rw [e1, List.append_nil]
          exact hd
        refine ⟨rfl, _, rfl, _, rfl, f, _, rfl, by omega, _, rfl, ?_⟩
        rw [hcond]
        by_cases h1 : hp f i = true
        · refine ifT h1 (ifT rfl ⟨_, rfl, fin1 ?_⟩)
          unfold kat
          rw [h1, Bool.true_or]
        · have h1' := eq_false_of_ne_true h1
          refine ifF h1' ⟨_, rfl, _, rfl, _, rfl, _, _, rfl, rfl, b, _, rfl, by omega, _, rfl, ?_⟩
          rw [hcond2]
          have ec : kat f b n i = hp b ((i : Int) - ((n : Int) - b.length)) := by
            unfold kat
            rw [h1', Bool.false_or]
          by_cases h2 : hp b ((i : Int) - ((n : Int) - b.length)) = true
          · exact ifT h2 ⟨_, rfl, fin1 (ec.trans h2)⟩
          · have h2' := eq_false_of_ne_true h2
            exact ifF h2' (fin0 (ec.trans h2'))
      · obtain ⟨s2, hd⟩ := hP
        refine q _ _ (s1.trans s2) (s1.free nD) ?_
        rw [hd]
        rfl

theorem ok_kept (Z : Zs mg) (D : Df K mg "kept_places" s_kept_places P_kept_places f fd) {fp : Addr} {dp : FuncData} (D_part_places : Cl P w K mg base "part_places" 2 fp dp P_part_places spPlaces) : FnOk P w K mg base CX0 3 f fd P_kept_places (spKept K) := by
  refine D.F.ok sc_kept_places (fun vs H Q E h => ?_) (fun cdv A outer s H vs Q E hr h => ?_)
  · obtain ⟨a, ps, n, rfl, _⟩ := h
    rfl
  · obtain ⟨a, ps, n, rfl, hS, hok, hn, q⟩ := h
    have nd := sc_kept_places.nd
    refine ⟨_,
    (pss_cons
    (ps_set (i := 2) nd rfl (Or.inr rfl) (pe_listRg rfl (by rfl) Z.z_list (prg_1 (by rfl) Z.z_range (pv 1))))
    (pss_cons
    (ps_for PassesOwn.never rfl (pi_tup (pv 0)) (pg_name (i := 3) nd rfl (Or.inl rfl))
      (pss_one
      (ps_set (i := 2) nd rfl (Or.inr rfl) (pe_lc (own := [("at", 4)]) (g := gName 4) (tt := tYes) rfl nd (pi_list (pe_call D_part_places.ok (hr.mono (by decide)) (by rfl) D_part_places.g D_part_places.kp D_part_places.b .nil pass0 (pa_cons (pv 3) (pa_cons (pe_callB call_lenL (by rfl) Z.z_len (by decide +kernel) (pa_cons (pv 2) pa_nil)) pa_nil)))) (blkOk_by (N := N_kept_places) (sc := defScope s_kept_places) (by decide +kernel)) (fun _ _ _ _ _ => (pg_name (i := 4) nd rfl (Or.inl rfl))) (fun _ _ _ _ _ => pts_nil) (fun _ _ _ _ _ => (pe_ix (ixL (K := K) rfl) (pv 2) (pv 4) (fun _ _ => rfl)))))))
    (pss_one
    (ps_ret (pe_callTy call_tuple_of (by rfl) Z.z_tuple (by decide +kernel) (pa_cons (pv 2) pa_nil)))))), ?_⟩
    refine ⟨_, rfl, n, rfl, .of_le (by decide) (by omega) (by decide) (by omega), fun p np => ?_⟩
    rw [rgV_iV]
    have s1 := same_new (o := .lst (iV (List.range n))) np
    refine ⟨_, rfl, a, rfl, ⟨_, sameT s1 hS⟩, ?_⟩
    refine for_tup (xs := pV ps) (fun i σ' H' => Same H H' ∧ ∃ (l : Addr) (x3 x4 : Option V), σ' = [some (.ref a), some (.int n), some (.ref l), x3, x4] ∧ H l = none ∧ H' l = some (.lst (iV (run (ps.take i) (List.range n)))))
      ⟨s1, p, none, none, rfl, np, upd_same⟩ (fun i σ' H' _ hP => sameT hP.1 hS) (fun i x σ' H1 hx hP => ?_) (fun σ' H1 hP => ?_)
    · obtain ⟨s2, l, x3, x4, rfl, nl, hl⟩ := hP
      obtain ⟨pt, hpt, rfl⟩ : ∃ pt, ps[i]? = some pt ∧ x = V.str pt.text := by
        have hx' : (ps.map fun p => V.str p.text)[i]? = some x := hx
        rw [List.getElem?_map] at hx'
        cases e : ps[i]? with
        | none => rw [e] at hx'; cases hx'
        | some pt =>
          rw [e] at hx'
          exact ⟨pt, rfl, (Option.some.inj hx').symm⟩
      have hokp := hok pt (List.mem_of_getElem? hpt)
      generalize hrow : run (ps.take i) (List.range n) = row at hl
      have hrl : row.length ≤ n := by
        rw [← hrow]
        exact Nat.le_trans (run_len _ _) (Nat.le_of_eq List.length_range)
      have hnext : run (ps.take (i + 1)) (List.range n) = pick pt row := by
        rw [List.take_add_one, hpt, ← hrow]
        exact run_append _ _ _
      refine ⟨_, rfl, _, rfl, l, _, rfl, .of hl, pt, (iV row).length, rfl, hokp, by rw [iV_len]; omega, fun H2 q2 s3 nq hq2 => ?_⟩
      rw [iV_len] at hq2
      refine ⟨q2, rfl, ⟨_, .of hq2⟩, fun D9 nD => ?_⟩
      have hl2 := s3 _ _ hl
      have selt : ∀ j ∈ sel pt row.length, j < row.length := fun j hj => sel_lt hj
      refine lc_list (xs := iV (sel pt row.length)) (fun j H' => Same H2 H' ∧ H' D9 = some (.lst (iV (((sel pt row.length).take j).filterMap fun i => row[i]?))))
        ⟨same_new nD, upd_same⟩ (fun j H' _ hQ => .of (hQ.1 _ _ hq2)) (fun j y H' hy hQ => ?_) (fun H' hQ => ?_)
      · obtain ⟨s4, hd⟩ := hQ
        obtain ⟨m, hm, rfl⟩ : ∃ m, (sel pt row.length)[j]? = some m ∧ y = V.int (m : Int) := by
          have hy' : ((sel pt row.length).map fun (i : Nat) => V.int (i : Int))[j]? = some y := hy
          rw [List.getElem?_map] at hy'
          cases e : (sel pt row.length)[j]? with
          | none => rw [e] at hy'; cases hy'
          | some m =>
            rw [e] at hy'
            exact ⟨m, rfl, (Option.some.inj hy').symm⟩
        have hm2 := selt m (List.mem_of_getElem? hm)
        refine ⟨rfl, _, rfl, _, rfl, l, iV row, (m : Int), .int (row[m] : Int), rfl, rfl, .of (s4 _ _ hl2), atI_nat (iV_get (List.getElem?_eq_getElem hm2)), _, hd, ?_, same_set s4 nD, ?_⟩
        · rw [iV_len]
          refine small1000 (Nat.le_trans (List.length_filterMap_le _ _) ?_)
          rw [List.length_take]
          have h1 := List.getElem?_eq_some_iff.mp hm
          obtain ⟨h1, _⟩ := h1
          have : (sel pt row.length).length ≤ row.length := by
            cases pt with
            | all => exact Nat.le_of_eq List.length_range
            | pat f b => exact Nat.le_trans (List.length_filter_le _ _) (Nat.le_of_eq List.length_range)
          omega
        · rw [upd_same, List.take_add_one, hm, List.filterMap_append]
          have e1 : (some m).toList.filterMap (fun i => row[i]?) = [row[m]] := by
            show [m].filterMap (fun i => row[i]?) = [row[m]]
            rw [List.filterMap_cons, List.getElem?_eq_getElem hm2]
            rfl
          rw [e1]
          unfold iV
          rw [List.map_append]
          rfl
      · obtain ⟨s4, hd⟩ := hQ
        rw [List.take_of_length_le (by rw [iV_len]; exact Nat.le_refl _)] at hd
        refine ⟨((s2.trans s3).trans s4), D9, _, _, rfl, (s2.trans s3).free nD, ?_⟩
        rw [hnext]
        exact hd
    · obtain ⟨s2, l, x3, x4, rfl, nl, hl⟩ := hP
      have e1 : ps.take (pV ps).length = ps := List.take_of_length_le (by unfold pV; rw [List.length_map]; exact Nat.le_refl _)
      rw [e1] at hl
      refine ⟨_, rfl, l, _, rfl, .inl ⟨.of hl, fun t nt => q _ t (s2.trans (same_new nt)) (s2.free nt) upd_same⟩⟩

def spTable (K : PySem.W.Frag) : Sp := fun vs H Q _ => ∃ (a : Addr) (ps : List Part), vs = [.ref a] ∧ SqT K H a (pV ps) ∧ (∀ p ∈ ps, Ok p) ∧
  ∀ H' t ts, Same H H' → H t = none → H' t = some (.tup ts) → ts.length = 7 → (∀ j, j < 7 → ∃ q, ts[j]? = some (.ref q) ∧ H' q = some (.tup (iV (places ps j)))) → Q (.ref t) H'
theorem ok_table (Z : Zs mg) (D : Df K mg "table_of" s_table_of P_table_of f fd) {fp : Addr} {dp : FuncData} (D_kept_places : Cl P w K mg base "kept_places" 3 fp dp P_kept_places (spKept K)) : FnOk P w K mg base CX0 4 f fd P_table_of (spTable K) := by
  refine D.F.ok sc_table_of (fun vs H Q E h => ?_) (fun cdv A outer s H vs Q E hr h => ?_)
  · obtain ⟨a, ps, rfl, _⟩ := h
    rfl
  · obtain ⟨p, ps, rfl, hp, hok, q⟩ := h
    have nd := sc_table_of.nd
    refine ⟨_,
    (pss_one
    (ps_ret (pe_callTy call_tuple_of (by rfl) Z.z_tuple (by decide +kernel) (pa_cons (pe_lc (own := [("many", 1)]) (g := gName 1) (tt := tYes) rfl nd (pi_range1 (by rfl) Z.z_range (pa_cons (pe_op op_add (pe_gI rfl Z.g_REACH) pe_int) pa_nil)) (blkOk_by (N := N_table_of) (sc := defScope s_table_of) (by decide +kernel)) (fun _ _ _ _ _ => (pg_name (i := 1) nd rfl (Or.inl rfl))) (fun _ _ _ _ _ => pts_nil) (fun _ _ _ _ _ => (pe_call D_kept_places.ok (hr.mono (by decide)) (by rfl) D_kept_places.g D_kept_places.kp D_kept_places.b .nil pass0 (pa_cons (pv 0) (pa_cons (pv 1) pa_nil))))) pa_nil)))), ?_⟩
    refine ⟨_, _, rfl, rfl, 7, rfl, by decide, by decide, fun D9 nD => ?_⟩
    refine lc_range (lo := 0) (n := 7) (fun i H' => Same H H' ∧ ∃ ts : List V, H' D9 = some (.lst ts) ∧ ts.length = i ∧ ∀ j, j < i → ∃ q, ts[j]? = some (.ref q) ∧ H' q = some (.tup (iV (places ps j)))) ⟨same_new nD, [], upd_same, rfl, fun j hj => absurd hj (Nat.not_lt_zero _)⟩ (fun i H' hi hP => ?_) (fun H' hP => ?_)
    · obtain ⟨s2, ts, hd, hlen, hts⟩ := hP
      refine ⟨rfl, _, rfl, _, rfl, p, ps, i, by rw [Int.zero_add]; rfl, sameT s2 hp, hok, by omega, fun H3 r s3 nr hr3 => ⟨ts, s3 _ _ hd, by rw [hlen]; exact small1000 (by omega), same_set (s2.trans s3) nD, ts ++ [.ref r], upd_same, by rw [List.length_append, hlen]; rfl, fun j hj => ?_⟩⟩
      have hrD : r ≠ D9 := fun e => by rw [e, hd] at nr; cases nr
      by_cases e : j < i
      · obtain ⟨r', e1, e2⟩ := hts j e
        have hne2 : r' ≠ D9 := fun e => by rw [e, hd] at e2; cases e2
        refine ⟨r', ?_, ?_⟩
        · rw [List.getElem?_append_left (by omega)]
          exact e1
        · rw [upd_ne hne2]
          exact s3 _ _ e2
      · have e' : j = i := by omega
        subst e'
        refine ⟨r, ?_, ?_⟩
        · rw [← hlen, List.getElem?_append_right (Nat.le_refl _), Nat.sub_self]
          rfl
        · rw [upd_ne hrD]
          exact hr3
    · obtain ⟨s2, ts, hd, hlen, hts⟩ := hP
      refine ⟨D9, ts, rfl, .inl ⟨.of hd, fun t nt => ?_⟩⟩
      have s3 := same_new (o := .tup ts) nt
      exact q _ t ts (s2.trans s3) (s2.free nt) upd_same hlen fun j hj => by
        obtain ⟨r, e1, e2⟩ := hts j hj
        exact ⟨r, e1, s3 _ _ e2⟩

end
end K02
set_option Elab.async false
set_option linter.all false
set_option maxRecDepth 100000
set_option maxHeartbeats 4000000
/-! own layer: enumerate over a tuple -/
namespace PySem
open Sem (wp)
set_option maxHeartbeats 1000000 in
theorem ly_enum_new {v : Value} {o : Obj} {H : Heap → Prop} (B : Begins v o H) :
    Meets (Builtin.«enumerate.__new__» ⟨[.type "enumerate", v], []⟩) (fun _ R s => H s.heap ∧
      R (.ok (.ret (.ref (s.heap.push o).objs.size))) { s with heap := (s.heap.push o).push ({ cls := .type "enumerate", data := .fields #[.none, .bool false, .ref s.heap.objs.size, rawInt 0, .none, .none] } : Obj) }) :=
  .of_wp fun prog w A R s h => by
    obtain ⟨hp, gs, dr, tk, os⟩ := s
    obtain ⟨h1, h⟩ := h
    have sub := sub_enumerate
    have begin_ : ∀ {A' : Around} {E : Value → Shared → Prop} {Q : Value → Shared → Prop}, Q (.ref hp.objs.size) ⟨hp.push o, gs, dr, tk, os⟩ → wpAny (model prog w) A' (pyIter v) Q E ⟨hp, gs, dr, tk, os⟩ := fun q => B.iter prog w _ _ _ _ h1 q
    wp_walk using begin_
    refine wpAny_stack_any fun st => wpAny_pure ?_
    split
    · rename_i c _ _ _ _ _
      cases (c == Value.type "enumerate") <;> (wp_walk using begin_; exact ⟨_, rfl, h⟩)
    · wp_walk using begin_
      exact ⟨_, rfl, h⟩
theorem ly_enum_call {prog : Program} {w : World} {A : Around} {E : Value → Shared → Prop} {s : Shared} {v : Value} {o : Obj} {H : Heap → Prop} {Q : Value → Shared → Prop} (B : Begins v o H) (h1 : H s.heap)
    (h : ∀ h', IsEnum h' (s.heap.objs.size + 1) s.heap.objs.size 0 .none → h'.get? s.heap.objs.size = some o → (∀ b x, s.heap.get? b = some x → h'.get? b = some x) → Q (.ref (s.heap.objs.size + 1)) { s with heap := h' }) :
    wpAny (model prog w) A (call (.type "enumerate") [v]) Q E s := by
  refine callType_new F.called_enumerate (by decide) (F.typeCall_enumerate_1 _) (F.newCall_enumerate_1 _) (fun obj => F.args_object_init_2 obj _) F.entry_enumerate_new (ly_enum_new B) ⟨h1, ?_⟩
  have hz : (s.heap.push o).objs.size = s.heap.objs.size + 1 := Heap.size_push ..
  show _ ∧ _
  rw [hz]
  have he : IsEnum ((s.heap.push o).push { cls := .type "enumerate", data := .fields #[.none, .bool false, .ref s.heap.objs.size, rawInt 0, .none, .none] }) (s.heap.objs.size + 1) s.heap.objs.size 0 .none := by
    have k := Heap.get?_push_size (s.heap.push o) (o := { cls := .type "enumerate", data := .fields #[.none, .bool false, .ref s.heap.objs.size, rawInt 0, .none, .none] }) rfl
    rwa [hz] at k
  exact ⟨⟨_, he, rfl⟩, h _ he (Heap.get?_push_of_some _ (Heap.get?_push_size _ B.free)) fun b x q => Heap.get?_push_of_some _ (Heap.get?_push_of_some _ q)⟩
end PySem
namespace Ly
open PySem PySem.Spec PyProof.Rows L2
/-- the tuple at a, its items in new pairs with their places -/
def IteT (K : PySem.W.Frag) (a : Addr) : It :=
  ⟨fun i H => ∃ (xs : List V) (x : V), SqT K H a xs ∧ xs[i]? = some x, fun i H v H' => ∃ T x, v = .ref T ∧ H T = none ∧ H' = upd H T (.tup [.int (i : Nat), x]) ∧ ∀ xs, SqT K H a xs → xs[i]? = some x, fun i H => ∃ xs : List V, SqT K H a xs ∧ xs.length = i⟩
theorem turn_enumT {P : Program} {w : World} {K : PySem.W.Frag} {elts : List Expr} {kk : Nat} {tpos : Pos} (a e it : Addr) (hat : a ≠ it) (hae : e ≠ a) :
    Turn P w K (.Tuple elts kk tpos) (IteT K a) [e, it] e (fun i h => (∃ old, IsEnum h e it ((i : Nat) : Int) old) ∧ h.IsTupleIter it a i ∧ e ≠ it) where
  mem := List.mem_cons_self
  obj := fun i h st b hb => by
    obtain ⟨⟨old, he⟩, ⟨o, ho, hc, hd⟩, _⟩ := st
    rcases List.mem_cons.mp hb with z | z
    · rw [z]; exact ⟨_, he, fun v q => nomatch q⟩
    · rw [List.mem_singleton] at z
      exact ⟨o, z ▸ ho, fun v q => by rw [hd] at q; cases q⟩
  keep := fun i h h' st k => by
    obtain ⟨⟨old, he⟩, hi, hne⟩ := st
    exact ⟨⟨old, k e (by simp) _ he⟩, hi.at fun o q => k it (by simp) o q, hne⟩
  item := by
    intro X hP hw hK hc i pins s σ H E I hf st hg
    subst hP hw hK
    obtain ⟨⟨old, he⟩, hit, hne⟩ := st
    obtain ⟨xs, x, hq, hx⟩ := hg
    obtain ⟨its, rv, p, hz⟩ := I.tuple hq
    obtain ⟨u, hu, ru⟩ := rv.get hx
    have hel : e < s.heap.objs.size := Heap.lt_size he
    have hil : it < s.heap.objs.size := by
      obtain ⟨_, q, _⟩ := hit
      exact Heap.lt_size q
    have hin : i < its.toArray.size := by
      rw [List.size_toArray]
      exact (List.getElem?_eq_some_iff.mp hu).1
    refine wpAny_pyNext_enum_itemD (Draws.tuple (A := X.A.in1) (show X.A.in1.handled = none from I.ok.hd hc) it a hat its.toArray) he ⟨hit, p⟩ hin hne (by simp [hne, hae]) fun y h' tk hy ho st' hT hsz hk => ?_
    obtain ⟨hit', _⟩ := st'
    have ey : y = u := by
      have h2 : its[i]? = some y := by simpa using hy
      exact Option.some.inj (h2.symm.trans hu)
    subst ey
    refine ⟨_, rfl, wpAny_letOwnedTupleGo_enum (s := { s with heap := h', toks := tk + 1 }) ho fun h'' he' sb => ?_⟩
    have hT2 : h''.get? s.heap.objs.size = some { cls := .type "tuple", data := .seq #[.int i tk, y] } := (sb.2 _ (Nat.ne_of_gt hel)).trans hT
    have new : ObjOk X.prog X.w (upd H s.heap.objs.size (.tup [.int (i : Nat), x])) h'' s.heap.objs.size (.tup [.int (i : Nat), x]) :=
      ⟨by show 2 ≤ sizeLine; decide, [.int i tk, y], .cons ⟨_, rfl⟩ (.cons ru .nil), ⟨_, hT2, rfl, _, rfl⟩⟩
    have I1 : Inv X pins σ (upd H s.heap.objs.size (.tup [.int (i : Nat), x])) { s with heap := h'', toks := tk + 1 } :=
      I.turnedNew (ch := [e, it]) (fun b ob hb q => (sb.2 b (fun z => hb (by simp [z]))).trans (hk b ob (fun z => hb (by simp [z])) (fun z => hb (by simp [z])) q)) hf (Nat.le_refl _) new
    have e1 : ((i + 1 : Nat) : Int) = (i : Int) + 1 := by omega
    refine ⟨.ref s.heap.objs.size, _, I1, rfl, ⟨_, x, rfl, I.hok.fresh (Nat.le_refl _), rfl, fun ys hy' => by rw [I.tuple_inj hy' hq]; exact hx⟩, ⟨⟨y, by rw [e1]; exact he'⟩, hit'.at fun o q => (sb.2 it (Ne.symm hne)).trans q, hne⟩, fun b hb => ?_⟩
    have hb' : b < s.heap.objs.size := by
      rcases List.mem_cons.mp hb with z | z
      · rw [z]
        exact hel
      · rw [List.mem_singleton.mp z]
        exact hil
    rw [upd_ne (Nat.ne_of_lt hb')]
    exact (hf b hb).1
  done := by
    intro X hP hw hK hc i pins s σ H E I hf st hg
    subst hP hw hK
    obtain ⟨⟨old, he⟩, hit, hne⟩ := st
    obtain ⟨xs, hq, hx⟩ := hg
    obtain ⟨its, rv, p, hz⟩ := I.tuple hq
    obtain ⟨f0, f1, f2, f3, f4, f5⟩ := hf it (by simp)
    have hl : its.toArray.size = i := by
      rw [List.size_toArray, ← rv.length]
      exact hx
    have hit2 : s.heap.IsTupleIter it a its.toArray.size := by
      rw [hl]
      exact hit
    exact wpAny_pyNext_enum_endD (Draws.tuple (A := X.A.in1) (show X.A.in1.handled = none from I.ok.hd hc) it a hat its.toArray) he ⟨hit2, p⟩ fun h' eb => ⟨rfl, I.turned (t' := s.toks) (fun b o hb q => eb b o hb q) f0 f1 f3 f4 f5⟩
  self := fun A i s Q E st h => by
    obtain ⟨⟨_, he⟩, _⟩ := st
    exact wpAny_pyIter_enum he h
def iEnumT (K : PySem.W.Frag) (ta : TA) : TI := fun σ H R => ta σ H fun vs H1 => ∃ a xs, vs = [.ref a] ∧ SqT K H1 a xs ∧ R (IteT K a) H1
theorem pi_enumT {X : Cx} {e : Expr} {ta : TA} {p pos tpos : Pos} {elts : List Expr} {kk : Nat} (hg : Gl X "enumerate") (hm : X.mg "enumerate" = none) (ha : PA X [e] ta) (hs : starEach [e] X.env = [(false, eval e X.env)] := by rfl) :
    PI X (.Tuple elts kk tpos) (.Call (.Name "enumerate" p) [e] [] pos) (iEnumT X.K ta) := by
  refine ⟨fun pins s σ H R I h => ?_⟩
  refine Call_ (ld_blt I hg hm boot_enumerate (PyProof.Rows.callWith_type1 (thn (ha.run pos pins s σ H _ I h) fun us s1 hh => ?_) hs rfl))
  obtain ⟨vs, H1, I1, r1, a, xs, ex, hq, q⟩ := hh
  subst ex
  obtain ⟨u, rfl, ru⟩ := vals1 r1
  obtain rfl : u = Value.ref a := ru
  obtain ⟨its, rv, p', hz⟩ := I1.tuple hq
  have hal : a < s1.heap.objs.size := p'.lt
  refine ly_enum_call (begins_tuple a its.toArray) p' fun h' he hit hk => wpAny_pyIter_enum he ?_
  refine ⟨s1.heap.objs.size + 1, [s1.heap.objs.size + 1, s1.heap.objs.size], _, _, H1, rfl, I1.kept (t' := s1.toks) hk, turn_enumT a (s1.heap.objs.size + 1) s1.heap.objs.size (Nat.ne_of_lt hal) (Nat.ne_of_gt (Nat.lt_succ_of_lt hal)), ⟨⟨.none, he⟩, ⟨_, hit, rfl, rfl⟩, Nat.succ_ne_self _⟩, fun b hb => ?_, q⟩
  have hle : s1.heap.objs.size ≤ b := by
    rcases List.mem_cons.mp hb with z | z
    · rw [z]
      exact Nat.le_succ _
    · rw [List.mem_singleton.mp z]
      exact Nat.le_refl _
  exact I1.fpOk hle (I1.hok.fresh hle)
/-- the loop over it -/
theorem for_enumT {K : PySem.W.Frag} {a : Addr} {xs : List V} {g : TG} {tb : TS} {D : Ends} {σ : L2.St} {H : Hp} (Pv : Nat → L2.St → Hp → Prop) (h0 : Pv 0 σ H) (hl : ∀ i σ H, i ≤ xs.length → Pv i σ H → SqT K H a xs)
    (hs : ∀ i x σ H T, xs[i]? = some x → Pv i σ H → H T = none → g (.ref T) σ (upd H T (.tup [.int (i : Nat), x])) fun σ2 H2 => tb { D with nx := Pv (i + 1), ct := Pv (i + 1), bk := D.nx } σ2 H2) (hd : ∀ σ H, Pv xs.length σ H → D.nx σ H) :
    ∃ W : Nat → Nat → L2.St → Hp → Prop, (∃ m, W 0 m σ H) ∧ ∀ i m σ H, W i m σ H → ((IteT K a).stop i H ∧ D.nx σ H) ∨ ((IteT K a).go i H ∧ ∃ N : L2.St → Hp → Prop, (∀ σ' H', N σ' H' → ∃ m', m' < m ∧ W (i + 1) m' σ' H') ∧
      ∀ x H', (IteT K a).yld i H x H' → g x σ H' fun σ2 H2 => tb { D with nx := N, ct := N, bk := D.nx } σ2 H2) := by
  refine ⟨fun i m σ H => m + i = xs.length ∧ Pv i σ H, ⟨xs.length, by omega, h0⟩, ?_⟩
  rintro i m σ H ⟨em, p⟩
  have q := hl i σ H (by omega) p
  by_cases hlt : i < xs.length
  · refine .inr ⟨⟨xs, xs[i], q, List.getElem?_eq_getElem hlt⟩, Pv (i + 1), fun σ' H' p' => ⟨m - 1, by omega, by omega, p'⟩, fun v H' y => ?_⟩
    obtain ⟨T, x, rfl, nT, rfl, hx⟩ := y
    exact hs i x σ H T (hx xs q) p nT
  · have e : i = xs.length := by omega
    subst e
    exact .inl ⟨⟨xs, q, rfl⟩, hd σ H p⟩
end Ly

set_option Elab.async false
set_option linter.all false
set_option maxRecDepth 100000
set_option maxHeartbeats 4000000
/-! own classes: len, str, ==, != by their own defs; classes held by a variable, called with a star; made without arguments -/
namespace Ly
open PySem PySem.Spec PyProof.Rows L2
section
variable {X : Cx} {CX : CXT} {k : Nat} {f g C : Addr} {sp : Sp} {E : XK} {Q : VK} {us : List Value} {vs : List V} {A : Around} {pins : List (Addr × Obj)} {σ : L2.St} {H : Hp} {s : Shared}
theorem run_fnRA (F : FnR X.prog X.w X.K X.mg X.base CX k f sp) (hr : Room k A) (hf : A.frames = X.A.frames) (hx : Passes CX X E) (I : Inv X pins σ H s) (r : Vals vs us) (h : sp vs H Q E) :
    wpAny (model X.prog X.w) A (call (.ref f) us) (EP X pins σ Q) X.xe s := by
  have e := I.env0
  have e0 : Env0 X.prog X.w X.K X.mg X.base A X.stack s H := ⟨by rw [hf]; exact e.frames, e.mod, e.bs, e.bsz, e.funs, e.frf, e.hok, e.bare⟩
  refine wpAny_call (codeAny_mono (F A X.stack s H us vs Q E hr e0 r h) fun r s' hq => ?_)
  cases r with
  | error e => exact hx pins σ H s e s' I hq
  | ok fl =>
    cases fl with
    | ret u => exact I.after hq
    | next => exact False.elim hq
    | brk => exact False.elim hq
    | cont => exact False.elim hq
/-- the class at C has the def at g as its special m -/
structure Sp1 (K : PySem.W.Frag) (C g : Addr) (m : Str) : Prop where
  at_ : PySem.W.findIn K (.ref C) m = some (some (.ref g))
  fn : PySem.W.isFn K (.ref g) = true
theorem ins_inst {a C dx : Addr} {fs : List (Str × V)} (I : Inv X pins σ H s) (ea : H a = some (.ins C dx fs)) : ∃ ox od, PySem.W.InstAt s.heap a ox C od := by
  obtain ⟨mA, O, _⟩ := ins_get I.hok ea
  obtain ⟨od, J, _⟩ := O.look
  exact ⟨_, _, J⟩
def rLenO (C : Addr) (sp : Sp) (E : XK) : List V → Hp → VK → Prop := fun xs H Q => ∃ a dx fs, xs = [.ref a] ∧ H a = some (.ins C dx fs) ∧ sp [.ref a] H (fun v H' => ∃ n : Nat, v = .int n ∧ n < 2 ^ 62 ∧ Q (.int n) H') E
theorem call_lenO (c : Sp1 X.K C g "__len__") (F : FnR X.prog X.w X.K X.mg X.base CX k g sp) (hr : Room (k + 1) X.A) (hx : Passes CX X E) : CallR X (.builtin "len") (rLenO C sp E) := by
  intro pins s σ H xs us Q I r h
  obtain ⟨a, dx, fs, rfl, ea, q⟩ := h
  obtain ⟨u, rfl, r1⟩ := vals1 r
  obtain rfl : u = Value.ref a := r1
  obtain ⟨ox, od, J⟩ := ins_inst I ea
  obtain ⟨m, hF⟩ := I.fr
  refine PySem.W.len_K hF I.ok.mod.kin J c.at_ c.fn (wpAny_mono (run_fnRA (us := [.ref a]) (vs := [.ref a]) F hr.in1 rfl hx I (.cons rfl .nil) q) (fun v s' z => ?_) fun _ _ z => z)
  obtain ⟨w, H', I', rw_, n, rfl, hn, q'⟩ := z
  obtain ⟨t, rfl⟩ := (show ∃ t, v = Value.int (n : Int) t from rw_)
  have hn' : (n : Int) < 2 ^ 62 := by exact_mod_cast hn
  exact ⟨⟨Int.natCast_nonneg _, Int.lt_trans hn' (by decide)⟩, .int n, H', I'.tok _, ⟨_, rfl⟩, q'⟩
def rStrO (C : Addr) (sp : Sp) (E : XK) : List V → Hp → VK → Prop := fun xs H Q => ∃ a dx fs, xs = [.ref a] ∧ H a = some (.ins C dx fs) ∧ sp [.ref a] H (fun v H' => ∃ x : Str, v = .str x ∧ Q (.str x) H') E
theorem call_strO (c : Sp1 X.K C g "__str__") (F : FnR X.prog X.w X.K X.mg X.base CX k g sp) (hr : Room (k + 2) X.A) (hx : Passes CX X E) : CallR X (.type "str") (rStrO C sp E) := by
  intro pins s σ H xs us Q I r h
  obtain ⟨a, dx, fs, rfl, ea, q⟩ := h
  obtain ⟨u, rfl, r1⟩ := vals1 r
  obtain rfl : u = Value.ref a := r1
  obtain ⟨ox, od, J⟩ := ins_inst I ea
  refine PySem.W.kso_call hr.in1.in1.units0 I.kIn J c.at_ c.fn (wpAny_mono (run_fnRA (us := [.ref a]) (vs := [.ref a]) F hr.in1.in1 rfl hx I (.cons rfl .nil) q) (fun v s' z => ?_) fun _ _ z => z)
  obtain ⟨w, H', I', rw_, x, rfl, q'⟩ := z
  obtain ⟨t, rfl⟩ := (show ∃ t, v = Value.str x t from rw_)
  exact ⟨.str x, H', I', ⟨_, rfl⟩, q'⟩
/-! ### == and != of two instances of a class -/
def rEqO (C : Addr) (sp : Sp) (E : XK) (neg : Bool) : R2 := fun x y H Q => ∃ a b dx dy fs gs, x = .ref a ∧ y = .ref b ∧ H a = some (.ins C dx fs) ∧ H b = some (.ins C dy gs) ∧
  sp [.ref a, .ref b] H (fun v H' => ∃ t : Bool, v = .bl t ∧ Q (.bl (t != neg)) H') E
theorem op_eqO (c : Sp1 X.K C g "__eq__") (F : FnR X.prog X.w X.K X.mg X.base CX k g sp) (hr : Room k X.A) (hx : Passes CX X E) : OpR X (compareOp .Eq) (rEqO C sp E false) := by
  intro pins s σ H x y u v Q I rx ry h
  obtain ⟨a, b, dx, dy, fs, gs, rfl, rfl, ea, eb, q⟩ := h
  obtain rfl : u = Value.ref a := rx
  obtain rfl : v = Value.ref b := ry
  obtain ⟨ox, od, J⟩ := ins_inst I ea
  obtain ⟨oy, od', J'⟩ := ins_inst I eb
  obtain ⟨m, hF⟩ := I.fr
  refine PySem.W.cmp_ofEq (PySem.W.cmp_K (op := .Eq) (tb := .ref C) hr.units0 hF I.ok.mod.kin J J'.type (by simp [PySem.W.notFirst]) c.at_ c.fn ?_)
  refine wpAny_mono (run_fnRA (us := [.ref a, .ref b]) (vs := [.ref a, .ref b]) F hr rfl hx I (.cons rfl (.cons rfl .nil)) q) (fun v s' z => ?_) fun _ _ z => z
  obtain ⟨w, H', I', rw_, t, rfl, q'⟩ := z
  obtain rfl : v = Value.bool t := rw_
  refine ⟨.bl t, H', I', rfl, ?_⟩
  rw [Bool.bne_false] at q'
  exact q'
theorem ifBound_objNe {M : Model} {K : PySem.W.Frag} {A : Around} {E : Value → Shared → Prop} {s : Shared} {x C : Addr} {ox : Obj} {od : Option Obj} {args : List Value} {Q : Option Value → Shared → Prop} (X : K.In s.heap) (I : PySem.W.InstAt s.heap x ox C od)
    (hs : PySem.W.findIn K (.ref C) "__ne__" = some (some (.builtin "object.__ne__")))
    (h : wpAny M A (call (.builtin "object.__ne__") (.ref x :: args)) (fun v => Q (some v)) E s) : wpAny M A (callSpecialIfBound? (.ref x) "__ne__" args) Q E s := by
  simp only [callSpecialIfBound?, bindSpecialIfBound?]
  refine wpAny_holding (wpAny_bind (wpAny_bind (wpAny_bind (I.type.here ((PySem.W.looks_findIn X hs).here ?_)))))
  refine wpAny_bind (wpAny_askSetting (wpAny_ite ?_))
  have fin : wpAny M A (call (.builtin "object.__ne__") ([.ref x] ++ args) >>= fun v => pure (some v)) Q E s := wpAny_bind (wpAny_mono h (fun v s' h' => wpAny_pure h') fun _ _ h' => h')
  split
  · exact wpAny_bind (wpAny_of_eq (F.cmp_object.ne.bind _) (wpAny_pure (by exact fin)))
  · exact wpAny_tryCatch (wpAny_bind (wpAny_of_eq (F.cmp_object.ne.bind _) (wpAny_pure (by exact fin))))
theorem rc_ne {prog : Program} {w : World} {K : PySem.W.Frag} {A : Around} {E : Value → Shared → Prop} {s : Shared} {x C f : Addr} {ox : Obj} {od : Option Obj} {b tb : Value} {Q : Value → Shared → Prop} (hu : A.units + 1 < cLine) (X : K.In s.heap) (I : PySem.W.InstAt s.heap x ox C od)
    (hb : PySem.W.Looks (model prog w) s.heap (typeOf b) tb) (hn : PySem.W.notFirst K C tb = true) (hm : PySem.W.mroIn K C (.type "object") = some true) (hs : PySem.W.findIn K (.ref C) "__ne__" = some (some (.builtin "object.__ne__")))
    (he : PySem.W.findIn K (.ref C) "__eq__" = some (some (.ref f))) (hf : PySem.W.isFn K (.ref f) = true)
    (h : wpAny (model prog w) A.in1 (call (.ref f) [.ref x, b]) (fun v s' => ∃ t, v = .bool t ∧ Q (.bool (!t)) s') E s) : wpAny (model prog w) A (richCompare .NotEq (.ref x) b) Q E s := by
  have one : wpAny (model prog w) A (tryCompare (.ref x) "__ne__" b) (fun r s' => ∃ v, r = some v ∧ Q v s') E s := by
    unfold tryCompare
    refine wpAny_bind (ifBound_objNe X I hs (wpAny_call (codeAny_call_builtin F.cmp_object.ne.plain F.cmpEntry_ne (PySem.W.check_slot F.cmpKind_ne F.cmpSplit_ne (I.type.andThen (PySem.W.looks_mroIn X hm)) (F.cmpArgs_ne _ _) ?_))))
    unfold Builtin.«object.__ne__»
    refine wpAny_bind (wpAny_pure ?_)
    refine wpAny_bind (wpAny_cRoomFor hu ?_)
    refine wpAny_bind (m := callSpecialIfBound? (.ref x) (Str.ofString "__eq__") [b]) (PySem.W.ifBound_K X I he hf (wpAny_mono h (fun v s' hv => ?_) fun _ _ e => e))
    obtain ⟨t, rfl, q⟩ := hv
    refine wpAny_bind (wpAny_truthy_bool ?_)
    exact wpAny_pure (by exact wpAny_pure ⟨_, rfl, q⟩)
  unfold richCompare
  simp only [oneThing_ref, cmpInfo_NotEq]
  refine wpAny_holding (wpAny_bind (wpAny_cRoomFor (Nat.lt_of_succ_lt hu) ?_))
  refine wpAny_bind (I.type.here (wpAny_bind (hb.here ?_)))
  split
  · rename_i q
    have e : PySem.W.subIn K tb (.ref C) = some false := by
      rcases Bool.or_eq_true_iff.mp hn with e | e
      · rw [beq_iff_eq.mp e] at q; simp at q
      · exact beq_iff_eq.mp e
    refine wpAny_bind ((PySem.W.looks_subIn X e).here ?_)
    simp only [Bool.false_eq_true, if_false]
    refine wpAny_bind (wpAny_mono one (fun r s' z => ?_) fun _ _ e => e)
    obtain ⟨v, rfl, hq⟩ := z
    exact wpAny_pure hq
  · refine wpAny_bind (wpAny_pure ?_)
    simp only [Bool.false_eq_true, if_false]
    refine wpAny_bind (wpAny_mono one (fun r s' z => ?_) fun _ _ e => e)
    obtain ⟨v, rfl, hq⟩ := z
    exact wpAny_pure hq
/-- the class keeps object's own != -/
structure NeO (K : PySem.W.Frag) (C : Addr) : Prop where
  at_ : PySem.W.findIn K (.ref C) "__ne__" = some (some (.builtin "object.__ne__"))
  mro : PySem.W.mroIn K C (.type "object") = some true
theorem op_neO (c : Sp1 X.K C g "__eq__") (n : NeO X.K C) (F : FnR X.prog X.w X.K X.mg X.base CX k g sp) (hr : Room (k + 1) X.A) (hx : Passes CX X E) : OpR X (compareOp .NotEq) (rEqO C sp E true) := by
  intro pins s σ H x y u v Q I rx ry h
  obtain ⟨a, b, dx, dy, fs, gs, rfl, rfl, ea, eb, q⟩ := h
  obtain rfl : u = Value.ref a := rx
  obtain rfl : v = Value.ref b := ry
  obtain ⟨ox, od, J⟩ := ins_inst I ea
  obtain ⟨oy, od', J'⟩ := ins_inst I eb
  have hu : X.A.units + 1 < cLine := by have := hr.un; omega
  refine PySem.W.cmp_ofNotEq (rc_ne hu I.kIn J J'.type (by simp [PySem.W.notFirst]) n.mro n.at_ c.at_ c.fn ?_)
  refine wpAny_mono (run_fnRA (us := [.ref a, .ref b]) (vs := [.ref a, .ref b]) F hr.in1 rfl hx I (.cons rfl (.cons rfl .nil)) q) (fun v s' z => ?_) fun _ _ z => z
  obtain ⟨w, H', I', rw_, t, rfl, q'⟩ := z
  obtain rfl : v = Value.bool t := rw_
  refine ⟨t, rfl, .bl (!t), H', I', rfl, ?_⟩
  rw [Bool.bne_true] at q'
  exact q'
end
/-! ### making -/
section
variable {X : Cx} {CX : CXT} {k i : Nat} {f C : Addr} {sp : Sp} {E : XK} {x : Str} {e : Expr} {te : TE} {p pos sp_ : Pos}
theorem pe_makeR0 (M : Mk X.K C f) (F : FnR X.prog X.w X.K X.mg X.base CX k f sp) (hr : Room (k + 1) X.A) (hg : Gl X x) (hm : X.mg x = some (.ref C)) (hx : Passes CX X E) (hdb : (x == ("__debug__" : Str)) = false := by decide) :
    PE X (.Call (.Name x p) [] [] pos) (StX.tMakeR C sp E tNil) := by
  refine ⟨fun pins s σ H Q I h => ?_⟩
  refine wpAny_Call_Name_kw (ld_glob I hg hm ?_ hdb)
  exact PySem.W.callWith_K0 I.kIn M.kp (StX.run_makeR (us := []) M F hr hx I .nil h)
/-- x(*e), x a variable that holds the class at C -/
def tMakeVS (K : PySem.W.Frag) (C : Addr) (sp : Sp) (E : XK) (tx te : TE) : TE := fun σ H Q => tx σ H fun c H0 => c = .ref C ∧ te σ H0 fun y H1 => ∃ a xs, y = .ref a ∧ (SqT K H1 a xs ∨ SqL K H1 a xs) ∧
  ∀ x dx, H1 x = none → H1 dx = none → dx ≠ x → sp (V.ref x :: xs) (upd (upd H1 dx (.own x)) x (.ins C dx [])) (fun v H2 => v = .non ∧ Q (.ref x) H2) E
theorem pe_makeVS {tx : TE} (M : Mk X.K C f) (F : FnR X.prog X.w X.K X.mg X.base CX k f sp) (hr : Room (k + 1) X.A) (hx : Passes CX X E) (hv : PE X (.Name x p) tx) (he : PE X e te)
    (hst : starEach [.Starred e sp_] X.env = [(true, eval e X.env)] := by rfl) : PE X (.Call (.Name x p) [.Starred e sp_] [] pos) (tMakeVS X.K C sp E tx te) := by
  refine ⟨fun pins s σ H Q I h => ?_⟩
  refine wpAny_Call_Name_kw (thn (hv.run pins s σ H _ I h) fun u s1 ⟨c, H0, I0, rc, ec, q⟩ => ?_)
  subst ec
  obtain rfl : u = Value.ref C := rc
  refine PySem.W.callWith_S (h₀ := X.base) I.ok.mod.kin M.kp (thn (he.run pins s1 σ H0 _ I0 q) fun v s2 ⟨y, H1, I1, ry, a, xs, ey, hxs, q1⟩ => ?_) hst
  subst ey
  obtain rfl : v = Value.ref a := ry
  exact StX.star_any I1 hxs fun us s3 I3 rv => ⟨I3.kIn, StX.run_makeR M F hr hx I3 rv q1⟩
/-- C(*e), C a class of the module -/
theorem pe_makeS (M : Mk X.K C f) (F : FnR X.prog X.w X.K X.mg X.base CX k f sp) (hr : Room (k + 1) X.A) (hg : Gl X x) (hm : X.mg x = some (.ref C)) (hx : Passes CX X E) (he : PE X e te) (hdb : (x == ("__debug__" : Str)) = false := by decide)
    (hst : starEach [.Starred e sp_] X.env = [(true, eval e X.env)] := by rfl) : PE X (.Call (.Name x p) [.Starred e sp_] [] pos) (tMakeVS X.K C sp E (tC (.ref C)) te) :=
  pe_makeVS M F hr hx (pe_glob (v := .ref C) hg hm rfl hdb) he hst
end
end Ly

namespace Ly
open PySem PySem.Spec PyProof.Rows L2
section
variable {P : Program} {w : World} {K : PySem.W.Frag} {mg : Str → Option Value} {base : Heap} {k : Nat} {f : Addr} {fd : FuncData} {x qual : Str} {st : Stmt} {N ps : List Str} {pv : Str} {sp : Sp}
/-- a def whose last parameter takes what is left -/
theorem fun_star (F : Fun K x qual st f fd) (S : FnScope N (ps ++ [pv]) (defScope st))
    (hb : ∀ (kV doc pm : Value) (an : Option Addr) (cdv ct : Value) (us rest : List Value), us.length = ps.length → bindArgs (PySem.W.fnOf x qual (defArgs st) (defBody st) (defScope st) .none kV doc pm an cdv ct) ⟨us ++ rest, []⟩ = (newTuple rest >>= fun t => pure (ps.zip us ++ [(pv, t)])))
    (hbody : ∀ (cdv : Value) (A : Around) (outer : List Env) (s : Shared) (H : Hp) (vs : List V) (Q : VK) (E : XK), Room k (A.deeper (envOfC qual (defScope st) s.heap.objs.size f cdv)) → sp vs H Q E →
      ∃ t, PSs (cxOf CX0 P w K mg base N qual (defScope st) f cdv A outer s H E).nox (defBody st) t ∧ t { nx := fun _ H' => Q .non H', rt := Q } (start N vs) H) :
    FnR P w K mg base CX0 (k + 1) f (fun vs H Q E => ∃ ws rest, vs = ws ++ rest ∧ ws.length = ps.length ∧ rest.length ≤ sizeLine ∧ ∀ p, H p = none → sp (ws ++ [V.ref p]) (upd H p (.tup rest)) Q E) := by
  obtain ⟨oc, od, kV, doc, pm, an, cdv, ct, osl, rfl, lk, hcd⟩ := F.ex
  refine StX.fn_star lk hcd S StX.cxUp_none (fun us rest h => hb kV doc pm an cdv ct us rest h) fun A outer s H vs Q E hr hsp => ?_
  obtain ⟨t, h, q⟩ := hbody cdv A outer s H vs Q E hr hsp
  exact ⟨t, h.nox, q⟩
/-- a def of a class -/
structure Dm (K : PySem.W.Frag) (x qual : Str) (st : Stmt) (ps : List Str) (f : Addr) (fd : FuncData) : Prop where
  F : Fun K x qual st f fd
  b : Binds K fd ps []
theorem Dm.raw {CX : CXT} {x qual : Str} {st : Stmt} (D : Dm K x qual st ps f fd) (o : FnOk P w K mg base CX k f fd ps sp) : FnR P w K mg base CX k f sp := by
  have z := o.raw D.b .nil
  exact z.imp fun vs H Q E h => by rw [List.append_nil]; exact h
end
end Ly
namespace Ly
open PySem PySem.Spec PyProof.Rows L2
/-- a comprehension over things that stay: what is kept is told by f -/
theorem lc_fm {J : It} {g : TG} {tt : TT} {te : TE} {vs : List Nat} {σ : L2.St} {H1 : Hp} {D : Addr} {Qd : Hp → Prop} (xs : List V) (f : V → Option V) (nD : H1 D = none) (hz : xs.length ≤ sizeLine)
    (hgo : ∀ (i : Nat) (H : Hp), i < xs.length → Same H1 H → J.go i H) (hst : ∀ H, Same H1 H → J.stop xs.length H) (hy : ∀ (i : Nat) (x : V) (H H' : Hp), Same H1 H → J.yld i H x H' → H' = H ∧ xs[i]? = some x)
    (hs : ∀ (i : Nat) (x : V) (H : Hp) (Q : VK) (N : Hp → Prop), xs[i]? = some x → Same H1 H → (∀ y H4, f x = some y → Same H H4 → Q y H4) → (f x = none → ∀ H4, Same H H4 → N H4) →
      g x (wipe σ vs) H fun σ2 H2 => wipe σ2 vs = wipe σ vs ∧ tt σ2 H2 fun b H3 => if b = true then te σ2 H3 Q else N H3)
    (hd : ∀ H', Same H1 H' → H' D = some (.lst (xs.filterMap f)) → Qd H') : LcW J g tt te vs σ H1 D Qd := by
  refine lc_gen (n := xs.length) (fun i H => Same H1 H ∧ H D = some (.lst ((xs.take i).filterMap f))) ⟨same_new nD, upd_same⟩ (fun i H hi p => hgo i H hi p.1) (fun H p => hst H p.1) (fun i x H H' hi p y => ?_) (fun H p => ?_)
  · obtain ⟨s, hd'⟩ := p
    obtain ⟨rfl, hx⟩ := hy i x H H' s y
    have hstep : ∀ o : Option V, f x = o → (xs.take (i + 1)).filterMap f = (xs.take i).filterMap f ++ o.toList := fun o e => by
      rw [List.take_add_one, hx, List.filterMap_append]
      show _ ++ [x].filterMap f = _
      rw [List.filterMap_cons, e]
      cases o <;> rfl
    refine hs i x H' _ _ hx s (fun y H4 e s4 => ⟨_, s4 _ _ hd', ?_, same_set (s.trans s4) nD, ?_⟩) fun e H4 s4 => ⟨s.trans s4, ?_⟩
    · refine Nat.lt_of_le_of_lt (List.length_filterMap_le _ _) ?_
      rw [List.length_take]
      omega
    · rw [upd_same, hstep _ e]
      rfl
    · rw [hstep _ e, s4 _ _ hd']
      show _ = some (HO.lst (_ ++ []))
      rw [List.append_nil]
  · obtain ⟨s, hd'⟩ := p
    rw [List.take_of_length_le (Nat.le_refl _)] at hd'
    exact hd H s hd'
theorem filterMap_some {α β : Type} (f : α → β) : ∀ xs : List α, xs.filterMap (fun x => some (f x)) = xs.map f
  | [] => rfl
  | x :: xs => by
    rw [List.filterMap_cons, filterMap_some f xs]
    rfl
/-- .. over a tuple, all of it -/
theorem lc_mapT {K : PySem.W.Frag} {a : Addr} {g : TG} {tt : TT} {te : TE} {vs : List Nat} {σ : L2.St} {H1 : Hp} {D : Addr} {Qd : Hp → Prop} (xs : List V) (f : V → V) (hS : SqT K H1 a xs) (nD : H1 D = none) (hz : xs.length ≤ sizeLine)
    (hs : ∀ (i : Nat) (x : V) (H : Hp) (Q : VK) (N : Hp → Prop), xs[i]? = some x → Same H1 H → (∀ H4, Same H H4 → Q (f x) H4) → g x (wipe σ vs) H fun σ2 H2 => wipe σ2 vs = wipe σ vs ∧ tt σ2 H2 fun b H3 => if b = true then te σ2 H3 Q else N H3)
    (hd : ∀ H', Same H1 H' → H' D = some (.lst (xs.map f)) → Qd H') : LcW (Itt K a) g tt te vs σ H1 D Qd := by
  refine lc_tup (xs := xs) (fun i H => Same H1 H ∧ H D = some (.lst ((xs.take i).map f))) ⟨same_new nD, upd_same⟩ (fun i H _ p => sameT p.1 hS) (fun i x H hx p => ?_) (fun H p => ?_)
  · obtain ⟨s, hd'⟩ := p
    refine hs i x H _ _ hx s fun H4 s4 => ⟨_, s4 _ _ hd', ?_, same_set (s.trans s4) nD, ?_⟩
    · rw [List.length_map, List.length_take]
      have := (List.getElem?_eq_some_iff.mp hx).1
      omega
    · rw [upd_same, List.take_add_one, hx, List.map_append]
      rfl
  · obtain ⟨s, hd'⟩ := p
    rw [List.take_of_length_le (Nat.le_refl _)] at hd'
    exact hd H s hd'
/-- .. over a list -/
theorem lc_mapL {K : PySem.W.Frag} {a : Addr} {g : TG} {tt : TT} {te : TE} {vs : List Nat} {σ : L2.St} {H1 : Hp} {D : Addr} {Qd : Hp → Prop} (xs : List V) (f : V → Option V) (hS : SqL K H1 a xs) (nD : H1 D = none) (hz : xs.length ≤ sizeLine)
    (hs : ∀ (i : Nat) (x : V) (H : Hp) (Q : VK) (N : Hp → Prop), xs[i]? = some x → Same H1 H → (∀ y H4, f x = some y → Same H H4 → Q y H4) → (f x = none → ∀ H4, Same H H4 → N H4) →
      g x (wipe σ vs) H fun σ2 H2 => wipe σ2 vs = wipe σ vs ∧ tt σ2 H2 fun b H3 => if b = true then te σ2 H3 Q else N H3)
    (hd : ∀ H', Same H1 H' → H' D = some (.lst (xs.filterMap f)) → Qd H') : LcW (Itl K a) g tt te vs σ H1 D Qd := by
  have hS' : ∀ H, Same H1 H → SqL K H a xs := fun H s => by
    rcases hS with (h | ⟨o, h⟩) | h
    · exact .inl (.inl (s _ _ h))
    · exact .inl (.inr ⟨o, s _ _ h⟩)
    · exact .inr h
  refine lc_list (xs := xs) (fun i H => Same H1 H ∧ H D = some (.lst ((xs.take i).filterMap f))) ⟨same_new nD, upd_same⟩ (fun i H _ p => hS' H p.1) (fun i x H hx p => ?_) (fun H p => ?_)
  · obtain ⟨s, hd'⟩ := p
    have hi := (List.getElem?_eq_some_iff.mp hx).1
    have hstep : ∀ o : Option V, f x = o → (xs.take (i + 1)).filterMap f = (xs.take i).filterMap f ++ o.toList := fun o e => by
      rw [List.take_add_one, hx, List.filterMap_append]
      show _ ++ [x].filterMap f = _
      rw [List.filterMap_cons, e]
      cases o <;> rfl
    refine hs i x H _ _ hx s (fun y H4 e s4 => ⟨_, s4 _ _ hd', ?_, same_set (s.trans s4) nD, ?_⟩) fun e H4 s4 => ⟨s.trans s4, ?_⟩
    · refine Nat.lt_of_le_of_lt (List.length_filterMap_le _ _) ?_
      rw [List.length_take]
      omega
    · rw [upd_same, hstep _ e]
      rfl
    · rw [hstep _ e, s4 _ _ hd']
      show _ = some (HO.lst (_ ++ []))
      rw [List.append_nil]
  · obtain ⟨s, hd'⟩ := p
    rw [List.take_of_length_le (Nat.le_refl _)] at hd'
    exact hd H s hd'
end Ly

set_option Elab.async false
set_option linter.all false
set_option maxRecDepth 100000
set_option maxHeartbeats 8000000
namespace K02
open PySem PySem.Spec PyProof.Rows L2 Ly Cut

abbrev s_init : Stmt := inClass (topS 25) 0
abbrev N_init : List Str := ["self", "parts"]
abbrev P_init : List Str := ["self", "parts"]
theorem sc_init : FnScope N_init P_init (defScope s_init) := ⟨rfl, rfl, rfl, by decide +kernel, rfl, by decide +kernel, by decide +kernel⟩

section
variable {P : Program} {w : World} {K : PySem.W.Frag} {mg : Str → Option Value} {base : Heap} {f : Addr} {fd : FuncData}
def spIsPart : Sp := fun vs H Q _ => ∃ p : Part, vs = [.str p.text] ∧ Ok p ∧ ∀ H', Same H H' → Q (.bl true) H'
def spCheck (K : PySem.W.Frag) : Sp := fun vs H Q _ => ∃ (a : Addr) (ps : List Part), vs = [.ref a] ∧ SqT K H a (pV ps) ∧ (∀ p ∈ ps, Ok p) ∧ ps.length ≤ 4 ∧ ∀ H', Same H H' → Q .non H'
theorem ok_is_part (Z : Zs mg) (D : Df K mg "is_part" s_is_part P_is_part f fd) : FnOk P w K mg base CX0 1 f fd P_is_part spIsPart := by
  refine D.F.ok sc_is_part (fun vs H Q E h => ?_) (fun cdv A outer s H vs Q E hr h => ?_)
  · obtain ⟨p, rfl, _⟩ := h
    rfl
  · obtain ⟨p, rfl, hok, q⟩ := h
    have nd := sc_is_part.nd
    refine ⟨_,
    (pss_cons
    (ps_if (pt_not (pt_val (pe_callB call_isi (by rfl) Z.z_isinstance (by decide +kernel) (pa_cons (pv 0) (pa_cons (pe_bltn (v := .ty "str") (by rfl) Z.z_str (by decide +kernel) rfl) pa_nil)))))
      (pss_one
      (ps_ret pe_bl))
      pss_nil)
    (pss_cons
    (ps_if (pt_cmpR op_eq (pv 0) (pe_gS rfl Z.g_KEEP_ALL) (nomark _))
      (pss_one
      (ps_ret pe_bl))
      pss_nil)
    (pss_cons
    (ps_asg (pe_partition (pv 0) (pe_gS rfl Z.g_DOTS)) (pg_tup rfl (pgs_cons (pg_name (i := 1) nd rfl (Or.inl rfl)) (pgs_cons (pg_name (i := 2) nd rfl (Or.inl rfl)) (pgs_cons (pg_name (i := 3) nd rfl (Or.inl rfl)) pgs_nil)))))
    (pss_cons
    (ps_if (PW.pt (pw_or (pt_cmpR op_ne (pv 2) (pe_gS rfl Z.g_DOTS) (nomark _)) (pw_or (pt_cmpR op_gt (pe_callB call_len_str (by rfl) Z.z_len (by decide +kernel) (pa_cons (pv 1) pa_nil)) (pe_gI rfl Z.g_MAX_FRONT) (nomark _)) (pw_or1 (pt_cmpR op_gt (pe_callB call_len_str (by rfl) Z.z_len (by decide +kernel) (pa_cons (pv 3) pa_nil)) (pe_gI rfl Z.g_MAX_BACK) (nomark _))))))
      (pss_one
      (ps_ret pe_bl))
      pss_nil)
    (pss_one
    (ps_ret (pe_callB (cr_all rfl) (by rfl) Z.z_all (by decide +kernel) (pa_cons (pe_lc (own := [("sign", 4)]) (g := gName 4) (tt := tYes) rfl nd (pi_str (pe_op op_add_str (pv 1) (pv 3))) (blkOk_by (N := N_is_part) (sc := defScope s_is_part) (by decide +kernel)) (fun _ _ _ _ _ => (pg_name (i := 4) nd rfl (Or.inl rfl))) (fun _ _ _ _ _ => pts_nil) (fun _ _ _ _ _ => (pe_cmpR (inK (K := K) rfl) (pv 4) (pe_tup (pa_cons pe_str (pa_cons pe_str pa_nil))) (by rfl)))) pa_nil)))))))), ?_⟩
    refine ⟨_, rfl, .str p.text, .ty "str", _, _, true, rfl, .ty _, .base (.str p.text), kit_ty (by decide +kernel), true, rfl, ?_⟩
    refine ⟨_, rfl, rfl, _, rfl, ?_⟩
    cases p with
    | all => exact ifT (decide_eq_true rfl) (q H (Same.refl H))
    | pat f b =>
      have F := pat_facts hok
      obtain ⟨hf, hb⟩ := (show f.length ≤ 2 ∧ b.length ≤ 3 from hok)
      refine ifF (decide_eq_false fun z => F.ne (V.str.inj z)) ?_
      dsimp only [tNext]
      refine ⟨_, rfl, ⟨_, rfl⟩, _, _, rfl, rfl, by decide +kernel, sz1000 (Nat.lt_of_le_of_lt F.len (by decide)), fun a na => ?_⟩
      rw [F.part]
      refine ⟨a, _, rfl, .of upd_same, rfl, _, _, rfl, _, _, rfl, _, _, rfl, rfl, ?_⟩
      have s1 := same_new (o := .tup [V.str (sT f), .str ".." , .str (sT b)]) na
      generalize upd H a _ = H1 at s1 ⊢
      refine ⟨_, rfl, rfl, _, rfl, ifF rfl ?_⟩
      refine ⟨_, rfl, sT f, rfl, by rw [sT_len]; exact sz1000 (by omega), _, _, rfl, rfl, _, rfl, ?_⟩
      rw [sT_len]
      refine ifF (decide_eq_false (by omega)) ?_
      refine ⟨_, rfl, sT b, rfl, by rw [sT_len]; exact sz1000 (by omega), _, _, rfl, rfl, _, rfl, ?_⟩
      rw [sT_len]
      refine ifF (decide_eq_false (by omega)) ?_
      dsimp only [tNext]
      refine ⟨_, rfl, _, rfl, sT f, sT b, rfl, rfl, by rw [sT_len, sT_len]; exact sz1000 (by omega), sT f ++ sT b, rfl, fun D9 nD => ?_⟩
      have hall : ∀ c ∈ (sT f ++ sT b).cps.toList, c = 43 ∨ c = 45 := fun c hc => by
        rw [app_cps] at hc
        rcases List.mem_append.mp hc with h | h
        · exact sT_sign h
        · exact sT_sign h
      have hlen : (sT f ++ sT b).cps.toList.length ≤ 5 := by
        rw [app_cps, List.length_append, str_len, str_len, sT_len, sT_len]
        omega
      generalize sT f ++ sT b = z at hall hlen ⊢
      refine lc_gen (n := z.cps.size) (fun i H' => Same H1 H' ∧ H' D9 = some (.lst ((List.replicate i true).map V.bl))) ⟨same_new nD, upd_same⟩ (fun i H' hi _ => hi) (fun H' _ => Nat.le_refl _) ?_ ?_
      · intro i x H2 H' hi hP y
        obtain ⟨rfl, c, hc, rfl⟩ := y
        obtain ⟨s2, hd⟩ := hP
        have hl : z.cps.size = z.cps.toList.length := by simp
        have hc' : c = 43 ∨ c = 45 := hall c (List.mem_of_getElem? (by simpa using hc))
        refine ⟨rfl, _, rfl, by show 2 ≤ sizeLine; decide, fun t nt => ⟨t, _, rfl, .inr (.of upd_same), rfl, rfl, _, same_new nt _ _ hd, ?_, ?_, ?_⟩⟩
        · rw [List.length_map, List.length_replicate]
          exact small1000 (by omega)
        · refine same_set (s2.trans (same_new nt)) ?_
          exact nD
        · rw [upd_same]
          have e1 : (if false = true then !inV (V.str ⟨#[c]⟩) [V.str "+", V.str "-"] else inV (V.str ⟨#[c]⟩) [V.str "+", V.str "-"]) = true := by
            rcases hc' with e | e <;> rw [e] <;> decide +kernel
          rw [e1, List.replicate_succ', List.map_append]
          rfl
      · intro H' hP
        obtain ⟨s2, hd⟩ := hP
        refine ⟨D9, _, rfl, .of hd, ?_⟩
        have e1 : (List.replicate z.cps.size true).all id = true := by
          rw [List.all_eq_true]
          intro x hx
          rw [(List.mem_replicate.mp hx).2]
          rfl
        rw [e1]
        exact q H' (s1.trans s2)

theorem ok_check (Z : Zs mg) (D : Df K mg "check_parts" s_check_parts P_check_parts f fd) {fp : Addr} {dp : FuncData} (D_is_part : Cl P w K mg base "is_part" 1 fp dp P_is_part spIsPart) : FnOk P w K mg base CX0 2 f fd P_check_parts (spCheck K) := by
  refine D.F.ok sc_check_parts (fun vs H Q E h => ?_) (fun cdv A outer s H vs Q E hr h => ?_)
  · obtain ⟨a, ps, rfl, _⟩ := h
    rfl
  · obtain ⟨a, ps, rfl, hS, hok, hl, q⟩ := h
    have nd := sc_check_parts.nd
    refine ⟨_,
    (pss_one
    (ps_for PassesOwn.never rfl (pi_enumT (by rfl) Z.z_enumerate (pa_cons (pv 0) pa_nil)) (pg_tup rfl (pgs_cons (pg_name (i := 1) nd rfl (Or.inl rfl)) (pgs_cons (pg_name (i := 2) nd rfl (Or.inl rfl)) pgs_nil)))
      (pss_cons
      (ps_if (pt_cmpR op_ge (pv 1) (pe_gI rfl Z.g_MAX_PARTS) (nomark _))
        (pss_one
        ps_never)
        pss_nil)
      (pss_one
      (ps_if (pt_not (pt_val (pe_call D_is_part.ok (hr.mono (by decide)) (by rfl) D_is_part.g D_is_part.kp D_is_part.b .nil pass0 (pa_cons (pv 2) pa_nil))))
        (pss_one
        ps_never)
        pss_nil))))), ?_⟩
    refine ⟨_, rfl, a, _, rfl, hS, ?_⟩
    refine for_enumT (xs := pV ps) (fun i σ' H' => Same H H' ∧ ∃ x1 x2, σ' = [some (.ref a), x1, x2]) ⟨Same.refl H, none, none, rfl⟩ (fun i σ' H' _ hP => sameT hP.1 hS) (fun i x σ' H1 T hx hP nT => ?_) (fun σ' H1 hP => ?_)
    · obtain ⟨s1, x1, x2, rfl⟩ := hP
      obtain ⟨pt, hpt, rfl⟩ : ∃ pt, ps[i]? = some pt ∧ x = V.str pt.text := by
        have hx' : (ps.map fun p => V.str p.text)[i]? = some x := hx
        rw [List.getElem?_map] at hx'
        cases e : ps[i]? with
        | none => rw [e] at hx'; cases hx'
        | some pt =>
          rw [e] at hx'
          exact ⟨pt, rfl, (Option.some.inj hx').symm⟩
      have hi := (List.getElem?_eq_some_iff.mp hpt).1
      refine ⟨T, _, rfl, .of upd_same, rfl, _, _, rfl, _, _, rfl, rfl, ?_⟩
      refine ⟨_, rfl, _, _, rfl, rfl, _, rfl, ifF (decide_eq_false (by omega)) ?_⟩
      dsimp only [tNext]
      refine ⟨_, rfl, pt, rfl, hok pt (List.mem_of_getElem? hpt), fun H2 s2 => ⟨true, rfl, ifF rfl ?_⟩⟩
      exact ⟨(s1.trans (same_new nT)).trans s2, _, _, rfl⟩
    · obtain ⟨s1, x1, x2, rfl⟩ := hP
      exact q H1 s1

end
end K02
set_option Elab.async false
set_option linter.all false
set_option maxRecDepth 100000
set_option maxHeartbeats 4000000
/-! cutters as objects -/
namespace Cut
open PySem PySem.Spec PyProof.Rows L2 Ly
theorem pV_len (ps : List Part) : (pV ps).length = ps.length := List.length_map _
theorem pV_get {ps : List Part} {i : Nat} {x : V} (hx : (pV ps)[i]? = some x) : ∃ pt, ps[i]? = some pt ∧ x = V.str pt.text := by
  have hx' : (ps.map fun p => V.str p.text)[i]? = some x := hx
  rw [List.getElem?_map] at hx'
  cases e : ps[i]? with
  | none => rw [e] at hx'; cases hx'
  | some pt =>
    rw [e] at hx'
    exact ⟨pt, rfl, (Option.some.inj hx').symm⟩
/-- the value at a place -/
def atV (xs : List V) : V → V
  | .int i => xs.getD i.toNat .non
  | _ => .non
theorem map_atV (ps : List Part) (xs : List V) : (iV (places ps xs.length)).map (atV xs) = run ps xs := by
  rw [run_get]
  have h : ∀ l : List Nat, (∀ i ∈ l, i < xs.length) → (iV l).map (atV xs) = l.filterMap fun i => xs[i]? := by
    intro l
    induction l with
    | nil => intro _; rfl
    | cons a l ih =>
      intro h
      have ha := h a List.mem_cons_self
      rw [List.filterMap_cons, List.getElem?_eq_getElem ha, ← ih fun i hi => h i (List.mem_cons_of_mem _ hi)]
      show xs.getD (a : Int).toNat .non :: _ = _
      rw [Int.toNat_natCast, List.getD_eq_getElem?_getD, List.getElem?_eq_getElem ha]
      rfl
  exact h _ fun i hi => places_lt hi
/-- where the five places stand in a longer row, as values -/
def embV (n : Nat) : V → V
  | .int i => .int (if i < 2 then i else i + ((n : Int) - 5))
  | _ => .non
theorem map_embV {ps : List Part} (hok : ∀ p ∈ ps, Ok p) (h : keepsAll ps = false) {n : Nat} (hn : 5 ≤ n) : (iV (places ps 5)).map (embV n) = iV (places ps n) := by
  rw [places_five ps hok h n hn]
  unfold iV
  rw [List.map_map, List.map_map]
  refine List.map_congr_left fun i _ => ?_
  show V.int (if (i : Int) < 2 then (i : Int) else (i : Int) + ((n : Int) - 5)) = V.int ((emb n i : Nat) : Int)
  unfold emb
  by_cases h2 : i < 2
  · rw [if_pos h2, if_pos (by omega)]
  · rw [if_neg h2, if_neg (by omega)]
    refine congrArg V.int ?_
    omega
theorem iV_getI {l : List Nat} {i : Nat} {x : V} (hx : (iV l)[i]? = some x) : ∃ m : Nat, l[i]? = some m ∧ x = .int (m : Int) := by
  have hx' : (l.map fun (i : Nat) => V.int (i : Int))[i]? = some x := hx
  rw [List.getElem?_map] at hx'
  cases e : l[i]? with
  | none => rw [e] at hx'; cases hx'
  | some m =>
    rw [e] at hx'
    exact ⟨m, rfl, (Option.some.inj hx').symm⟩
/-- a cutter with these parts stands at x -/
structure CutAt (C : Addr) (H : Hp) (x : Addr) (ps : List Part) : Prop where
  ok : ∀ p ∈ ps, Ok p
  le : ps.length ≤ 4
  ex : ∃ (dx p t : Addr) (ts : List V), H x = some (.ins C dx [("_parts", .ref p), ("_table", .ref t), ("_keeps_all", .bl (keepsAll ps))]) ∧ H p = some (.tup (pV ps)) ∧ H t = some (.tup ts) ∧ ts.length = 7 ∧ ∀ i, i < 7 → ∃ q, ts[i]? = some (.ref q) ∧ H q = some (.tup (iV (places ps i)))
theorem CutAt.mono {C x : Addr} {H H' : Hp} {ps : List Part} (c : CutAt C H x ps) (k : ∀ b o, (∀ xs, o ≠ .lst xs) → H b = some o → H' b = some o) : CutAt C H' x ps := by
  obtain ⟨dx, p, t, ts, h1, h2, h3, hl, h4⟩ := c.ex
  refine ⟨c.ok, c.le, dx, p, t, ts, k _ _ (fun _ z => nomatch z) h1, k _ _ (fun _ z => nomatch z) h2, k _ _ (fun _ z => nomatch z) h3, hl, fun i hi => ?_⟩
  obtain ⟨q, e, hq⟩ := h4 i hi
  exact ⟨q, e, k _ _ (fun _ z => nomatch z) hq⟩
theorem CutAt.same {C x : Addr} {H H' : Hp} {ps : List Part} (c : CutAt C H x ps) (s : Same H H') : CutAt C H' x ps := c.mono fun b o _ h => s b o h
theorem CutAt.chg {C x d : Addr} {H H' : Hp} {ps : List Part} {xs : List V} (c : CutAt C H x ps) (s : Chg d H H') (hd : H d = some (.lst xs)) : CutAt C H' x ps :=
  c.mono fun b o n h => s b o (fun e => n xs (by rw [e, hd] at h; exact (Option.some.inj h).symm)) h
/-- what the class must have -/
structure CK (K : PySem.W.Frag) (C : Addr) : Prop where
  cls : Cls K C
  np : NoAttr K C "_parts"
  nt : NoAttr K C "_table"
  nk : NoAttr K C "_keeps_all"
  cc : PySem.W.findIn K (.ref C) "__class__" = some (some (.builtin "object.__class__"))
  cg : PySem.W.specialIn K (.builtin "object.__class__") "__get__" = some (some (.builtin "getset_descriptor.__get__"))
  ct : PySem.W.takesIn K (.builtin "object.__class__") = some true
  cm : PySem.W.mroIn K C (.type "object") = some true
  kit : PySem.W.kitOne K (.ref C) (.ref C) = some true
theorem CK.ty {K : PySem.W.Frag} {C : Addr} (c : CK K C) {H : Hp} {a dx : Addr} {fs : List (Str × V)} (e : H a = some (.ins C dx fs)) : TyX K H (.ref a) (.ref C) := .base (.ins e c.cls c.cc c.cg c.ct c.cm)
/-! ### tables as data -/
def dI (l : List Nat) : PyData := .tuple (l.map fun (i : Nat) => PyData.int (i : Int))
def dT (ps : List Part) : PyData := .tuple ((List.range 7).map fun i => dI (places ps i))
/-- the two keep the same of up to six places -/
def alike (ps qs : List Part) : Bool := (List.range 7).all fun i => decide (places ps i = places qs i)
theorem dpAll_iV {K : PySem.W.Frag} {H : Hp} : ∀ l : List Nat, DpAll K H (iV l) (l.map fun (i : Nat) => PyData.int (i : Int))
  | [] => .nil
  | i :: l => .cons (.int _) (dpAll_iV l)
theorem dp_iV {K : PySem.W.Frag} {H : Hp} {q : Addr} {l : List Nat} (h : H q = some (.tup (iV l))) : Dp K H (.ref q) (dI l) := .tup (.of h) (dpAll_iV l)
theorem dpAll_of {K : PySem.W.Frag} {H : Hp} {α : Type} (d : α → PyData) : ∀ (l : List α) (ts : List V), ts.length = l.length → (∀ (i : Nat) (x : α), l[i]? = some x → ∃ v, ts[i]? = some v ∧ Dp K H v (d x)) → DpAll K H ts (l.map d)
  | [], [], _, _ => .nil
  | [], _ :: _, h, _ => by cases h
  | _ :: _, [], h, _ => by cases h
  | x :: l, t :: ts, h, k => by
    obtain ⟨v, e, hv⟩ := k 0 x rfl
    cases e
    exact .cons hv (dpAll_of d l ts (Nat.succ.inj h) fun i y hy => k (i + 1) y hy)
theorem dp_table {K : PySem.W.Frag} {H : Hp} {t : Addr} {ts : List V} {ps : List Part} (h : H t = some (.tup ts)) (hl : ts.length = 7) (k : ∀ i, i < 7 → ∃ q, ts[i]? = some (.ref q) ∧ H q = some (.tup (iV (places ps i)))) : Dp K H (.ref t) (dT ps) := by
  refine .tup (.of h) (dpAll_of (fun i => dI (places ps i)) _ _ (by rw [hl, List.length_range]) fun i x hx => ?_)
  obtain ⟨hi, e⟩ := List.getElem?_eq_some_iff.mp hx
  rw [List.length_range] at hi
  rw [List.getElem_range] at e
  subst e
  obtain ⟨q, e1, e2⟩ := k i hi
  exact ⟨_, e1, dp_iV e2⟩
theorem eqvAll_ints : ∀ a b : List Nat, PyData.eqvAll (a.map fun (i : Nat) => PyData.int (i : Int)) (b.map fun (i : Nat) => PyData.int (i : Int)) = decide (a = b)
  | [], [] => rfl
  | [], _ :: _ => rfl
  | _ :: _, [] => rfl
  | x :: a, y :: b => by
    show (((x : Int) == (y : Int)) && PyData.eqvAll (a.map fun (i : Nat) => PyData.int (i : Int)) (b.map fun (i : Nat) => PyData.int (i : Int))) = _
    rw [eqvAll_ints a b]
    by_cases h : x = y
    · subst h
      rw [beq_self_eq_true, Bool.true_and, decide_eq_decide]
      exact ⟨fun h => by rw [h], fun h => (List.cons.inj h).2⟩
    · rw [show ((x : Int) == (y : Int)) = false from beq_eq_false_iff_ne.mpr (by omega), Bool.false_and]
      exact (decide_eq_false fun z => h (List.cons.inj z).1).symm
theorem eqv_dI (a b : List Nat) : PyData.eqv (dI a) (dI b) = decide (a = b) := eqvAll_ints a b
theorem eqvAll_map {α : Type} (f g : α → List Nat) : ∀ l : List α, PyData.eqvAll (l.map fun i => dI (f i)) (l.map fun i => dI (g i)) = l.all fun i => decide (f i = g i)
  | [] => rfl
  | x :: l => by
    show (PyData.eqv (dI (f x)) (dI (g x)) && PyData.eqvAll (l.map fun i => dI (f i)) (l.map fun i => dI (g i))) = _
    rw [eqv_dI, eqvAll_map f g l, List.all_cons]
theorem eqv_dT (ps qs : List Part) : PyData.eqv (dT ps) (dT qs) = alike ps qs := eqvAll_map _ _ _
theorem shp_ints : ∀ l : List Nat, PyData.canLayAll0 (l.map fun (i : Nat) => PyData.int (i : Int)) = true ∧ PyData.depthAll (l.map fun (i : Nat) => PyData.int (i : Int)) = 0
  | [] => ⟨rfl, rfl⟩
  | x :: l => by
    obtain ⟨h1, h2⟩ := shp_ints l
    exact ⟨h1, by show max 0 _ = 0; rw [h2]; rfl⟩
theorem shp_dI (l : List Nat) : SeqAt.shaped (dI l) = true := by
  obtain ⟨h1, h2⟩ := shp_ints l
  show (PyData.canLayAll0 (l.map fun (i : Nat) => PyData.int (i : Int)) && decide (PyData.depthAll (l.map fun (i : Nat) => PyData.int (i : Int)) + 1 ≤ 64)) = true
  rw [h1, h2]
  rfl
theorem shp_map {α : Type} (f : α → List Nat) : ∀ l : List α, PyData.canLayAll0 (l.map fun i => dI (f i)) = true ∧ PyData.depthAll (l.map fun i => dI (f i)) ≤ 1
  | [] => ⟨rfl, Nat.zero_le _⟩
  | x :: l => by
    obtain ⟨h1, h2⟩ := shp_map f l
    obtain ⟨h3, h4⟩ := shp_ints (f x)
    refine ⟨?_, ?_⟩
    · show (PyData.canLayAll0 ((f x).map fun (i : Nat) => PyData.int (i : Int)) && PyData.canLayAll0 (l.map fun i => dI (f i))) = true
      rw [h3, h1]
      rfl
    · show max (PyData.depthAll ((f x).map fun (i : Nat) => PyData.int (i : Int)) + 1) (PyData.depthAll (l.map fun i => dI (f i))) ≤ 1
      rw [h4]
      omega
theorem shp_dT (ps : List Part) : SeqAt.shaped (dT ps) = true := by
  obtain ⟨h1, h2⟩ := shp_map (fun i => places ps i) (List.range 7)
  show (PyData.canLayAll0 ((List.range 7).map fun i => dI (places ps i)) && decide (PyData.depthAll ((List.range 7).map fun i => dI (places ps i)) + 1 ≤ 64)) = true
  rw [h1]
  show decide _ = true
  exact decide_eq_true (by omega)
/-! ### what its defs promise -/
def cutText (ps : List Part) : Str := if ps = [] then "all" else Txt.join " > " (ps.map Part.text)
def spParts (C : Addr) : Sp := fun vs H Q _ => ∃ (x : Addr) (ps : List Part), vs = [.ref x] ∧ CutAt C H x ps ∧ ∀ p, H p = some (.tup (pV ps)) → Q (.ref p) H
def spKeeps (C : Addr) : Sp := fun vs H Q _ => ∃ (x : Addr) (ps : List Part), vs = [.ref x] ∧ CutAt C H x ps ∧ ∀ H', Same H H' → Q (.bl (keepsAll ps)) H'
def spCutLen (C : Addr) : Sp := fun vs H Q _ => ∃ (x : Addr) (ps : List Part), vs = [.ref x] ∧ CutAt C H x ps ∧ Q (.int ps.length) H
def spCutStr (C : Addr) : Sp := fun vs H Q _ => ∃ (x : Addr) (ps : List Part), vs = [.ref x] ∧ CutAt C H x ps ∧ ∀ H', Same H H' → Q (.str (cutText ps)) H'
def spCutEq (C : Addr) : Sp := fun vs H Q _ => ∃ (x y : Addr) (ps qs : List Part), vs = [.ref x, .ref y] ∧ CutAt C H x ps ∧ CutAt C H y qs ∧ Q (.bl (alike ps qs)) H
def spCutPlaces (C : Addr) : Sp := fun vs H Q _ => ∃ (x : Addr) (ps : List Part) (n : Nat), vs = [.ref x, .int n] ∧ CutAt C H x ps ∧ n ≤ 1000 ∧ ∀ H' q, Same H H' → H' q = some (.tup (iV (places ps n))) → Q (.ref q) H'
def spCutCall (C : Addr) : Sp := fun vs H Q _ => ∃ (x r : Addr) (ps : List Part) (xs : List V), vs = [.ref x, .ref r] ∧ CutAt C H x ps ∧ H r = some (.tup xs) ∧ xs.length ≤ 1000 ∧ ∀ H' q, Same H H' → H q = none → H' q = some (.tup (run ps xs)) → Q (.ref q) H'
def spCutOf (C : Addr) : Sp := fun vs H Q _ => ∃ (a : Addr) (ps : List Part), vs = [.ref C, .ref a] ∧ H a = some (.tup (pV ps)) ∧ (∀ p ∈ ps, Ok p) ∧ ps.length ≤ 4 ∧ ∀ H' x, Same H H' → H x = none → CutAt C H' x ps → Q (.ref x) H'
end Cut

set_option Elab.async false
set_option linter.all false
set_option maxRecDepth 100000
set_option maxHeartbeats 8000000
namespace K02
open PySem PySem.Spec PyProof.Rows L2 Ly Cut

abbrev s_of : Stmt := inClass (topS 25) 1
abbrev N_of : List Str := ["cls", "parts"]
abbrev P_of : List Str := ["cls", "parts"]
theorem sc_of : FnScope N_of P_of (defScope s_of) := ⟨rfl, rfl, rfl, by decide +kernel, rfl, by decide +kernel, by decide +kernel⟩

abbrev s_parts : Stmt := inClass (topS 25) 3
abbrev N_parts : List Str := ["self"]
abbrev P_parts : List Str := ["self"]
theorem sc_parts : FnScope N_parts P_parts (defScope s_parts) := ⟨rfl, rfl, rfl, by decide +kernel, rfl, by decide +kernel, by decide +kernel⟩

abbrev s_keeps_all : Stmt := inClass (topS 25) 4
abbrev N_keeps_all : List Str := ["self"]
abbrev P_keeps_all : List Str := ["self"]
theorem sc_keeps_all : FnScope N_keeps_all P_keeps_all (defScope s_keeps_all) := ⟨rfl, rfl, rfl, by decide +kernel, rfl, by decide +kernel, by decide +kernel⟩

abbrev s_callc : Stmt := inClass (topS 25) 5
abbrev N_callc : List Str := ["self", "row", "at"]
abbrev P_callc : List Str := ["self", "row"]
theorem sc_callc : FnScope N_callc P_callc (defScope s_callc) := ⟨rfl, rfl, rfl, by decide +kernel, rfl, by decide +kernel, by decide +kernel⟩

abbrev s_places : Stmt := inClass (topS 25) 6
abbrev N_places : List Str := ["self", "many", "between", "at"]
abbrev P_places : List Str := ["self", "many"]
theorem sc_places : FnScope N_places P_places (defScope s_places) := ⟨rfl, rfl, rfl, by decide +kernel, rfl, by decide +kernel, by decide +kernel⟩

abbrev s_lenc : Stmt := inClass (topS 25) 11
abbrev N_lenc : List Str := ["self"]
abbrev P_lenc : List Str := ["self"]
theorem sc_lenc : FnScope N_lenc P_lenc (defScope s_lenc) := ⟨rfl, rfl, rfl, by decide +kernel, rfl, by decide +kernel, by decide +kernel⟩

abbrev s_eqc : Stmt := inClass (topS 25) 12
abbrev N_eqc : List Str := ["self", "other"]
abbrev P_eqc : List Str := ["self", "other"]
theorem sc_eqc : FnScope N_eqc P_eqc (defScope s_eqc) := ⟨rfl, rfl, rfl, by decide +kernel, rfl, by decide +kernel, by decide +kernel⟩

abbrev s_strc : Stmt := inClass (topS 25) 13
abbrev N_strc : List Str := ["self"]
abbrev P_strc : List Str := ["self"]
theorem sc_strc : FnScope N_strc P_strc (defScope s_strc) := ⟨rfl, rfl, rfl, by decide +kernel, rfl, by decide +kernel, by decide +kernel⟩

abbrev s_keep_all : Stmt := topS 23
abbrev N_keep_all : List Str := ["parts", "part"]
abbrev P_keep_all : List Str := ["parts"]
theorem sc_keep_all : FnScope N_keep_all P_keep_all (defScope s_keep_all) := ⟨rfl, rfl, rfl, by decide +kernel, rfl, by decide +kernel, by decide +kernel⟩

section
variable {P : Program} {w : World} {K : PySem.W.Frag} {mg : Str → Option Value} {base : Heap} {f C : Addr} {fd : FuncData}
def spInitB (C : Addr) : Sp := fun vs H Q _ => ∃ (x dx p : Addr) (ps : List Part), vs = [.ref x, .ref p] ∧ H x = some (.ins C dx []) ∧ H p = some (.tup (pV ps)) ∧ (∀ p ∈ ps, Ok p) ∧ ps.length ≤ 4 ∧ ∀ H', Chg x H H' → CutAt C H' x ps → Q .non H'
def spKeepAll (K : PySem.W.Frag) : Sp := fun vs H Q _ => ∃ (a : Addr) (ps : List Part), vs = [.ref a] ∧ SqT K H a (pV ps) ∧ (∀ p ∈ ps, Ok p) ∧ ps.length ≤ 4 ∧ ∀ H', Same H H' → Q (.bl (keepsAll ps)) H'
theorem ok_keep_all (Z : Zs mg) (D : Df K mg "keep_all" s_keep_all P_keep_all f fd) : FnOk P w K mg base CX0 1 f fd P_keep_all (spKeepAll K) := by
  refine D.F.ok sc_keep_all (fun vs H Q E h => ?_) (fun cdv A outer s H vs Q E hr h => ?_)
  · obtain ⟨a, ps, rfl, _⟩ := h
    rfl
  · obtain ⟨a, ps, rfl, hS, hok, hl, q⟩ := h
    have nd := sc_keep_all.nd
    refine ⟨_,
    (pss_one
    (ps_ret (pe_callB (cr_all rfl) (by rfl) Z.z_all (by decide +kernel) (pa_cons (pe_lc (own := [("part", 1)]) (g := gName 1) (tt := tYes) rfl nd (pi_tup (pv 0)) (blkOk_by (N := N_keep_all) (sc := defScope s_keep_all) (by decide +kernel)) (fun _ _ _ _ _ => (pg_name (i := 1) nd rfl (Or.inl rfl))) (fun _ _ _ _ _ => pts_nil) (fun _ _ _ _ _ => (pe_cmpR op_eq (pv 1) (pe_gS rfl Z.g_KEEP_ALL) (nomark _)))) pa_nil)))), ?_⟩
    refine ⟨_, rfl, a, rfl, ⟨_, hS⟩, fun D9 nD => ?_⟩
    refine lc_mapT (pV ps) (fun v => .bl (decide (v = V.str "all"))) hS nD (by rw [pV_len]; exact sz1000 (by omega)) (fun i v H1 Q' N hv s1 k => ?_) (fun H1 s1 hd => ?_)
    · obtain ⟨pt, _, rfl⟩ := pV_get hv
      exact ⟨rfl, _, rfl, rfl, k H1 (Same.refl H1)⟩
    · refine ⟨D9, ps.map fun p => decide (p = .all), rfl, .of ?_, ?_⟩
      · rw [hd]
        unfold pV
        rw [List.map_map, List.map_map]
        refine congrArg (fun l => some (HO.lst l)) (List.map_congr_left fun pt hpt => ?_)
        show V.bl (decide (V.str pt.text = V.str "all")) = V.bl (decide (pt = .all))
        rw [← text_all (hok pt hpt)]
        refine congrArg V.bl ?_
        rw [decide_eq_decide]
        exact ⟨fun h => V.str.inj h, fun h => congrArg V.str h⟩
      · rw [List.all_map]
        exact q H1 s1
/-- a cutter is made of these parts -/
def spInit (C : Addr) : Sp := fun vs H Q _ => ∃ (x dx : Addr) (ps : List Part), vs = .ref x :: pV ps ∧ H x = some (.ins C dx []) ∧ (∀ p ∈ ps, Ok p) ∧ ps.length ≤ 4 ∧ ∀ H', Chg x H H' → CutAt C H' x ps → Q .non H'
theorem ok_init (Z : Zs mg) (F : Fun K "__init__" "Cutter.__init__" s_init f fd) (c : CK K C) {f1 f2 : Addr} {d1 d2 : FuncData} (D_check_parts : Cl P w K mg base "check_parts" 2 f1 d1 P_check_parts (spCheck K))
    (D_table_of : Cl P w K mg base "table_of" 4 f2 d2 P_table_of (spTable K)) {f3 : Addr} {d3 : FuncData} (D_keep_all : Cl P w K mg base "keep_all" 1 f3 d3 P_keep_all (spKeepAll K)) : FnR P w K mg base CX0 5 f (spInit C) := by
  have main : FnR P w K mg base CX0 5 f (fun vs H Q E => ∃ ws rest, vs = ws ++ rest ∧ ws.length = ["self"].length ∧ rest.length ≤ sizeLine ∧ ∀ p, H p = none → spInitB C (ws ++ [V.ref p]) (upd H p (.tup rest)) Q E) := by
    refine fun_star (ps := ["self"]) (pv := "parts") (N := N_init) F sc_init (fun kV doc pm an cdv ct => StX.bind_star1 (B := fun l => bindArgs (PySem.W.fnOf "__init__" "Cutter.__init__" (defArgs s_init) (defBody s_init) (defScope s_init) .none kV doc pm an cdv ct) ⟨l, []⟩) (fun a => rfl) (fun a r rs => rfl)) (fun cdv A outer s H vs Q E hr h => ?_)
    obtain ⟨x, dx, p, ps, rfl, hx, hp, hok, hl, q⟩ := h
    have nd := sc_init.nd
    refine ⟨_,
    (pss_cons
    (ps_expr (pe_call D_check_parts.ok (hr.mono (by decide)) (by rfl) D_check_parts.g D_check_parts.kp D_check_parts.b .nil pass0 (pa_cons (pv 1) pa_nil)))
    (pss_cons
    (ps_fld (pv 0) (pv 1) rfl)
    (pss_cons
    (ps_fld (pv 0) (pe_call D_table_of.ok (hr.mono (by decide)) (by rfl) D_table_of.g D_table_of.kp D_table_of.b .nil pass0 (pa_cons (pv 1) pa_nil)) rfl)
    (pss_one
    (ps_fld (pv 0) (pe_call D_keep_all.ok (hr.mono (by decide)) (by rfl) D_keep_all.g D_keep_all.kp D_keep_all.b .nil pass0 (pa_cons (pv 1) pa_nil)) rfl))))), ?_⟩
    refine ⟨_, rfl, p, ps, rfl, .of hp, hok, hl, fun H1 s1 => ?_⟩
    have hx1 := s1 _ _ hx
    have hp1 := s1 _ _ hp
    refine ⟨_, rfl, _, rfl, x, C, dx, [], rfl, hx1, c.cls, c.np, by decide, ?_⟩
    have c1 : Chg x H (upd H1 x (.ins C dx [("_parts", .ref p)])) := (Chg.of s1).upd
    have hne : p ≠ x := fun e => by rw [e, hx] at hp; cases hp
    have hp2 : (upd H1 x (.ins C dx [("_parts", .ref p)])) p = some (.tup (pV ps)) := by rw [upd_ne hne]; exact hp1
    have hx2 : (upd H1 x (.ins C dx [("_parts", .ref p)])) x = some (.ins C dx [("_parts", .ref p)]) := upd_same
    dsimp only [putF] at *
    generalize upd H1 x (.ins C dx [("_parts", .ref p)]) = H2 at c1 hp2 hx2 ⊢
    refine ⟨_, rfl, p, ps, rfl, .of hp2, hok, fun H3 t ts s4 nt ht hlen hts => ?_⟩
    refine ⟨_, rfl, x, C, dx, [("_parts", .ref p)], rfl, s4 _ _ hx2, c.cls, c.nt, by show 1 < 1000; decide, ?_⟩
    have ntx : t ≠ x := fun e => by rw [e, hx2] at nt; cases nt
    have c4 := (c1.trans (Chg.of s4)).upd (d := x) (o := HO.ins C dx [("_parts", .ref p), ("_table", .ref t)])
    have hp4 : (upd H3 x (.ins C dx [("_parts", .ref p), ("_table", .ref t)])) p = some (.tup (pV ps)) := by rw [upd_ne hne]; exact s4 _ _ hp2
    have ht4 : (upd H3 x (.ins C dx [("_parts", .ref p), ("_table", .ref t)])) t = some (.tup ts) := by rw [upd_ne ntx]; exact ht
    have hx4 : (upd H3 x (.ins C dx [("_parts", .ref p), ("_table", .ref t)])) x = some (.ins C dx [("_parts", .ref p), ("_table", .ref t)]) := upd_same
    have hq4 : ∀ j, j < 7 → ∃ q, ts[j]? = some (.ref q) ∧ (upd H3 x (.ins C dx [("_parts", .ref p), ("_table", .ref t)])) q = some (.tup (iV (places ps j))) := fun j hj => by
      obtain ⟨r, e1, e2⟩ := hts j hj
      have nrx : r ≠ x := fun e => by rw [e, s4 _ _ hx2] at e2; cases e2
      exact ⟨r, e1, by rw [upd_ne nrx]; exact e2⟩
    rw [show putF "_table" (V.ref t) [("_parts", V.ref p)] = [((("_parts" : Str)), V.ref p), ((("_table" : Str)), V.ref t)] from rfl]
    generalize upd H3 x (.ins C dx [("_parts", .ref p), ("_table", .ref t)]) = H4 at c4 hp4 ht4 hx4 hq4 ⊢
    refine ⟨_, rfl, p, ps, rfl, .of hp4, hok, hl, fun H5 s5 => ?_⟩
    refine ⟨_, rfl, x, C, dx, [("_parts", .ref p), ("_table", .ref t)], rfl, s5 _ _ hx4, c.cls, c.nk, by show 2 < 1000; decide, ?_⟩
    refine q _ ((c4.trans (Chg.of s5)).upd) ⟨hok, hl, dx, p, t, ts, upd_same, ?_, ?_, hlen, fun j hj => ?_⟩
    · rw [upd_ne hne]
      exact s5 _ _ hp4
    · rw [upd_ne ntx]
      exact s5 _ _ ht4
    · obtain ⟨r, e1, e2⟩ := hq4 j hj
      have nrx : r ≠ x := fun e => by rw [e, hx4] at e2; cases e2
      exact ⟨r, e1, by rw [upd_ne nrx]; exact s5 _ _ e2⟩
  refine main.imp fun vs H Q E h => ?_
  obtain ⟨x, dx, ps, rfl, hx, hok, hl, q⟩ := h
  refine ⟨[.ref x], pV ps, rfl, rfl, ?_, fun p np => ⟨x, dx, p, ps, rfl, ?_, upd_same, hok, hl, fun H' c' k => q H' (fun b o hb e => c' b o hb (same_new np b o e)) k⟩⟩
  · unfold pV
    rw [List.length_map]
    exact sz1000 (by omega)
  · exact same_new np _ _ hx

abbrev s_is_whole : Stmt := topS 2
abbrev N_is_whole : List Str := ["value"]
abbrev P_is_whole : List Str := ["value"]
theorem sc_is_whole : FnScope N_is_whole P_is_whole (defScope s_is_whole) := ⟨rfl, rfl, rfl, by decide +kernel, rfl, by decide +kernel, by decide +kernel⟩

def spWhole (K : PySem.W.Frag) : Sp := fun vs H Q _ => ∃ (x : V) (t : String) (b1 b2 : Bool), vs = [x] ∧ Ly.TyB K H x t ∧ kitB t "int" = some b1 ∧ (b1 = true → kitB t "bool" = some b2) ∧ Q (.bl (b1 && !b2)) H
theorem ok_whole (Z : Zs mg) (D : Df K mg "is_whole" s_is_whole P_is_whole f fd) : FnOk P w K mg base CX0 1 f fd P_is_whole (spWhole K) := by
  refine D.F.ok sc_is_whole (fun vs H Q E h => ?_) (fun cdv A outer s H vs Q E hr h => ?_)
  · obtain ⟨x, t, _, _, rfl, _⟩ := h
    rfl
  · obtain ⟨x, t, b1, b2, rfl, ht, k1, k2, q⟩ := h
    have nd := sc_is_whole.nd
    refine ⟨_,
    (pss_one
    (ps_ret (pe_and (pe_callB call_isi (by rfl) Z.z_isinstance (by decide +kernel) (pa_cons (pv 0) (pa_cons (pe_bltn (v := .ty "int") (by rfl) Z.z_int (by decide +kernel) rfl) pa_nil))) (pe_one (pe_not (pe_callB call_isi (by rfl) Z.z_isinstance (by decide +kernel) (pa_cons (pv 0) (pa_cons (pe_bltn (v := .ty "bool") (by rfl) Z.z_bool (by decide +kernel) rfl) pa_nil)))))))), ?_⟩
    refine ⟨_, rfl, x, .ty "int", _, _, b1, rfl, .ty _, ht, kit_ty k1, b1, rfl, ?_⟩
    cases b1 with
    | false => exact q
    | true => exact ⟨_, rfl, x, .ty "bool", _, _, b2, rfl, .ty _, ht, kit_ty (k2 rfl), b2, rfl, q⟩
/-- a def of a class, called -/
structure Cm (P : Program) (w : World) (K : PySem.W.Frag) (mg : Str → Option Value) (base : Heap) (k : Nat) (f : Addr) (fd : FuncData) (ps : List Str) (sp : Sp) : Prop where
  ok : FnOk P w K mg base CX0 k f fd ps sp
  b : Binds K fd ps []

theorem okm_parts (Z : Zs mg) (D : Dm K "parts" "Cutter.parts" s_parts P_parts f fd) (c : CK K C)  : FnOk P w K mg base CX0 1 f fd P_parts (spParts C) := by
  refine D.F.ok sc_parts (fun vs H Q E h => ?_) (fun cdv A outer s H vs Q E hr h => ?_)
  · obtain ⟨x, ps, rfl, _⟩ := h
    rfl
  · obtain ⟨x, ps, rfl, hcx, q⟩ := h
    have nd := sc_parts.nd
    have hu : (A.deeper (envOfC "Cutter.parts" (defScope s_parts) s.heap.objs.size f cdv)).units + 64 < cLine := by
      have := hr.un
      omega
    obtain ⟨dx, p, t, ts, hx, hp, ht, hlen, hts⟩ := hcx.ex
    refine ⟨_,
    (pss_one
    (ps_ret (pe_fld (pv 0) rfl))), ?_⟩
    exact ⟨_, rfl, x, C, dx, _, .ref p, rfl, hx, c.cls, c.np, rfl, q p hp⟩

theorem okm_keeps_all (Z : Zs mg) (D : Dm K "keeps_all" "Cutter.keeps_all" s_keeps_all P_keeps_all f fd) (c : CK K C)  : FnOk P w K mg base CX0 1 f fd P_keeps_all (spKeeps C) := by
  refine D.F.ok sc_keeps_all (fun vs H Q E h => ?_) (fun cdv A outer s H vs Q E hr h => ?_)
  · obtain ⟨x, ps, rfl, _⟩ := h
    rfl
  · obtain ⟨x, ps, rfl, hcx, q⟩ := h
    have nd := sc_keeps_all.nd
    have hu : (A.deeper (envOfC "Cutter.keeps_all" (defScope s_keeps_all) s.heap.objs.size f cdv)).units + 64 < cLine := by
      have := hr.un
      omega
    obtain ⟨dx, p, t, ts, hx, hp, ht, hlen, hts⟩ := hcx.ex
    refine ⟨_,
    (pss_one
    (ps_ret (pe_fld (pv 0) rfl))), ?_⟩
    exact ⟨_, rfl, x, C, dx, _, .bl (keepsAll ps), rfl, hx, c.cls, c.nk, rfl, q H (Same.refl H)⟩

theorem okm_lenc (Z : Zs mg) (D : Dm K "__len__" "Cutter.__len__" s_lenc P_lenc f fd) (c : CK K C)  : FnOk P w K mg base CX0 1 f fd P_lenc (spCutLen C) := by
  refine D.F.ok sc_lenc (fun vs H Q E h => ?_) (fun cdv A outer s H vs Q E hr h => ?_)
  · obtain ⟨x, ps, rfl, _⟩ := h
    rfl
  · obtain ⟨x, ps, rfl, hcx, q⟩ := h
    have nd := sc_lenc.nd
    have hu : (A.deeper (envOfC "Cutter.__len__" (defScope s_lenc) s.heap.objs.size f cdv)).units + 64 < cLine := by
      have := hr.un
      omega
    obtain ⟨dx, p, t, ts, hx, hp, ht, hlen, hts⟩ := hcx.ex
    refine ⟨_,
    (pss_one
    (ps_ret (pe_callB call_lenT (by rfl) Z.z_len (by decide +kernel) (pa_cons (pe_fld (pv 0) rfl) pa_nil)))), ?_⟩
    refine ⟨_, rfl, x, C, dx, _, .ref p, rfl, hx, c.cls, c.np, rfl, p, pV ps, rfl, .of hp, ?_⟩
    rw [pV_len]
    exact q

theorem okm_strc (Z : Zs mg) (D : Dm K "__str__" "Cutter.__str__" s_strc P_strc f fd) (c : CK K C)  : FnOk P w K mg base CX0 1 f fd P_strc (spCutStr C) := by
  refine D.F.ok sc_strc (fun vs H Q E h => ?_) (fun cdv A outer s H vs Q E hr h => ?_)
  · obtain ⟨x, ps, rfl, _⟩ := h
    rfl
  · obtain ⟨x, ps, rfl, hcx, q⟩ := h
    have nd := sc_strc.nd
    have hu : (A.deeper (envOfC "Cutter.__str__" (defScope s_strc) s.heap.objs.size f cdv)).units + 64 < cLine := by
      have := hr.un
      omega
    obtain ⟨dx, p, t, ts, hx, hp, ht, hlen, hts⟩ := hcx.ex
    refine ⟨_,
    (pss_one
    (ps_ret (pe_join pe_str (pe_orT (pe_fld (pv 0) rfl) (pe_one (pe_tup (pa_cons (pe_gS rfl Z.g_KEEP_ALL) pa_nil))))))), ?_⟩
    refine ⟨⟨_, rfl⟩, _, rfl, x, C, dx, _, .ref p, rfl, hx, c.cls, c.np, rfl, !(pV ps).isEmpty, .inr (.inl ⟨_, .of hp, rfl⟩), ?_⟩
    cases ps with
    | nil =>
      refine ifF rfl ⟨by show 1 ≤ sizeLine; decide, fun t nt => ⟨_, t, [Part.text .all], rfl, rfl, .inr (.of upd_same), by decide +kernel, q _ (same_new nt)⟩⟩
    | cons pt r =>
      refine ifT rfl ⟨_, p, (pt :: r).map Part.text, rfl, rfl, .inr (.of ?_), ?_, q H (Same.refl H)⟩
      · rw [hp]
        unfold pV
        rw [List.map_map]
        rfl
      · have hb : ∀ l : List Part, (∀ p ∈ l, Ok p) → (l.map fun p => p.text.length).sum ≤ 10 * l.length := by
          intro l
          induction l with
          | nil => intro _; exact Nat.le_refl _
          | cons a l ih =>
            intro h
            have h1 := text_len (h a List.mem_cons_self)
            have h2 := ih fun p hp => h p (List.mem_cons_of_mem _ hp)
            rw [List.map_cons, List.sum_cons, List.length_cons]
            omega
        have h1 := hb (pt :: r) hcx.ok
        have h2 := hcx.le
        rw [List.map_map, List.length_map]
        have e3 : (Str.ofString " > ").length = 3 := by decide +kernel
        show ((pt :: r).map fun p => p.text.length).sum + (pt :: r).length * (Str.ofString " > ").length ≤ 16777216
        rw [e3]
        omega

theorem okm_eqc (Z : Zs mg) (D : Dm K "__eq__" "Cutter.__eq__" s_eqc P_eqc f fd) (c : CK K C) (hC : mg "Cutter" = some (.ref C)) : FnOk P w K mg base CX0 1 f fd P_eqc (spCutEq C) := by
  refine D.F.ok sc_eqc (fun vs H Q E h => ?_) (fun cdv A outer s H vs Q E hr h => ?_)
  · obtain ⟨x, y, ps, qs, rfl, _⟩ := h
    rfl
  · obtain ⟨x, y, ps, qs, rfl, hcx, q⟩ := h
    have nd := sc_eqc.nd
    have hu : (A.deeper (envOfC "Cutter.__eq__" (defScope s_eqc) s.heap.objs.size f cdv)).units + 64 < cLine := by
      have := hr.un
      omega
    obtain ⟨dx, p, t, ts, hx, hp, ht, hlen, hts⟩ := hcx.ex
    refine ⟨_,
    (pss_one
    (ps_ret (pe_and (pe_callB call_isi (by rfl) Z.z_isinstance (by decide +kernel) (pa_cons (pv 1) (pa_cons (pe_glob (v := .ref C) rfl hC rfl) pa_nil))) (pe_one (pe_cmpR (op_eqD hu) (pe_fld (pv 0) rfl) (pe_fld (pv 1) rfl) (nomark _)))))), ?_⟩
    obtain ⟨hcy, q⟩ := q
    obtain ⟨dy, p', t', ts', hy, hp', ht', hlen', hts'⟩ := hcy.ex
    refine ⟨_, rfl, .ref y, .ref C, _, _, true, rfl, .own C, c.ty hy, c.kit, true, rfl, ?_⟩
    refine ⟨_, rfl, x, C, dx, _, .ref t, rfl, hx, c.cls, c.nt, rfl, _, rfl, y, C, dy, _, .ref t', rfl, hy, c.cls, c.nt, rfl, dT ps, dT qs, dp_table ht hlen hts, dp_table ht' hlen' hts', shp_dT _, shp_dT _, ?_⟩
    rw [eqv_dT]
    exact q

theorem okm_places (Z : Zs mg) (D : Dm K "places" "Cutter.places" s_places P_places f fd) (c : CK K C) {f1 f2 p2 : Addr} {d1 d2 : FuncData} (D_is_whole : Cl P w K mg base "is_whole" 1 f1 d1 P_is_whole (spWhole K)) (pr_keeps_all : PropOf K C "keeps_all" p2 f2) (M_keeps_all : Cm P w K mg base 1 f2 d2 P_keeps_all (spKeeps C)) : FnOk P w K mg base CX0 3 f fd P_places (spCutPlaces C) := by
  refine D.F.ok sc_places (fun vs H Q E h => ?_) (fun cdv A outer s H vs Q E hr h => ?_)
  · obtain ⟨x, ps, n, rfl, _⟩ := h
    rfl
  · obtain ⟨x, ps, n, rfl, hcx, q⟩ := h
    have nd := sc_places.nd
    have hu : (A.deeper (envOfC "Cutter.places" (defScope s_places) s.heap.objs.size f cdv)).units + 64 < cLine := by
      have := hr.un
      omega
    obtain ⟨dx, p, t, ts, hx, hp, ht, hlen, hts⟩ := hcx.ex
    refine ⟨_,
    (pss_cons
    (ps_if (PW.pt (pw_or (pt_not (pt_truth (pe_call D_is_whole.ok (hr.mono (by decide)) (by rfl) D_is_whole.g D_is_whole.kp D_is_whole.b .nil pass0 (pa_cons (pv 1) pa_nil)) (by intro _; rfl))) (pw_or1 (pt_not (pt_chain op_le op_le pe_int (pv 1) (pe_gI rfl Z.g_MAX_ROW))))))
      (pss_one
      ps_never)
      pss_nil)
    (pss_cons
    (ps_if (pt_cmpR op_le (pv 1) (pe_gI rfl Z.g_REACH) (nomark _))
      (pss_one
      (ps_ret (pe_ix ix_tup (pe_fld (pv 0) rfl) (pv 1) (fun _ _ => rfl))))
      pss_nil)
    (pss_cons
    (ps_if (pt_val (pe_prop (pv 0) c.cls pr_keeps_all M_keeps_all.ok (hr.mono (by decide)) M_keeps_all.b .nil pass0 rfl))
      (pss_one
      (ps_ret (pe_tupRg rfl (by rfl) Z.z_tuple (prg_1 (by rfl) Z.z_range (pv 1)))))
      pss_nil)
    (pss_cons
    (ps_set (i := 2) nd rfl (Or.inr rfl) (pe_op op_sub (pv 1) (pe_gI rfl Z.g_REACH)))
    (pss_one
    (ps_ret (pe_callTy call_tuple_of (by rfl) Z.z_tuple (by decide +kernel) (pa_cons (pe_lc (own := [("at", 3)]) (g := gName 3) (tt := tYes) rfl nd (pi_tup (pe_ix ix_tup (pe_fld (pv 0) rfl) (pe_gI rfl Z.g_REACH) (fun _ _ => rfl))) (blkOk_by (N := N_places) (sc := defScope s_places) (by decide +kernel)) (fun _ _ _ _ _ => (pg_name (i := 3) nd rfl (Or.inl rfl))) (fun _ _ _ _ _ => pts_nil) (fun _ _ _ _ _ => (pe_ifExp (pt_cmpR op_lt (pv 3) (pe_gI rfl Z.g_MAX_FRONT) (nomark _)) (pv 3) (pe_op op_add (pv 3) (pv 2))))) pa_nil)))))))), ?_⟩
    obtain ⟨hn, q⟩ := q
    refine ⟨_, rfl, .int n, "int", true, false, rfl, .base (.int _), by decide +kernel, fun _ => by decide +kernel, ⟨true, rfl, ifF rfl ?_⟩⟩
    refine ⟨_, rfl, _, _, rfl, rfl, _, rfl, ifT (decide_eq_true (by omega)) ⟨_, _, rfl, rfl, _, rfl, ?_⟩⟩
    refine ifF (by rw [decide_eq_true (show (n : Int) ≤ 1000 by omega)]; rfl) ?_
    dsimp only [tNext]
    refine ⟨_, rfl, _, _, rfl, rfl, _, rfl, ?_⟩
    by_cases h5 : (n : Int) ≤ 5
    · obtain ⟨r, e1, e2⟩ := hts n (by omega)
      exact ifT (decide_eq_true h5) ⟨_, rfl, x, C, dx, _, .ref t, rfl, hx, c.cls, c.nt, rfl, _, rfl, t, ts, n, .ref r, rfl, rfl, .of ht, atI_nat e1, q H r (Same.refl H) e2⟩
    refine ifF (decide_eq_false h5) ?_
    dsimp only [tNext]
    refine ⟨_, rfl, x, dx, _, rfl, hx, x, ps, rfl, hcx, fun H1 s1 => ⟨keepsAll ps, rfl, ?_⟩⟩
    by_cases hk : keepsAll ps = true
    · refine ifT hk ⟨_, rfl, n, rfl, .of_le (by decide) (by omega) (by decide) (by omega), fun r nr => ?_⟩
      refine q _ r (s1.trans (same_new nr)) ?_
      rw [upd_same, rgV_iV]
      show _ = some (HO.tup (iV (run ps (List.range n))))
      rw [run_all ps _ hk]
    refine ifF (eq_false_of_ne_true hk) ?_
    dsimp only [tNext]
    refine ⟨_, rfl, _, _, rfl, rfl, ?_⟩
    obtain ⟨r, e1, e2⟩ := hts 5 (by omega)
    refine ⟨_, rfl, x, C, dx, _, .ref t, rfl, s1 _ _ hx, c.cls, c.nt, rfl, t, ts, (5 : Nat), .ref r, rfl, rfl, .of (s1 _ _ ht), atI_nat e1, ?_⟩
    have e2' := s1 _ _ e2
    refine ⟨r, rfl, ⟨_, .of e2'⟩, fun D9 nD => ?_⟩
    refine lc_mapT (iV (places ps 5)) (embV n) (.of e2') nD (by rw [iV_len]; exact sz1000 (by have := places_len ps 5; omega)) (fun i v H2 Q' N hv s2 k => ?_) (fun H2 s2 hd => ?_)
    · obtain ⟨m, _, rfl⟩ := iV_getI hv
      have k' := k H2 (Same.refl H2)
      refine ⟨rfl, _, rfl, _, _, rfl, rfl, _, rfl, ?_⟩
      have e : embV n (.int (m : Int)) = .int (if (m : Int) < 2 then (m : Int) else (m : Int) + ((n : Int) - 5)) := rfl
      rw [e] at k'
      by_cases h2 : (m : Int) < 2
      · rw [if_pos h2] at k'
        exact ifT (decide_eq_true h2) ⟨_, rfl, k'⟩
      · rw [if_neg h2] at k'
        exact ifF (decide_eq_false h2) ⟨_, rfl, _, rfl, _, _, rfl, rfl, k'⟩
    · refine ⟨D9, _, rfl, .inl ⟨.of hd, fun r2 nr2 => q _ r2 ((s1.trans s2).trans (same_new nr2)) ?_⟩⟩
      rw [upd_same, map_embV hcx.ok (eq_false_of_ne_true hk) (by omega)]

theorem okm_callc (Z : Zs mg) (D : Dm K "__call__" "Cutter.__call__" s_callc P_callc f fd) (c : CK K C) {f1 : Addr} {d1 : FuncData} (me_places : Meth K C "places" f1) (M_places : Cm P w K mg base 3 f1 d1 P_places (spCutPlaces C)) : FnOk P w K mg base CX0 4 f fd P_callc (spCutCall C) := by
  refine D.F.ok sc_callc (fun vs H Q E h => ?_) (fun cdv A outer s H vs Q E hr h => ?_)
  · obtain ⟨x, r, ps, xs, rfl, _⟩ := h
    rfl
  · obtain ⟨x, r, ps, xs, rfl, hcx, q⟩ := h
    have nd := sc_callc.nd
    have hu : (A.deeper (envOfC "Cutter.__call__" (defScope s_callc) s.heap.objs.size f cdv)).units + 64 < cLine := by
      have := hr.un
      omega
    obtain ⟨dx, p, t, ts, hx, hp, ht, hlen, hts⟩ := hcx.ex
    refine ⟨_,
    (pss_cons
    (ps_if (PW.pt (pw_or (pt_not (pt_val (pe_callB call_isi (by rfl) Z.z_isinstance (by decide +kernel) (pa_cons (pv 1) (pa_cons (pe_bltn (v := .ty "tuple") (by rfl) Z.z_tuple (by decide +kernel) rfl) pa_nil))))) (pw_or1 (pt_cmpR op_gt (pe_callB call_lenT (by rfl) Z.z_len (by decide +kernel) (pa_cons (pv 1) pa_nil)) (pe_gI rfl Z.g_MAX_ROW) (nomark _)))))
      (pss_one
      ps_never)
      pss_nil)
    (pss_one
    (ps_ret (pe_callTy call_tuple_of (by rfl) Z.z_tuple (by decide +kernel) (pa_cons (pe_lc (own := [("at", 2)]) (g := gName 2) (tt := tYes) rfl nd (pi_tup (pe_meth (pv 0) c.cls me_places M_places.ok (hr.mono (by decide)) M_places.b .nil pass0 (pa_cons (pe_callB call_lenT (by rfl) Z.z_len (by decide +kernel) (pa_cons (pv 1) pa_nil)) pa_nil))) (blkOk_by (N := N_callc) (sc := defScope s_callc) (by decide +kernel)) (fun _ _ _ _ _ => (pg_name (i := 2) nd rfl (Or.inl rfl))) (fun _ _ _ _ _ => pts_nil) (fun _ _ _ _ _ => (pe_ix (ixT (K := K) rfl) (pv 1) (pv 2) (fun _ _ => rfl)))) pa_nil))))), ?_⟩
    obtain ⟨hr2, hxs, q⟩ := q
    refine ⟨_, rfl, .ref r, .ty "tuple", _, _, true, rfl, .ty _, .base (.tup hr2), kit_ty (by decide +kernel), true, rfl, ifF rfl ?_⟩
    refine ⟨_, rfl, r, xs, rfl, .of hr2, _, _, rfl, rfl, _, rfl, ifF (decide_eq_false (by omega)) ?_⟩
    dsimp only [tNext]
    refine ⟨_, rfl, x, dx, _, rfl, hx, rfl, _, rfl, r, xs, rfl, .of hr2, x, ps, xs.length, rfl, hcx, hxs, fun H1 r1 s1 hr1 => ?_⟩
    refine ⟨r1, rfl, ⟨_, .of hr1⟩, fun D9 nD => ?_⟩
    refine lc_mapT (iV (places ps xs.length)) (atV xs) (.of hr1) nD (by rw [iV_len]; exact Nat.le_of_lt (small1000 (Nat.le_trans (places_len ps xs.length) hxs))) (fun i v H2 Q' N hv s2 k => ?_) (fun H2 s2 hd => ?_)
    · obtain ⟨m, hm, rfl⟩ := iV_getI hv
      have hml : m < xs.length := places_lt (List.mem_of_getElem? hm)
      have k' := k H2 (Same.refl H2)
      have e : atV xs (.int (m : Int)) = xs[m] := by
        show xs.getD (m : Int).toNat .non = _
        rw [Int.toNat_natCast, List.getD_eq_getElem?_getD, List.getElem?_eq_getElem hml]
        rfl
      rw [e] at k'
      exact ⟨rfl, _, rfl, _, rfl, r, xs, (m : Int), xs[m], rfl, rfl, .of ((s1.trans s2) _ _ hr2), atI_nat (List.getElem?_eq_getElem hml), k'⟩
    · refine ⟨D9, _, rfl, .inl ⟨.of hd, fun r2 nr2 => q _ r2 ((s1.trans s2).trans (same_new nr2)) ((s1.trans s2).free nr2) ?_⟩⟩
      rw [upd_same, map_atV]

theorem okm_of (Z : Zs mg) (D : Dm K "of" "Cutter.of" s_of P_of f fd) {fi : Addr} (M : Mk K C fi) (FI : FnR P w K mg base CX0 5 fi (spInit C)) : FnOk P w K mg base CX0 7 f fd P_of (spCutOf C) := by
  refine D.F.ok sc_of (fun vs H Q E h => ?_) (fun cdv A outer s H vs Q E hr h => ?_)
  · obtain ⟨a, ps, rfl, _⟩ := h
    rfl
  · obtain ⟨a, ps, rfl, ha, hok, hl, q⟩ := h
    have nd := sc_of.nd
    refine ⟨_,
    (pss_cons
    (ps_if (pt_not (pt_val (pe_callB call_isi (by rfl) Z.z_isinstance (by decide +kernel) (pa_cons (pv 1) (pa_cons (pe_bltn (v := .ty "tuple") (by rfl) Z.z_tuple (by decide +kernel) rfl) pa_nil)))))
      (pss_one
      ps_never)
      pss_nil)
    (pss_one
    (ps_ret (pe_makeVS M FI (hr.mono (by decide)) pass0 (pv 0) (pv 1))))), ?_⟩
    refine ⟨_, rfl, .ref a, .ty "tuple", _, _, true, rfl, .ty _, .base (.tup ha), kit_ty (by decide +kernel), true, rfl, ifF rfl ?_⟩
    dsimp only [tNext]
    refine ⟨_, rfl, rfl, _, rfl, a, pV ps, rfl, .inl (.of ha), fun x dx nx ndx hne => ⟨x, dx, ps, rfl, upd_same, hok, hl, fun H' c' k => ⟨rfl, q H' x (fun b o e => ?_) nx k⟩⟩⟩
    refine c' b o (ne_of_none e nx) ?_
    rw [upd_ne (ne_of_none e nx), upd_ne (ne_of_none e ndx)]
    exact e

end
end K02
set_option Elab.async false
set_option linter.all false
set_option maxRecDepth 100000
set_option maxHeartbeats 8000000
namespace K02
open PySem PySem.Spec PyProof.Rows L2 Ly Cut

abbrev s_dice : Stmt := topS 28
abbrev N_dice : List Str := ["_law_script", "_law_at", "_law_cell", "_law_great", "_law_mixed"]
abbrev P_dice : List Str := ["_law_script", "_law_at"]
theorem sc_dice : FnScope N_dice P_dice (defScope s_dice) := ⟨rfl, rfl, rfl, by decide +kernel, rfl, by decide +kernel, by decide +kernel⟩

abbrev s_roll : Stmt := topS 29
abbrev N_roll : List Str := ["_law_dice_here", "_law_total", "_law_found", "_law_one", "_law_two"]
abbrev P_roll : List Str := ["_law_dice_here", "_law_total"]
theorem sc_roll : FnScope N_roll P_roll (defScope s_roll) := ⟨rfl, rfl, rfl, by decide +kernel, rfl, by decide +kernel, by decide +kernel⟩

abbrev s_one_of : Stmt := topS 30
abbrev N_one_of : List Str := ["_law_dice_here", "_law_items"]
abbrev P_one_of : List Str := ["_law_dice_here", "_law_items"]
theorem sc_one_of : FnScope N_one_of P_one_of (defScope s_one_of) := ⟨rfl, rfl, rfl, by decide +kernel, rfl, by decide +kernel, by decide +kernel⟩

abbrev s_signs : Stmt := topS 31
abbrev N_signs : List Str := ["_law_dice_here", "_law_much", "_law_turn"]
abbrev P_signs : List Str := ["_law_dice_here", "_law_much"]
theorem sc_signs : FnScope N_signs P_signs (defScope s_signs) := ⟨rfl, rfl, rfl, by decide +kernel, rfl, by decide +kernel, by decide +kernel⟩

abbrev s_part : Stmt := topS 32
abbrev N_part : List Str := ["_law_dice_here", "_law_common"]
abbrev P_part : List Str := ["_law_dice_here"]
theorem sc_part : FnScope N_part P_part (defScope s_part) := ⟨rfl, rfl, rfl, by decide +kernel, rfl, by decide +kernel, by decide +kernel⟩

abbrev s_lparts : Stmt := topS 33
abbrev N_lparts : List Str := ["_law_dice_here", "_law_much", "_law_turn"]
abbrev P_lparts : List Str := ["_law_dice_here", "_law_much"]
theorem sc_lparts : FnScope N_lparts P_lparts (defScope s_lparts) := ⟨rfl, rfl, rfl, by decide +kernel, rfl, by decide +kernel, by decide +kernel⟩

section
variable {P : Program} {w : World} {K : PySem.W.Frag} {mg : Str → Option Value} {base : Heap} {f C : Addr} {fd : FuncData}
theorem ok_dice (Z : Zs mg) (D : Df K mg "_law_dice" s_dice P_dice f fd) : FnOk P w K mg base CX0 1 f fd P_dice (spDice K) := by
  refine D.F.ok sc_dice (fun vs H Q E h => ?_) (fun cdv A outer s H vs Q E hr h => ?_)
  · obtain ⟨a, ns, k, rfl, _⟩ := h
    rfl
  · obtain ⟨a, ns, k, rfl, hS, h63, hk, q⟩ := h
    have nd := sc_dice.nd
    refine ⟨_,
    (pss_cons
    (ps_set (i := 2) nd rfl (Or.inl rfl) (pe_ifExp (pt_cmpR op_lt (pv 1) (pe_callB call_lenL (by rfl) Z.z_len (by decide +kernel) (pa_cons (pv 0) pa_nil)) (nomark _)) (pe_ix ix_list (pv 0) (pv 1) (fun _ _ => rfl)) (pe_op op_add (pe_op op_mul pe_int (pv 1)) pe_int)))
    (pss_cons
    (ps_set (i := 3) nd rfl (Or.inl rfl) (pe_op op_mod (pe_callTy call_intI (by rfl) Z.z_int (by decide +kernel) (pa_cons (pe_callB call_abs (by rfl) Z.z_abs (by decide +kernel) (pa_cons (pv 2) pa_nil)) pa_nil)) (pe_op op_powW (pe_op op_powW pe_int pe_int) pe_int)))
    (pss_cons
    (ps_set (i := 4) nd rfl (Or.inl rfl) (pe_op op_add (pe_op op_add (pe_op op_add (pe_op op_mul (pe_op op_mod (pe_callTy call_intI (by rfl) Z.z_int (by decide +kernel) (pa_cons (pv 3) pa_nil)) pe_int) pe_int) (pe_op op_mul pe_int (pv 1))) (pe_op op_mul pe_int (pe_callTy call_intB (by rfl) Z.z_int (by decide +kernel) (pa_cons (pe_cmpR op_lt (pv 2) pe_int (nomark _)) pa_nil)))) pe_int))
    (pss_one
    (ps_ret (pe_lst (pa_cons (pe_callB (call_max2 rfl) (by rfl) Z.z_max (by decide +kernel) (pa_cons pe_int (pa_cons (pe_op op_sub (pv 3) (pe_op op_powW pe_int pe_int)) pa_nil))) (pa_cons (pe_op op_mod (pe_callTy call_intI (by rfl) Z.z_int (by decide +kernel) (pa_cons (pv 4) pa_nil)) pe_int) (pa_cons pe_int pa_nil))))))))), ?_⟩
    refine asgS (fun v H1 => H1 = H ∧ ∃ x : Int, v = .int x) (fun Q' q' => ?_) (fun v H' hv => ?_)
    · refine ⟨.int k, rfl, .ref a, rfl, a, _, rfl, hS, _, _, rfl, rfl, _, rfl, ite2 (fun e => ?_) (fun e => ?_)⟩
      · have e1 := of_decide_eq_true e
        rw [List.length_map] at e1
        have e2 : k < ns.length := by omega
        refine ⟨_, rfl, _, rfl, a, _, _, .int ns[k], rfl, rfl, hS, atI_nat ?_, q' _ _ ⟨rfl, _, rfl⟩⟩
        rw [List.getElem?_map, List.getElem?_eq_getElem e2]
        rfl
      · exact ⟨_, rfl, _, _, rfl, rfl, .inl ⟨by decide, by decide⟩, _, _, rfl, rfl, q' _ _ ⟨rfl, _, rfl⟩⟩
    · obtain ⟨rfl, x, rfl⟩ := hv
      have p60 : CPw 10 60 := ⟨by decide, by decide +kernel⟩
      have p600 : CPw ((10 : Int) ^ (60 : Int).toNat) 10 := ⟨by decide, by decide +kernel⟩
      have pos : (0 : Int) < ((10 : Int) ^ (60 : Int).toNat) ^ (10 : Int).toNat := by decide +kernel
      refine asgS (fun v H1 => H1 = H' ∧ ∃ gr : Int, v = .int gr ∧ 0 ≤ gr ∧ gr.natAbs < 2 ^ 2000) (fun Q' q' => ?_) (fun v H1 hv => ?_)
      · refine ⟨_, rfl, _, rfl, _, rfl, _, _, rfl, rfl, p60, _, _, rfl, rfl, p600, _, _, rfl, rfl, pos, q' _ _ ⟨rfl, _, rfl, great_ok _⟩⟩
      obtain ⟨rfl, gr, rfl, g0, gB⟩ := hv
      have cm : ∀ y : Int, CMul (y % 2147483399) 60013 := fun y => .inr ⟨by decide, by decide⟩
      refine ⟨_, rfl, _, rfl, _, _, rfl, rfl, by change (0 : Int) < _; decide, _, _, rfl, rfl, cm _, _, rfl, _, _, rfl, rfl, .inl ⟨by decide, by decide⟩, _, _, rfl, rfl, _, rfl, _, _, rfl, rfl, _, rfl, _, _, rfl, rfl, .inl ⟨by decide, by decide⟩, _, _, rfl, rfl, _, _, rfl, rfl, ?_⟩
      refine ⟨_, rfl, _, _, rfl, rfl, ⟨by decide, by decide +kernel⟩, _, _, rfl, rfl, _, _, rfl, _, rfl, _, rfl, _, _, rfl, rfl, by change (0 : Int) < _; decide, ?_⟩
      refine ⟨by show 3 ≤ sizeLine; decide, fun p hp => q _ p (same_new hp) hp ⟨_, _, _, upd_same, ?_⟩⟩
      refine ⟨?_, ?_, Int.emod_nonneg _ (by decide), Int.lt_trans (Int.emod_lt_of_pos _ (by decide)) (by decide), Int.le_refl _⟩
      · split <;> omega
      · refine less_ok g0 gB (by split <;> omega) ?_
        have t : (0 : Int) ≤ 10 ^ (18 : Int).toNat := by decide +kernel
        split <;> omega

theorem ok_roll (Z : Zs mg) (D : Df K mg "_law_roll" s_roll P_roll f fd) : FnOk P w K mg base CX0 1 f fd P_roll spRoll := by
  refine D.F.ok sc_roll (fun vs H Q E h => ?_) (fun cdv A outer s H vs Q E hr h => ?_)
  · obtain ⟨d, n, rfl, _⟩ := h
    rfl
  · obtain ⟨d, n, rfl, ⟨a, b, c, hd, B⟩, n0, n1, q⟩ := h
    have nd := sc_roll.nd
    refine ⟨_,
    (pss_cons
    (ps_if (pt_cmpR op_gt (pe_ix ix_list (pv 0) pe_int (fun _ _ => rfl)) pe_int (nomark _))
      (pss_cons
      (ps_set (i := 2) nd rfl (Or.inl rfl) (pe_op op_mod (pe_callTy call_intI (by rfl) Z.z_int (by decide +kernel) (pa_cons (pe_ix ix_list (pv 0) pe_int (fun _ _ => rfl)) pa_nil)) (pv 1)))
      (pss_cons
      (ps_asg (pe_op op_fdivW (pe_ix ix_list (pv 0) pe_int (fun _ _ => rfl)) (pv 1)) (pg_sub (pv 0) pe_int set_list))
      (pss_one
      (ps_ret (pv 2)))))
      pss_nil)
    (pss_cons
    (ps_asg (pe_op op_add (pe_ix ix_list (pv 0) pe_int (fun _ _ => rfl)) pe_int) (pg_sub (pv 0) pe_int set_list))
    (pss_cons
    (ps_set (i := 3) nd rfl (Or.inl rfl) (pe_op op_mod (pe_callTy call_intI (by rfl) Z.z_int (by decide +kernel) (pa_cons (pe_op op_add (pe_ix ix_list (pv 0) pe_int (fun _ _ => rfl)) (pe_op op_mul pe_int (pe_ix ix_list (pv 0) pe_int (fun _ _ => rfl)))) pa_nil)) pe_int))
    (pss_cons
    (ps_set (i := 4) nd rfl (Or.inl rfl) (pe_op op_add (pe_op op_mul (pe_op op_mod (pe_callTy call_intI (by rfl) Z.z_int (by decide +kernel) (pa_cons (pe_op op_mul (pv 3) (pv 3)) pa_nil)) pe_int) (pv 3)) (pe_op op_mul pe_int (pe_ix ix_list (pv 0) pe_int (fun _ _ => rfl)))))
    (pss_cons
    (ps_set (i := 4) nd rfl (Or.inl rfl) (pe_op op_mod (pe_callTy call_intI (by rfl) Z.z_int (by decide +kernel) (pa_cons (pv 4) pa_nil)) pe_int))
    (pss_one
    (ps_ret (pe_op op_mod (pe_callTy call_intI (by rfl) Z.z_int (by decide +kernel) (pa_cons (pe_op op_fdiv (pv 4) pe_int) pa_nil)) (pv 1))))))))), ?_⟩
    have nB : n.natAbs < 2 ^ 200 := by
      have e : (2 : Int) ^ 200 = ((2 ^ 200 : Nat) : Int) := by decide +kernel
      rw [e] at n1
      generalize (2 ^ 200 : Nat) = m at *
      omega
    refine ⟨_, rfl, d, _, 0, _, rfl, rfl, .of hd, rfl, a, 0, rfl, rfl, _, rfl, ite2 (fun e => ?_) (fun e => ?_)⟩
    · refine ⟨_, rfl, d, _, 0, _, rfl, rfl, .of hd, rfl, _, rfl, _, rfl, _, _, rfl, rfl, n0, ?_⟩
      refine ⟨_, rfl, d, _, 0, _, rfl, rfl, .of hd, rfl, _, rfl, _, _, rfl, rfl, wide_div n0 nB (by decide) (by decide), _, rfl, d, _, 0, 0, rfl, rfl, hd, rfl, ?_⟩
      refine ⟨_, rfl, q _ _ ((Chg.refl d H).upd) ⟨_, _, _, upd_same, ?_⟩ (Int.emod_nonneg _ (by omega)) (Int.emod_lt_of_pos _ n0)⟩
      have h1 : a / n ≤ a := Int.ediv_le_self _ B.a0
      have h2 : 0 ≤ a / n := Int.ediv_nonneg B.a0 (by omega)
      exact ⟨h2, less_ok B.a0 B.aB h2 h1, B.b0, B.b1, B.c0⟩
    · refine ⟨_, rfl, d, _, 2, _, rfl, rfl, .of hd, rfl, _, _, rfl, rfl, _, rfl, d, _, 2, 2, rfl, rfl, hd, rfl, ?_⟩
      have hd1 : (upd H d (.lst [.int a, .int b, .int (c + 1)])) d = some (.lst [.int a, .int b, .int (c + 1)]) := upd_same
      dsimp only
      refine asgS (fun v H' => H' = upd H d (.lst [.int a, .int b, .int (c + 1)]) ∧ ∃ x : Int, v = .int x ∧ 0 ≤ x ∧ x < 2305843009213693951) (fun Q' q' => ?_) (fun v H' hv => ?_)
      · refine ⟨_, rfl, d, _, 1, _, rfl, rfl, .of hd1, rfl, _, rfl, d, _, 2, _, rfl, rfl, .of hd1, rfl, _, _, rfl, rfl, .inl ⟨by decide, by decide⟩, _, _, rfl, rfl, _, rfl, _, _, rfl, rfl, by change (0 : Int) < _; decide, q' _ _ ⟨rfl, _, rfl, Int.emod_nonneg _ (by decide), Int.emod_lt_of_pos _ (by decide)⟩⟩
      obtain ⟨rfl, x, rfl, x0, x1⟩ := hv
      have y0 := Int.emod_nonneg (x * x) (show (2305843009213693921 : Int) ≠ 0 by decide)
      have y1 := Int.emod_lt_of_pos (x * x) (show (0 : Int) < 2305843009213693921 by decide)
      refine ⟨_, rfl, _, rfl, _, _, rfl, rfl, .inl ⟨by omega, by omega⟩, _, rfl, _, _, rfl, rfl, by change (0 : Int) < _; decide, _, rfl, _, _, rfl, rfl, .inl ⟨by omega, by omega⟩, _, rfl, d, _, 2, _, rfl, rfl, .of hd1, rfl, _, _, rfl, rfl, .inl ⟨by decide, by decide⟩, _, _, rfl, rfl, ?_⟩
      refine ⟨_, rfl, _, rfl, _, _, rfl, rfl, by change (0 : Int) < _; decide, ?_⟩
      refine ⟨_, rfl, _, _, rfl, rfl, ⟨by decide, by decide⟩, _, rfl, _, rfl, _, _, rfl, rfl, n0, ?_⟩
      refine q _ _ ((Chg.refl d H).upd) ⟨_, _, _, hd1, ?_⟩ (Int.emod_nonneg _ (by omega)) (Int.emod_lt_of_pos _ n0)
      have c1 := B.c0
      exact ⟨B.a0, B.aB, B.b0, B.b1, by omega⟩

theorem ok_oneL (Z : Zs mg) (D : Df K mg "_law_one_of" s_one_of P_one_of f fd) {fr : Addr} {fdr : FuncData} (D_roll : Cl P w K mg base "_law_roll" 1 fr fdr P_roll spRoll) : FnOk P w K mg base CX0 2 f fd P_one_of (spOneL K) := by
  refine D.F.ok sc_one_of (fun vs H Q E h => ?_) (fun cdv A outer s H vs Q E hr h => ?_)
  · obtain ⟨d, a, xs, rfl, _⟩ := h
    rfl
  · obtain ⟨d, a, xs, rfl, hD, ne, hS, h0, h1, q⟩ := h
    have nd := sc_one_of.nd
    refine ⟨_,
    (pss_one
    (ps_ret (pe_ix ix_list (pv 1) (pe_call D_roll.ok (hr.mono (by decide)) (by rfl) D_roll.g D_roll.kp D_roll.b .nil pass0 (pa_cons (pv 0) (pa_cons (pe_callB call_lenL (by rfl) Z.z_len (by decide +kernel) (pa_cons (pv 1) pa_nil)) pa_nil))) (fun _ _ => rfl)))), ?_⟩
    refine ⟨_, rfl, _, rfl, _, rfl, a, xs, rfl, hS, d, xs.length, rfl, hD, by omega, by omega, fun H' r c D' r0 r1 => ?_⟩
    have hr' : r.toNat < xs.length := by omega
    refine ⟨a, xs, r, xs[r.toNat], rfl, rfl, c.seq ne hS, ?_, q _ _ c D' (List.getElem_mem hr')⟩
    exact at_nat r0 (List.getElem?_eq_getElem hr')

theorem str_ext {a b : Str} (h : a.cps.toList = b.cps.toList) : a = b := by
  obtain ⟨a⟩ := a
  obtain ⟨b⟩ := b
  exact congrArg Str.mk (Array.toList_inj.mp h)
def spSigns : Sp := fun vs H Q _ => ∃ (d : Addr) (m : Nat), vs = [.ref d, .int m] ∧ Dice H d ∧ m ≤ 3 ∧ ∀ H' l, Chg d H H' → Dice H' d → l.length ≤ m → Q (.str (sT l)) H'
theorem ok_signs (Z : Zs mg) (D : Df K mg "_law_signs" s_signs P_signs f fd) {f1 f2 : Addr} {d1 d2 : FuncData} (D_roll : Cl P w K mg base "_law_roll" 1 f1 d1 P_roll spRoll) (D_oneL : Cl P w K mg base "_law_one_of" 2 f2 d2 P_one_of (spOneL K)) :
    FnOk P w K mg base CX0 3 f fd P_signs spSigns := by
  refine D.F.ok sc_signs (fun vs H Q E h => ?_) (fun cdv A outer s H vs Q E hr h => ?_)
  · obtain ⟨d, m, rfl, _⟩ := h
    rfl
  · obtain ⟨d, m, rfl, hD, hm, q⟩ := h
    have nd := sc_signs.nd
    refine ⟨_,
    (pss_one
    (ps_ret (pe_join pe_str (pe_lc (own := [("_law_turn", 2)]) (g := gName 2) (tt := tYes) rfl nd (pi_range1 (by rfl) Z.z_range (pa_cons (pe_call D_roll.ok (hr.mono (by decide)) (by rfl) D_roll.g D_roll.kp D_roll.b .nil pass0 (pa_cons (pv 0) (pa_cons (pe_op op_add (pv 1) pe_int) pa_nil))) pa_nil)) (blkOk_by (N := N_signs) (sc := defScope s_signs) (by decide +kernel)) (fun _ _ _ _ _ => (pg_name (i := 2) nd rfl (Or.inl rfl))) (fun _ _ _ _ _ => pts_nil) (fun _ _ _ _ _ => (pe_call D_oneL.ok (hr.mono (by decide)) (by rfl) D_oneL.g D_oneL.kp D_oneL.b .nil pass0 (pa_cons (pv 0) (pa_cons (pe_lst (pa_cons pe_str (pa_cons pe_str (pa_cons pe_str pa_nil)))) pa_nil)))))))), ?_⟩
    refine ⟨⟨_, rfl⟩, ?_⟩
    refine ⟨_, rfl, _, rfl, _, _, rfl, rfl, d, m + 1, rfl, hD, by omega, by omega, fun H1 r c1 D1 r0 r1 => ?_⟩
    refine ⟨r, rfl, by omega, by omega, fun D2 nD => ?_⟩
    have ne := dice_ne D1 nD
    refine lc_range (lo := 0) (n := r.toNat) (fun i H2 => Chg d H H2 ∧ Dice H2 d ∧ ∃ l : List Bool, H2 D2 = some (.lst ((l.map fun b => (⟨#[sgn b]⟩ : Str)).map V.str)) ∧ l.length = i)
      ⟨c1.new nD, D1.new nD, [], upd_same, rfl⟩ (fun i H2 hi hP => ?_) (fun H2 hP => ?_)
    · obtain ⟨c2, D2', l, hy, hl⟩ := hP
      refine ⟨rfl, _, rfl, by show 3 ≤ sizeLine; decide, fun p hp => ?_⟩
      have hpD : p ≠ D2 := fun e => by rw [e, hy] at hp; cases hp
      refine ⟨d, p, _, rfl, D2'.new hp, (dice_ne D2' hp).symm, .of upd_same, by decide, by decide, fun H3 x ch D3 mem => ?_⟩
      obtain ⟨b, rfl⟩ : ∃ b : Bool, x = .str ⟨#[sgn b]⟩ := by
        simp only [List.mem_cons, List.not_mem_nil, or_false] at mem
        rcases mem with h | h | h
        · exact ⟨true, h⟩
        · exact ⟨true, h⟩
        · exact ⟨false, h⟩
      have e3 : H3 D2 = some (.lst ((l.map fun b => (⟨#[sgn b]⟩ : Str)).map V.str)) := ch _ _ ne.symm (same_new hp _ _ hy)
      refine ⟨_, e3, by rw [List.length_map, List.length_map]; exact small1000 (by omega), ?_⟩
      refine ⟨fun x o nx e => ?_, ?_, l ++ [b], ?_, ?_⟩
      · rw [upd_ne (ne_of_none (c1 _ _ nx e) nD)]
        exact ((c2.trans (.of (same_new hp))).trans ch) _ _ nx e
      · obtain ⟨a, b, c', ed, B⟩ := D3
        exact ⟨a, b, c', by rw [upd_ne ne]; exact ed, B⟩
      · rw [upd_same, List.map_append, List.map_append]
        rfl
      · rw [List.length_append, hl]
        rfl
    · obtain ⟨c2, D2', l, hy, hl⟩ := hP
      have e0 : (Str.ofString "" : Str) = Str.empty := rfl
      have hsum : ((l.map fun b => (⟨#[sgn b]⟩ : Str)).map (·.length)).sum = l.length := by
        clear hy hl
        induction l with
        | nil => rfl
        | cons b r ih =>
          rw [List.map_cons, List.map_cons, List.sum_cons, ih, List.length_cons]
          show 1 + r.length = _
          omega
      have ej : Txt.join Str.empty (l.map fun b => (⟨#[sgn b]⟩ : Str)) = sT l := by
        refine str_ext ?_
        rw [txt_join]
        show _ = ((l.map sgn).toArray).toList
        rw [List.flatMap_map]
        clear hy hl hsum
        induction l with
        | nil => rfl
        | cons b r ih =>
          rw [List.flatMap_cons, ih]
          rfl
      refine ⟨Str.empty, D2, _, e0 ▸ rfl, rfl, .inl (.of hy), ?_, ?_⟩
      · rw [hsum, List.length_map]
        show l.length + l.length * 0 ≤ 16777216
        omega
      · rw [ej]
        exact q H2 l c2 D2' (by omega)

def spPart : Sp := fun vs H Q _ => ∃ d : Addr, vs = [.ref d] ∧ Dice H d ∧ ∀ H' p, Chg d H H' → Dice H' d → Ok p → Q (.str p.text) H'
theorem commons : ∀ x ∈ ([.str "all", .str "all", .str "..+", .str "..++", .str "+..", .str "+..+", .str "..+++", .str "..", .str "+..++", .str "..-+"] : List V), ∃ p : Part, Ok p ∧ x = .str p.text := by
  intro x hx
  simp only [List.mem_cons, List.not_mem_nil, or_false] at hx
  rcases hx with h | h | h | h | h | h | h | h | h | h <;> subst h
  · exact ⟨.all, trivial, rfl⟩
  · exact ⟨.all, trivial, rfl⟩
  · exact ⟨.pat [] [true], ⟨by decide, by decide⟩, by rw [show (Part.pat [] [true]).text = Str.ofString "..+" by decide +kernel]⟩
  · exact ⟨.pat [] [true, true], ⟨by decide, by decide⟩, by rw [show (Part.pat [] [true, true]).text = Str.ofString "..++" by decide +kernel]⟩
  · exact ⟨.pat [true] [], ⟨by decide, by decide⟩, by rw [show (Part.pat [true] []).text = Str.ofString "+.." by decide +kernel]⟩
  · exact ⟨.pat [true] [true], ⟨by decide, by decide⟩, by rw [show (Part.pat [true] [true]).text = Str.ofString "+..+" by decide +kernel]⟩
  · exact ⟨.pat [] [true, true, true], ⟨by decide, by decide⟩, by rw [show (Part.pat [] [true, true, true]).text = Str.ofString "..+++" by decide +kernel]⟩
  · exact ⟨.pat [] [], ⟨by decide, by decide⟩, by rw [show (Part.pat [] []).text = Str.ofString ".." by decide +kernel]⟩
  · exact ⟨.pat [true] [true, true], ⟨by decide, by decide⟩, by rw [show (Part.pat [true] [true, true]).text = Str.ofString "+..++" by decide +kernel]⟩
  · exact ⟨.pat [] [false, true], ⟨by decide, by decide⟩, by rw [show (Part.pat [] [false, true]).text = Str.ofString "..-+" by decide +kernel]⟩
theorem ok_part (Z : Zs mg) (D : Df K mg "_law_part" s_part P_part f fd) {f1 f2 f3 : Addr} {d1 d2 d3 : FuncData} (D_roll : Cl P w K mg base "_law_roll" 1 f1 d1 P_roll spRoll) (D_oneL : Cl P w K mg base "_law_one_of" 2 f2 d2 P_one_of (spOneL K))
    (D_signs : Cl P w K mg base "_law_signs" 3 f3 d3 P_signs spSigns) : FnOk P w K mg base CX0 4 f fd P_part spPart := by
  refine D.F.ok sc_part (fun vs H Q E h => ?_) (fun cdv A outer s H vs Q E hr h => ?_)
  · obtain ⟨d, rfl, _⟩ := h
    rfl
  · obtain ⟨d, rfl, hD, q⟩ := h
    have nd := sc_part.nd
    refine ⟨_,
    (pss_cons
    (ps_set (i := 1) nd rfl (Or.inl rfl) (pe_lst (pa_cons pe_str (pa_cons pe_str (pa_cons pe_str (pa_cons pe_str (pa_cons pe_str (pa_cons pe_str (pa_cons pe_str (pa_cons pe_str (pa_cons pe_str (pa_cons pe_str pa_nil))))))))))))
    (pss_cons
    (ps_if (pt_cmpR op_gt (pe_call D_roll.ok (hr.mono (by decide)) (by rfl) D_roll.g D_roll.kp D_roll.b .nil pass0 (pa_cons (pv 0) (pa_cons pe_int pa_nil))) pe_int (nomark _))
      (pss_one
      (ps_ret (pe_call D_oneL.ok (hr.mono (by decide)) (by rfl) D_oneL.g D_oneL.kp D_oneL.b .nil pass0 (pa_cons (pv 0) (pa_cons (pv 1) pa_nil)))))
      pss_nil)
    (pss_one
    (ps_ret (pe_op op_add_str (pe_op op_add_str (pe_call D_signs.ok (hr.mono (by decide)) (by rfl) D_signs.g D_signs.kp D_signs.b .nil pass0 (pa_cons (pv 0) (pa_cons pe_int pa_nil))) pe_str) (pe_call D_signs.ok (hr.mono (by decide)) (by rfl) D_signs.g D_signs.kp D_signs.b .nil pass0 (pa_cons (pv 0) (pa_cons pe_int pa_nil)))))))), ?_⟩
    refine ⟨by show 10 ≤ sizeLine; decide, fun p hp => ?_⟩
    have s1 := same_new (o := .lst ([.str "all", .str "all", .str "..+", .str "..++", .str "+..", .str "+..+", .str "..+++", .str "..", .str "+..++", .str "..-+"] : List V)) hp
    have hpl : (upd H p (.lst ([.str "all", .str "all", .str "..+", .str "..++", .str "+..", .str "+..+", .str "..+++", .str "..", .str "+..++", .str "..-+"] : List V))) p = some _ := upd_same
    have D1 := hD.keep s1
    have npd : p ≠ d := (dice_ne hD hp).symm
    refine ⟨_, rfl, d, 3, rfl, D1, by decide, by decide, fun H2 r c2 D2 r0 r1 => ?_⟩
    refine ⟨_, _, rfl, rfl, _, rfl, ?_⟩
    by_cases h : (0 : Int) < r
    · refine ifT (decide_eq_true h) ⟨_, rfl, _, rfl, d, p, _, rfl, D2, npd, .of (c2 _ _ npd hpl), by decide, by decide, fun H3 x c3 D3 mem => ?_⟩
      obtain ⟨pt, hpt, rfl⟩ := commons x mem
      exact q H3 pt (((Chg.of s1).trans c2).trans c3) D3 hpt
    · refine ifF (decide_eq_false h) ?_
      dsimp only [tNext]
      refine ⟨_, rfl, d, 2, rfl, D2, by decide, fun H3 l1 c3 D3 hl1 => ?_⟩
      have e2 : (Str.ofString "..").length = 2 := by decide +kernel
      refine ⟨sT l1, _, rfl, rfl, by rw [sT_len, e2]; exact sz1000 (by omega), _, rfl, d, 3, rfl, D3, by decide, fun H4 l2 c4 D4 hl2 => ?_⟩
      refine ⟨_, sT l2, rfl, rfl, ?_, q H4 (.pat l1 l2) ((((Chg.of s1).trans c2).trans c3).trans c4) D4 ⟨hl1, hl2⟩⟩
      rw [← str_len, app_cps, List.length_append, str_len, str_len, sT_len, sT_len, e2]
      exact sz1000 (by omega)

def spLParts : Sp := fun vs H Q _ => ∃ (d : Addr) (m : Nat), vs = [.ref d, .int m] ∧ Dice H d ∧ 1 ≤ m ∧ m ≤ 4 ∧ ∀ H' a ps, Chg d H H' → Dice H' d → H a = none → H' a = some (.lst (pV ps)) → (∀ p ∈ ps, Ok p) → ps.length ≤ m → Q (.ref a) H'
theorem ok_lparts (Z : Zs mg) (D : Df K mg "_law_parts" s_lparts P_lparts f fd) {f2 f3 : Addr} {d2 d3 : FuncData} (D_oneL : Cl P w K mg base "_law_one_of" 2 f2 d2 P_one_of (spOneL K))
    (D_part : Cl P w K mg base "_law_part" 4 f3 d3 P_part spPart) : FnOk P w K mg base CX0 5 f fd P_lparts spLParts := by
  refine D.F.ok sc_lparts (fun vs H Q E h => ?_) (fun cdv A outer s H vs Q E hr h => ?_)
  · obtain ⟨d, m, rfl, _⟩ := h
    rfl
  · obtain ⟨d, m, rfl, hD, hm1, hm, q⟩ := h
    have nd := sc_lparts.nd
    refine ⟨_,
    (pss_one
    (ps_ret (pe_lc (own := [("_law_turn", 2)]) (g := gName 2) (tt := tYes) rfl nd (pi_range1 (by rfl) Z.z_range (pa_cons (pe_call D_oneL.ok (hr.mono (by decide)) (by rfl) D_oneL.g D_oneL.kp D_oneL.b .nil pass0 (pa_cons (pv 0) (pa_cons (pe_lst (pa_cons pe_int (pa_cons pe_int (pa_cons pe_int (pa_cons pe_int (pa_cons (pe_callB (call_min2 rfl) (by rfl) Z.z_min (by decide +kernel) (pa_cons pe_int (pa_cons (pv 1) pa_nil))) (pa_cons (pv 1) pa_nil))))))) pa_nil))) pa_nil)) (blkOk_by (N := N_lparts) (sc := defScope s_lparts) (by decide +kernel)) (fun _ _ _ _ _ => (pg_name (i := 2) nd rfl (Or.inl rfl))) (fun _ _ _ _ _ => pts_nil) (fun _ _ _ _ _ => (pe_call D_part.ok (hr.mono (by decide)) (by rfl) D_part.g D_part.kp D_part.b .nil pass0 (pa_cons (pv 0) pa_nil)))))), ?_⟩
    refine ⟨_, rfl, _, rfl, _, _, rfl, _, rfl, by show 6 ≤ sizeLine; decide, fun p hp => ?_⟩
    have s1 := fun o => same_new (o := o) hp
    have npd : p ≠ d := (dice_ne hD hp).symm
    refine ⟨d, p, _, rfl, hD.keep (s1 _), npd, .of upd_same, by show 0 < 6; decide, by show 6 < 1000; decide, fun H1 x c1 D1 mem => ?_⟩
    obtain ⟨k, hk, rfl⟩ : ∃ k : Nat, k ≤ m ∧ x = .int k := by
      simp only [List.mem_cons, List.not_mem_nil, or_false] at mem
      rcases mem with h | h | h | h | h | h
      · exact ⟨0, by omega, h⟩
      · exact ⟨1, hm1, h⟩
      · exact ⟨1, hm1, h⟩
      · exact ⟨1, hm1, h⟩
      · refine ⟨min 2 m, by omega, h.trans (congrArg V.int ?_)⟩
        split <;> omega
      · exact ⟨m, by omega, h⟩
    have c1' : Chg d H H1 := (Chg.of (s1 _)).trans c1
    refine ⟨k, rfl, by omega, by omega, fun D2 nD => ?_⟩
    have ne := dice_ne D1 nD
    refine lc_range (lo := 0) (n := (k : Int).toNat) (fun i H2 => Chg d H H2 ∧ Dice H2 d ∧ ∃ ps : List Part, H2 D2 = some (.lst (pV ps)) ∧ ps.length = i ∧ ∀ p ∈ ps, Ok p)
      ⟨c1'.new nD, D1.new nD, [], upd_same, rfl, fun _ h => by cases h⟩ (fun i H2 hi hP => ?_) (fun H2 hP => ?_)
    · obtain ⟨c2, D2', ps, hy, hl, hok⟩ := hP
      refine ⟨rfl, _, rfl, d, rfl, D2', fun H3 pt ch D3 hpt => ?_⟩
      have e3 : H3 D2 = some (.lst (pV ps)) := ch _ _ ne.symm hy
      refine ⟨_, e3, by rw [pV_len]; exact small1000 (by omega), ?_⟩
      refine ⟨fun x o nx e => ?_, ?_, ps ++ [pt], ?_, ?_, ?_⟩
      · rw [upd_ne (ne_of_none (c1' _ _ nx e) nD)]
        exact (c2.trans ch) _ _ nx e
      · obtain ⟨a, b, c', ed, B⟩ := D3
        exact ⟨a, b, c', by rw [upd_ne ne]; exact ed, B⟩
      · rw [upd_same]
        unfold pV
        rw [List.map_append]
        rfl
      · rw [List.length_append, hl]
        rfl
      · intro y hy'
        rcases List.mem_append.mp hy' with hy' | hy'
        · exact hok y hy'
        · rw [List.mem_singleton.mp hy']
          exact hpt
    · obtain ⟨c2, D2', ps, hy, hl, hok⟩ := hP
      have nH : H D2 = none := by
        cases e : H D2 with
        | none => rfl
        | some o => exact absurd (c1' _ _ ne.symm e) (by rw [nD]; exact fun z => nomatch z)
      exact q H2 D2 ps c2 D2' nH hy hok (by omega)

end
end K02
set_option Elab.async false
set_option linter.all false
set_option maxRecDepth 100000
set_option maxHeartbeats 8000000
namespace K02
open PySem PySem.Spec PyProof.Rows L2 Ly Cut

abbrev s_kept : Stmt := topS 34
abbrev N_kept : List Str := ["_law_parts_here", "_law_row", "_law_part_here", "_law_front", "_law_back", "_law_many", "_law_found", "_law_at", "_law_ahead"]
abbrev P_kept : List Str := ["_law_parts_here", "_law_row"]
theorem sc_kept : FnScope N_kept P_kept (defScope s_kept) := ⟨rfl, rfl, rfl, by decide +kernel, rfl, by decide +kernel, by decide +kernel⟩

abbrev s_called : Stmt := topS 35
abbrev N_called : List Str := ["_law_parts_here"]
abbrev P_called : List Str := ["_law_parts_here"]
theorem sc_called : FnScope N_called P_called (defScope s_called) := ⟨rfl, rfl, rfl, by decide +kernel, rfl, by decide +kernel, by decide +kernel⟩

section
variable {P : Program} {w : World} {K : PySem.W.Frag} {mg : Str → Option Value} {base : Heap} {f C : Addr} {fd : FuncData}
theorem plusV (b : Bool) : decide ((V.str ⟨#[sgn b]⟩) = V.str "+") = b := by cases b <;> decide +kernel
def spLKept (K : PySem.W.Frag) : Sp := fun vs H Q _ => ∃ (a r : Addr) (ps : List Part) (xs : List V), vs = [.ref a, .ref r] ∧ H a = some (.lst (pV ps)) ∧ H r = some (.lst xs) ∧ (∀ p ∈ ps, Ok p) ∧ xs.length ≤ 1000 ∧ ∀ H' q, Same H H' → H q = none → H' q = some (.tup (run ps xs)) → Q (.ref q) H'
theorem ok_lkept (Z : Zs mg) (D : Df K mg "_law_kept" s_kept P_kept f fd) : FnOk P w K mg base CX0 1 f fd P_kept (spLKept K) := by
  refine D.F.ok sc_kept (fun vs H Q E h => ?_) (fun cdv A outer s H vs Q E hr h => ?_)
  · obtain ⟨a, r, ps, xs, rfl, _⟩ := h
    rfl
  · obtain ⟨a, r, ps, xs, rfl, ha, hr', hok, hl, q⟩ := h
    have nd := sc_kept.nd
    refine ⟨_,
    (pss_cons
    (ps_set (i := 1) nd rfl (Or.inl rfl) (pe_callTy call_tuple_of (by rfl) Z.z_tuple (by decide +kernel) (pa_cons (pv 1) pa_nil)))
    (pss_cons
    (ps_for PassesOwn.never rfl (pi_list (pv 0)) (pg_name (i := 2) nd rfl (Or.inl rfl))
      (pss_one
      (ps_if (pt_cmpR op_ne (pv 2) pe_str (nomark _))
        (pss_cons
        (ps_asg (pe_split (pv 2) pe_str) (pg_lst rfl (pgs_cons (pg_name (i := 3) nd rfl (Or.inl rfl)) (pgs_cons (pg_name (i := 4) nd rfl (Or.inl rfl)) pgs_nil))))
        (pss_cons
        (ps_par (i := 5) (j := 6) (by rfl) nd rfl rfl (by decide) rfl rfl (pa_cons (pe_callB call_lenT (by rfl) Z.z_len (by decide +kernel) (pa_cons (pv 1) pa_nil)) (pa_cons (pe_lst pa_nil) pa_nil)) (by rfl))
        (pss_cons
        (ps_for PassesOwn.never rfl (pi_range1 (by rfl) Z.z_range (pa_cons (pv 5) pa_nil)) (pg_name (i := 7) nd rfl (Or.inl rfl))
          (pss_cons
          (ps_set (i := 8) nd rfl (Or.inl rfl) (pe_and (pe_cmpR op_lt (pv 7) (pe_callB call_len_str (by rfl) Z.z_len (by decide +kernel) (pa_cons (pv 3) pa_nil)) (nomark _)) (pe_one (pe_cmpR op_eq (pe_ix ix_str (pv 3) (pv 7) (fun _ _ => rfl)) pe_str (nomark _)))))
          (pss_one
          (ps_if (PW.pt (pw_or (pt_val (pv 8)) (pw_or1 (PW.pt (pw_and (pt_cmpR op_le (pe_op op_sub (pv 5) (pv 7)) (pe_callB call_len_str (by rfl) Z.z_len (by decide +kernel) (pa_cons (pv 4) pa_nil)) (nomark _)) (pw_and1 (pt_cmpR op_eq (pe_ix ix_str (pv 4) (pe_op op_add (pe_op op_sub (pe_callB call_len_str (by rfl) Z.z_len (by decide +kernel) (pa_cons (pv 4) pa_nil)) (pv 5)) (pv 7)) (fun _ _ => rfl)) pe_str (nomark _))))))))
            (pss_one
            (ps_expr (pe_bm PySem.F.plainAttrs_list PySem.F.slot_list_append PySem.F.type_list_append mt_append (pv 6) (pa_cons (pe_ix ix_tup (pv 1) (pv 7) (fun _ _ => rfl)) pa_nil))))
            pss_nil))))
        (pss_one
        (ps_set (i := 1) nd rfl (Or.inl rfl) (pe_callTy call_tuple_of (by rfl) Z.z_tuple (by decide +kernel) (pa_cons (pv 6) pa_nil)))))))
        pss_nil)))
    (pss_one
    (ps_ret (pv 1))))), ?_⟩
    refine ⟨_, rfl, r, xs, rfl, .inl ⟨.of hr', fun t0 nt0 => ?_⟩⟩
    have s0 := same_new (o := .tup xs) nt0
    refine ⟨_, rfl, a, rfl, ⟨_, .of (s0 _ _ ha)⟩, ?_⟩
    refine for_list (xs := pV ps) (fun i σ' H' => Same H H' ∧ ∃ (t : Addr) (x2 x3 x4 x5 x6 x7 x8 : Option V), σ' = [some (.ref a), some (.ref t), x2, x3, x4, x5, x6, x7, x8] ∧ H t = none ∧ H' t = some (.tup (run (ps.take i) xs)))
      ⟨s0, t0, none, none, none, none, none, none, none, rfl, nt0, upd_same⟩ (fun i σ' H' _ hP => .of (hP.1 _ _ ha)) (fun i x σ' H1 hx hP => ?_) (fun σ' H1 hP => ?_)
    · obtain ⟨s1, t, x2, x3, x4, x5, x6, x7, x8, rfl, nt, ht⟩ := hP
      obtain ⟨pt, hpt, rfl⟩ := pV_get hx
      have hokp := hok pt (List.mem_of_getElem? hpt)
      generalize hrow : run (ps.take i) xs = row at ht
      have hrl : row.length ≤ xs.length := by
        rw [← hrow]
        exact run_len _ _
      have hnext : run (ps.take (i + 1)) xs = pick pt row := by
        rw [List.take_add_one, hpt, ← hrow]
        exact run_append _ _ _
      refine ⟨_, rfl, rfl, _, rfl, ?_⟩
      cases pt with
      | all =>
        refine ifF (by rw [decide_eq_true (show V.str Part.all.text = V.str "all" from rfl)]; rfl) ?_
        dsimp only [tNext]
        exact ⟨s1, t, _, _, _, _, _, _, _, rfl, nt, by rw [hnext, pick_all]; exact ht⟩
      | pat fr bk =>
        have F := pat_facts hokp
        obtain ⟨hf, hb⟩ := (show fr.length ≤ 2 ∧ bk.length ≤ 3 from hokp)
        refine ifT (by rw [decide_eq_false fun z => F.ne (V.str.inj z)]; rfl) ?_
        refine ⟨_, rfl, ⟨_, rfl⟩, _, _, rfl, rfl, by decide +kernel, sz1000 (by have := F.len; omega), fun l0 nl0 => ?_⟩
        rw [F.spl]
        refine ⟨l0, _, rfl, .of upd_same, rfl, _, _, rfl, _, _, rfl, rfl, ?_⟩
        have s2 := s1.trans (same_new (o := .lst ([sT fr, sT bk].map V.str)) nl0)
        have ht2 := same_new (o := .lst ([sT fr, sT bk].map V.str)) nl0 _ _ ht
        generalize upd H1 l0 _ = H2 at s2 ht2 ⊢
        refine ⟨_, rfl, t, row, rfl, .of ht2, by show 0 ≤ sizeLine; decide, fun D9 nD => ⟨_, _, rfl, ?_⟩⟩
        refine ⟨_, rfl, row.length, rfl, by omega, by omega, ?_⟩
        refine for_range (lo := 0) (n := (row.length : Int).toNat) (fun j σ' H' => Same H2 H' ∧ ∃ (y7 y8 : Option V), σ' = [some (.ref a), some (.ref t), some (.str (Part.pat fr bk).text), some (.str (sT fr)), some (.str (sT bk)), some (.int row.length), some (.ref D9), y7, y8] ∧ H' D9 = some (.lst (((List.range j).filter (kat fr bk row.length)).filterMap fun i => row[i]?)))
          ⟨same_new nD, _, _, rfl, upd_same⟩ (fun j σ' H3 hj hP3 => ?_) (fun σ' H3 hP3 => ?_)
        · obtain ⟨s3, y7, y8, rfl, hd⟩ := hP3
          have hjl : j < row.length := by omega
          have z0 : (0 : Int) + (j : Int) = (j : Int) := Int.zero_add _
          rw [z0]
          refine asgS (fun v H' => v = .bl (hp fr j) ∧ H' = H3) (fun Q' q' => ?_) (fun v H' hv => ?_)
          · refine ⟨_, rfl, _, rfl, sT fr, rfl, by rw [sT_len]; exact sz1000 (by omega), _, _, rfl, rfl, _, rfl, ?_⟩
            rw [sT_len]
            by_cases h1 : (j : Int) < (fr.length : Int)
            · refine ifT (decide_eq_true h1) ⟨_, rfl, _, rfl, sT fr, j, sgn (fr.getD j false), rfl, rfl, by rw [sT_len]; exact sz1000 (by omega), atI_nat (sT_get (by omega)), rfl, ?_⟩
              rw [plusV]
              refine q' _ _ ⟨congrArg V.bl ?_, rfl⟩
              unfold hp
              rw [decide_eq_true h1, decide_eq_true (show (0 : Int) ≤ j by omega), Int.toNat_natCast]
              rfl
            · refine ifF (decide_eq_false h1) (q' _ _ ⟨congrArg V.bl ?_, rfl⟩)
              exact (hp_out (by omega)).symm
          obtain ⟨rfl, rfl⟩ := hv
          have grow : kat fr bk row.length j = true → (((List.range (j + 1)).filter (kat fr bk row.length)).filterMap fun i => row[i]?) = (((List.range j).filter (kat fr bk row.length)).filterMap fun i => row[i]?) ++ [row[j]] := fun hc => by
            have e1 : [j].filter (kat fr bk row.length) = [j] := by rw [List.filter_cons, hc]; rfl
            rw [List.range_succ, List.filter_append, e1, List.filterMap_append, List.filterMap_cons, List.getElem?_eq_getElem hjl]
            rfl
          have stay : kat fr bk row.length j = false → (((List.range (j + 1)).filter (kat fr bk row.length)).filterMap fun i => row[i]?) = (((List.range j).filter (kat fr bk row.length)).filterMap fun i => row[i]?) := fun hc => by
            have e1 : [j].filter (kat fr bk row.length) = [] := by rw [List.filter_cons, hc]; rfl
            rw [List.range_succ, List.filter_append, e1, List.append_nil]
          have small : (((List.range j).filter (kat fr bk row.length)).filterMap fun i => row[i]?).length < sizeLine := by
            refine Nat.lt_of_le_of_lt (List.length_filterMap_le _ _) (Nat.lt_of_le_of_lt (List.length_filter_le _ _) ?_)
            rw [List.length_range]
            exact small1000 (by omega)
          have fin := fun (hc : kat fr bk row.length j = true) => (show _ from ⟨same_set (o := .lst ((((List.range j).filter (kat fr bk row.length)).filterMap fun i => row[i]?) ++ [row[j]])) s3 nD, some (V.int (j : Int)), some (V.bl (hp fr (j : Int))), rfl, by rw [upd_same, grow hc]⟩ : Same H2 (upd H' D9 (.lst ((((List.range j).filter (kat fr bk row.length)).filterMap fun i => row[i]?) ++ [row[j]]))) ∧ ∃ (y7 y8 : Option V), [some (.ref a), some (.ref t), some (.str (Part.pat fr bk).text), some (.str (sT fr)), some (.str (sT bk)), some (.int row.length), some (.ref D9), some (V.int (j : Int)), some (V.bl (hp fr (j : Int)))] = [some (.ref a), some (.ref t), some (.str (Part.pat fr bk).text), some (.str (sT fr)), some (.str (sT bk)), some (.int row.length), some (.ref D9), y7, y8] ∧
            (upd H' D9 (.lst ((((List.range j).filter (kat fr bk row.length)).filterMap fun i => row[i]?) ++ [row[j]]))) D9 = some (.lst (((List.range (j + 1)).filter (kat fr bk row.length)).filterMap fun i => row[i]?)))
          have not_ := fun (hc : kat fr bk row.length j = false) => (show _ from ⟨s3, some (V.int (j : Int)), some (V.bl (hp fr (j : Int))), rfl, by rw [stay hc]; exact hd⟩ : Same H2 H' ∧ ∃ (y7 y8 : Option V), [some (.ref a), some (.ref t), some (.str (Part.pat fr bk).text), some (.str (sT fr)), some (.str (sT bk)), some (.int row.length), some (.ref D9), some (V.int (j : Int)), some (V.bl (hp fr (j : Int)))] = [some (.ref a), some (.ref t), some (.str (Part.pat fr bk).text), some (.str (sT fr)), some (.str (sT bk)), some (.int row.length), some (.ref D9), y7, y8] ∧
            H' D9 = some (.lst (((List.range (j + 1)).filter (kat fr bk row.length)).filterMap fun i => row[i]?)))
          refine ⟨_, rfl, hp fr j, rfl, ?_⟩
          by_cases h1 : hp fr j = true
          · have hc : kat fr bk row.length j = true := by
              unfold kat
              rw [h1, Bool.true_or]
            exact ifT h1 (ifT rfl ⟨_, rfl, .inl ⟨rfl, _, .of hd⟩, _, rfl, _, rfl, t, row, (j : Int), row[j], rfl, rfl, .of (s3 _ _ ht2), atI_nat (List.getElem?_eq_getElem hjl), D9, _, row[j], rfl, rfl, hd, small, fin hc⟩)
          · have h1' := eq_false_of_ne_true h1
            have ec : kat fr bk row.length j = hp bk ((j : Int) - ((row.length : Int) - bk.length)) := by
              unfold kat
              rw [h1', Bool.false_or]
            refine ifF h1' ⟨_, rfl, _, rfl, _, _, rfl, rfl, _, rfl, sT bk, rfl, by rw [sT_len]; exact sz1000 (by omega), _, _, rfl, rfl, _, rfl, ?_⟩
            rw [sT_len]
            by_cases h2 : (row.length : Int) - (j : Int) ≤ (bk.length : Int)
            · refine ifT (decide_eq_true h2) ⟨_, rfl, _, rfl, sT bk, rfl, by rw [sT_len]; exact sz1000 (by omega), _, rfl, _, _, rfl, rfl, _, rfl, _, _, rfl, rfl, sT bk, (bk.length : Int) - row.length + j, sgn (bk.getD ((bk.length : Int) - row.length + j).toNat false), rfl, by rw [sT_len], by rw [sT_len]; exact sz1000 (by omega), ?_, rfl, _, rfl, ?_⟩
              · exact at_nat (by omega) (sT_get (by omega))
              · rw [plusV]
                have eb : hp bk ((j : Int) - ((row.length : Int) - bk.length)) = bk.getD ((bk.length : Int) - row.length + j).toNat false := by
                  unfold hp
                  rw [decide_eq_true (show (0 : Int) ≤ (j : Int) - ((row.length : Int) - bk.length) by omega), decide_eq_true (show (j : Int) - ((row.length : Int) - bk.length) < (bk.length : Int) by omega), show (j : Int) - ((row.length : Int) - bk.length) = (bk.length : Int) - row.length + j by omega]
                  rfl
                rw [← eb, ← ec]
                by_cases hc : kat fr bk row.length j = true
                · exact ifT hc ⟨_, rfl, .inl ⟨rfl, _, .of hd⟩, _, rfl, _, rfl, t, row, (j : Int), row[j], rfl, rfl, .of (s3 _ _ ht2), atI_nat (List.getElem?_eq_getElem hjl), D9, _, row[j], rfl, rfl, hd, small, fin hc⟩
                · exact ifF (eq_false_of_ne_true hc) (not_ (eq_false_of_ne_true hc))
            · refine ifF (decide_eq_false h2) (ifF rfl (not_ ?_))
              rw [ec, hp_neg (by omega)]
        · obtain ⟨s3, y7, y8, rfl, hd⟩ := hP3
          refine ⟨_, rfl, D9, _, rfl, .inl ⟨.of hd, fun t' nt' => ?_⟩⟩
          exact ⟨(s2.trans s3).trans (same_new nt'), t', _, _, _, _, _, _, _, rfl, (s2.trans s3).free nt', by rw [upd_same, hnext]; rfl⟩
    · obtain ⟨s1, t, x2, x3, x4, x5, x6, x7, x8, rfl, nt, ht⟩ := hP
      have e1 : ps.take (pV ps).length = ps := List.take_of_length_le (by rw [pV_len]; exact Nat.le_refl _)
      rw [e1] at ht
      exact ⟨_, rfl, q H1 t s1 nt ht⟩

def spCalled (C : Addr) : Sp := fun vs H Q _ => ∃ (a : Addr) (ps : List Part), vs = [.ref a] ∧ H a = some (.lst (pV ps)) ∧ (∀ p ∈ ps, Ok p) ∧ ps.length ≤ 4 ∧ ∀ H' x, Same H H' → H x = none → CutAt C H' x ps → Q (.ref x) H'
theorem ok_called (Z : Zs mg) (D : Df K mg "_law_called" s_called P_called f fd) (hC : mg "Cutter" = some (.ref C)) {fi : Addr} (M : Mk K C fi) (FI : FnR P w K mg base CX0 5 fi (spInit C)) : FnOk P w K mg base CX0 7 f fd P_called (spCalled C) := by
  refine D.F.ok sc_called (fun vs H Q E h => ?_) (fun cdv A outer s H vs Q E hr h => ?_)
  · obtain ⟨a, ps, rfl, _⟩ := h
    rfl
  · obtain ⟨a, ps, rfl, ha, hok, hl, q⟩ := h
    have nd := sc_called.nd
    refine ⟨_,
    (pss_cons
    (ps_if (pt_cmpR op_eq (pe_callB call_lenL (by rfl) Z.z_len (by decide +kernel) (pa_cons (pv 0) pa_nil)) pe_int (nomark _))
      (pss_one
      (ps_ret (pe_makeR0 M FI (hr.mono (by decide)) (by rfl) hC pass0)))
      pss_nil)
    (pss_cons
    (ps_if (pt_cmpR op_eq (pe_callB call_lenL (by rfl) Z.z_len (by decide +kernel) (pa_cons (pv 0) pa_nil)) pe_int (nomark _))
      (pss_one
      (ps_ret (StX.pe_makeR M FI (hr.mono (by decide)) (by rfl) hC pass0 (pa_cons (pe_ix ix_list (pv 0) pe_int (fun _ _ => rfl)) pa_nil))))
      pss_nil)
    (pss_cons
    (ps_if (pt_cmpR op_eq (pe_callB call_lenL (by rfl) Z.z_len (by decide +kernel) (pa_cons (pv 0) pa_nil)) pe_int (nomark _))
      (pss_one
      (ps_ret (StX.pe_makeR M FI (hr.mono (by decide)) (by rfl) hC pass0 (pa_cons (pe_ix ix_list (pv 0) pe_int (fun _ _ => rfl)) (pa_cons (pe_ix ix_list (pv 0) pe_int (fun _ _ => rfl)) pa_nil)))))
      pss_nil)
    (pss_cons
    (ps_if (pt_cmpR op_eq (pe_callB call_lenL (by rfl) Z.z_len (by decide +kernel) (pa_cons (pv 0) pa_nil)) pe_int (nomark _))
      (pss_one
      (ps_ret (StX.pe_makeR M FI (hr.mono (by decide)) (by rfl) hC pass0 (pa_cons (pe_ix ix_list (pv 0) pe_int (fun _ _ => rfl)) (pa_cons (pe_ix ix_list (pv 0) pe_int (fun _ _ => rfl)) (pa_cons (pe_ix ix_list (pv 0) pe_int (fun _ _ => rfl)) pa_nil))))))
      pss_nil)
    (pss_one
    (ps_ret (StX.pe_makeR M FI (hr.mono (by decide)) (by rfl) hC pass0 (pa_cons (pe_ix ix_list (pv 0) pe_int (fun _ _ => rfl)) (pa_cons (pe_ix ix_list (pv 0) pe_int (fun _ _ => rfl)) (pa_cons (pe_ix ix_list (pv 0) pe_int (fun _ _ => rfl)) (pa_cons (pe_ix ix_list (pv 0) pe_int (fun _ _ => rfl)) pa_nil))))))))))), ?_⟩
    have fin : ∀ x dx, H x = none → H dx = none → dx ≠ x → ∀ ps', ps' = ps → spInit C (V.ref x :: pV ps') (upd (upd H dx (.own x)) x (.ins C dx [])) (fun v H2 => v = .non ∧ Q (.ref x) H2) E0 := fun x dx nx ndx hne ps' e => by
      subst e
      refine ⟨x, dx, ps', rfl, upd_same, hok, hl, fun H' c' k => ⟨rfl, q H' x (fun b o e => ?_) nx k⟩⟩
      refine c' b o (ne_of_none e nx) ?_
      rw [upd_ne (ne_of_none e nx), upd_ne (ne_of_none e ndx)]
      exact e
    match ps, ha, fin with
    | [], ha, fin => exact ⟨_, rfl, a, _, rfl, .of ha, rfl, _, rfl, ifT rfl fun x dx nx ndx hne => fin x dx nx ndx hne [] rfl⟩
    | [p1], ha, fin =>
      refine ⟨_, rfl, a, _, rfl, .of ha, rfl, _, rfl, ifF rfl ?_⟩
      dsimp only [tNext]
      refine ⟨_, rfl, a, _, rfl, .of ha, rfl, _, rfl, ifT rfl ?_⟩
      exact ⟨_, rfl, a, pV [p1], (0 : Nat), _, rfl, rfl, .of ha, atI_nat rfl, fun x dx nx ndx hne => fin x dx nx ndx hne [p1] rfl⟩
    | [p1, p2], ha, fin =>
      refine ⟨_, rfl, a, _, rfl, .of ha, rfl, _, rfl, ifF rfl ?_⟩
      dsimp only [tNext]
      refine ⟨_, rfl, a, _, rfl, .of ha, rfl, _, rfl, ifF rfl ?_⟩
      dsimp only [tNext]
      refine ⟨_, rfl, a, _, rfl, .of ha, rfl, _, rfl, ifT rfl ?_⟩
      exact ⟨_, rfl, a, pV [p1, p2], (0 : Nat), _, rfl, rfl, .of ha, atI_nat rfl, _, rfl, a, pV [p1, p2], (1 : Nat), _, rfl, rfl, .of ha, atI_nat rfl, fun x dx nx ndx hne => fin x dx nx ndx hne [p1, p2] rfl⟩
    | [p1, p2, p3], ha, fin =>
      refine ⟨_, rfl, a, _, rfl, .of ha, rfl, _, rfl, ifF rfl ?_⟩
      dsimp only [tNext]
      refine ⟨_, rfl, a, _, rfl, .of ha, rfl, _, rfl, ifF rfl ?_⟩
      dsimp only [tNext]
      refine ⟨_, rfl, a, _, rfl, .of ha, rfl, _, rfl, ifF rfl ?_⟩
      dsimp only [tNext]
      refine ⟨_, rfl, a, _, rfl, .of ha, rfl, _, rfl, ifT rfl ?_⟩
      exact ⟨_, rfl, a, pV [p1, p2, p3], (0 : Nat), _, rfl, rfl, .of ha, atI_nat rfl, _, rfl, a, pV [p1, p2, p3], (1 : Nat), _, rfl, rfl, .of ha, atI_nat rfl, _, rfl, a, pV [p1, p2, p3], (2 : Nat), _, rfl, rfl, .of ha, atI_nat rfl, fun x dx nx ndx hne => fin x dx nx ndx hne [p1, p2, p3] rfl⟩
    | [p1, p2, p3, p4], ha, fin =>
      refine ⟨_, rfl, a, _, rfl, .of ha, rfl, _, rfl, ifF rfl ?_⟩
      dsimp only [tNext]
      refine ⟨_, rfl, a, _, rfl, .of ha, rfl, _, rfl, ifF rfl ?_⟩
      dsimp only [tNext]
      refine ⟨_, rfl, a, _, rfl, .of ha, rfl, _, rfl, ifF rfl ?_⟩
      dsimp only [tNext]
      refine ⟨_, rfl, a, _, rfl, .of ha, rfl, _, rfl, ifF rfl ?_⟩
      dsimp only [tNext]
      exact ⟨_, rfl, a, pV [p1, p2, p3, p4], (0 : Nat), _, rfl, rfl, .of ha, atI_nat rfl, _, rfl, a, pV [p1, p2, p3, p4], (1 : Nat), _, rfl, rfl, .of ha, atI_nat rfl, _, rfl, a, pV [p1, p2, p3, p4], (2 : Nat), _, rfl, rfl, .of ha, atI_nat rfl,
        _, rfl, a, pV [p1, p2, p3, p4], (3 : Nat), _, rfl, rfl, .of ha, atI_nat rfl, fun x dx nx ndx hne => fin x dx nx ndx hne [p1, p2, p3, p4] rfl⟩
    | _ :: _ :: _ :: _ :: _ :: r, _, _ =>
      simp only [List.length_cons] at hl
      omega

end
end K02
set_option Elab.async false
set_option linter.all false
set_option maxRecDepth 100000
set_option maxHeartbeats 4000000
/-! what cutters tell, as data that repr and == see -/
namespace Cut
open PySem PySem.Spec PyProof.Rows L2 Ly
theorem log_small {i : Int} (h : i.natAbs < 2 ^ 1900) : i.natAbs.log2 < 1920 := by
  by_cases h0 : i.natAbs = 0
  · rw [h0]
    decide
  · exact Nat.lt_of_lt_of_le ((Nat.log2_lt h0).mpr h) (by decide)
theorem rpAll_iV {H : Hp} : ∀ l : List Nat, (∀ i ∈ l, i ≤ 2000) → RpAll H (l.map fun (i : Nat) => PyData.int (i : Int)) (iV l)
  | [], _ => rfl
  | i :: l, h => by
    refine ⟨.int i, iV l, rfl, ⟨rfl, log_small ?_⟩, rpAll_iV l fun j hj => h j (List.mem_cons_of_mem _ hj)⟩
    have h1 := h i List.mem_cons_self
    have h2 : (2000 : Nat) < 2 ^ 1900 := by decide +kernel
    rw [Int.natAbs_natCast]
    omega
theorem rp_iV {H : Hp} {q : Addr} {l : List Nat} (e : H q = some (.tup (iV l))) (h : ∀ i ∈ l, i ≤ 2000) : Rp H (dI l) (.ref q) := ⟨q, iV l, rfl, e, rpAll_iV l h⟩
theorem bulk_ints : ∀ l : List Nat, PyData.bulkAll (l.map fun (i : Nat) => PyData.int (i : Int)) = l.length
  | [] => rfl
  | i :: l => by
    show 0 + 1 + PyData.bulkAll (l.map fun (i : Nat) => PyData.int (i : Int)) = l.length + 1
    rw [bulk_ints l]
    omega
theorem bulk_dI (l : List Nat) : (dI l).bulk = l.length := bulk_ints l
theorem depth_dI (l : List Nat) : (dI l).depth = 1 := by
  show PyData.depthAll (l.map fun (i : Nat) => PyData.int (i : Int)) + 1 = 1
  rw [(shp_ints l).2]
/-- the parts as data -/
def dP (ps : List Part) : List PyData := ps.map fun p => PyData.str p.text
theorem rpAll_pV {H : Hp} : ∀ ps : List Part, (∀ p ∈ ps, Ok p) → RpAll H (dP ps) (pV ps)
  | [], _ => rfl
  | p :: ps, h => ⟨.str p.text, pV ps, rfl, ⟨rfl, text_cs (h p List.mem_cons_self)⟩, rpAll_pV ps fun q hq => h q (List.mem_cons_of_mem _ hq)⟩
theorem bulk_dP : ∀ ps : List Part, (∀ p ∈ ps, Ok p) → PyData.bulkAll (dP ps) ≤ 11 * ps.length
  | [], _ => Nat.le_refl _
  | p :: ps, h => by
    have h1 := text_len (h p List.mem_cons_self)
    have h2 := bulk_dP ps fun q hq => h q (List.mem_cons_of_mem _ hq)
    show p.text.cps.size + 1 + PyData.bulkAll (dP ps) ≤ 11 * (ps.length + 1)
    have h3 : p.text.cps.size ≤ 10 := h1
    omega
theorem depth_dP : ∀ ps : List Part, PyData.depthAll (dP ps) = 0
  | [] => rfl
  | p :: ps => by
    show max 0 (PyData.depthAll (dP ps)) = 0
    rw [depth_dP ps]
    rfl
theorem text_pt {p : Part} (h : Ok p) : p.text.cps.all (· < 0x110000) = true := by
  rw [← Array.all_toList, List.all_eq_true]
  intro c hc
  cases p with
  | all =>
    have : ∀ c ∈ (Part.text .all).cps.toList, decide (c < 0x110000) = true := by decide +kernel
    exact this c hc
  | pat f b =>
    rcases (pat_facts h).cs c hc with e | e | e <;> rw [e] <;> decide
theorem canLay_dP : ∀ ps : List Part, (∀ p ∈ ps, Ok p) → PyData.canLayAll0 (dP ps) = true
  | [], _ => rfl
  | p :: ps, h => by
    show (PyData.strOk p.text && PyData.canLayAll0 (dP ps)) = true
    rw [canLay_dP ps fun q hq => h q (List.mem_cons_of_mem _ hq), Bool.and_true]
    exact text_pt (h p List.mem_cons_self)
theorem shp_list {ds : List PyData} (h : PyData.canLayAll0 ds = true) (hd : PyData.depthAll ds = 0) : SeqAt.shaped (.list ds) = true := by
  show (PyData.canLayAll0 ds && decide (PyData.depthAll ds + 1 ≤ 64)) = true
  rw [h, hd]
  rfl
theorem dpAll_pV {K : PySem.W.Frag} {H : Hp} : ∀ ps : List Part, DpAll K H (pV ps) (dP ps)
  | [] => .nil
  | p :: ps => .cons (.str _) (dpAll_pV ps)
theorem eqv_empty (ds : List PyData) : PyData.eqv (.list ds) (.list []) = ds.isEmpty := by cases ds <;> rfl
/-! ### texts of cutters -/
theorem join_len (sep : Str) : ∀ xs : List Str, (Str.join sep xs).length ≤ (xs.map fun x => x.length + sep.length).sum
  | [] => Nat.zero_le _
  | [x] => by
    show x.length ≤ x.length + sep.length + 0
    omega
  | x :: y :: r => by
    have h := join_len sep (y :: r)
    show (x ++ sep ++ Str.join sep (y :: r) : Str).length ≤ _
    rw [← str_len, app_cps, app_cps, List.length_append, List.length_append, str_len, str_len, str_len, List.map_cons, List.sum_cons]
    omega
theorem join_mem (sep : Str) : ∀ (xs : List Str) (c : Nat), c ∈ (Str.join sep xs).cps.toList → c ∈ sep.cps.toList ∨ ∃ x ∈ xs, c ∈ x.cps.toList
  | [], c, h => absurd (show c ∈ ([] : List Nat) from h) List.not_mem_nil
  | [x], c, h => .inr ⟨x, List.mem_cons_self, h⟩
  | x :: y :: r, c, h => by
    have h' : c ∈ (x ++ sep ++ Str.join sep (y :: r) : Str).cps.toList := h
    rw [app_cps, app_cps, List.mem_append, List.mem_append] at h'
    rcases h' with (h' | h') | h'
    · exact .inr ⟨x, List.mem_cons_self, h'⟩
    · exact .inl h'
    · rcases join_mem sep (y :: r) c h' with h' | ⟨z, hz, h'⟩
      · exact .inl h'
      · exact .inr ⟨z, List.mem_cons_of_mem _ hz, h'⟩
theorem cutText_cs {ps : List Part} (h : ∀ p ∈ ps, Ok p) : ∀ c ∈ (cutText ps).cps.toList, c < 16 ^ 8 := by
  intro c hc
  unfold cutText at hc
  by_cases e : ps = []
  · rw [if_pos e] at hc
    have : ∀ c ∈ (Str.ofString "all").cps.toList, c < 16 ^ 8 := by decide +kernel
    exact this c hc
  · rw [if_neg e, show Txt.join " > " (ps.map Part.text) = Str.join " > " (ps.map Part.text) from StrLaws.glued_eq_join _ _] at hc
    rcases join_mem _ _ _ hc with hc | ⟨x, hx, hc⟩
    · have : ∀ c ∈ (Str.ofString " > ").cps.toList, c < 16 ^ 8 := by decide +kernel
      exact this c hc
    · obtain ⟨p, hp, rfl⟩ := List.mem_map.mp hx
      exact text_cs (h p hp) c hc
theorem cutText_len {ps : List Part} (h : ∀ p ∈ ps, Ok p) (hl : ps.length ≤ 4) : (cutText ps).length ≤ 60 := by
  unfold cutText
  by_cases e : ps = []
  · rw [if_pos e]
    decide +kernel
  · rw [if_neg e, show Txt.join " > " (ps.map Part.text) = Str.join " > " (ps.map Part.text) from StrLaws.glued_eq_join _ _]
    refine Nat.le_trans (join_len _ _) ?_
    have e3 : (Str.ofString " > ").length = 3 := by decide +kernel
    have hb : ∀ l : List Part, (∀ p ∈ l, Ok p) → ((l.map Part.text).map fun x => x.length + 3).sum ≤ 13 * l.length := by
      intro l
      induction l with
      | nil => intro _; exact Nat.le_refl _
      | cons a l ih =>
        intro h
        have h1 := text_len (h a List.mem_cons_self)
        have h2 := ih fun p hp => h p (List.mem_cons_of_mem _ hp)
        rw [List.map_cons, List.map_cons, List.sum_cons, List.length_cons]
        omega
    have := hb ps h
    show ((ps.map Part.text).map fun x => x.length + (Str.ofString " > ").length).sum ≤ 60
    rw [e3]
    omega
theorem join_size {ps : List Part} (h : ∀ p ∈ ps, Ok p) (hl : ps.length ≤ 4) : ((ps.map Part.text).map fun x => x.length).sum + (ps.map Part.text).length * (Str.ofString " > ").length ≤ 16777216 := by
  have hb : ∀ l : List Part, (∀ p ∈ l, Ok p) → ((l.map Part.text).map fun x => x.length).sum ≤ 10 * l.length := by
    intro l
    induction l with
    | nil => intro _; exact Nat.le_refl _
    | cons a l ih =>
      intro h
      have h1 := text_len (h a List.mem_cons_self)
      have h2 := ih fun p hp => h p (List.mem_cons_of_mem _ hp)
      rw [List.map_cons, List.map_cons, List.sum_cons, List.length_cons]
      omega
  have h1 := hb ps h
  have e3 : (Str.ofString " > ").length = 3 := by decide +kernel
  rw [List.length_map, e3]
  omega
/-! ### rows of small data -/
theorem rpAll_append {H : Hp} : ∀ {ds : List PyData} {xs : List V} {es : List PyData} {ys : List V}, RpAll H ds xs → RpAll H es ys → RpAll H (ds ++ es) (xs ++ ys)
  | [], xs, es, ys, h, k => by
    have h' : xs = [] := h
    subst h'
    exact k
  | d :: ds, xs, es, ys, h, k => by
    obtain ⟨x, r, rfl, h1, h2⟩ := (show ∃ x r, xs = x :: r ∧ Rp H d x ∧ RpAll H ds r from h)
    exact ⟨x, r ++ ys, rfl, h1, rpAll_append h2 k⟩
theorem rpAll_len {H : Hp} : ∀ {ds : List PyData} {xs : List V}, RpAll H ds xs → ds.length = xs.length
  | [], xs, h => by
    have h' : xs = [] := h
    subst h'
    rfl
  | d :: ds, xs, h => by
    obtain ⟨x, r, rfl, h1, h2⟩ := (show ∃ x r, xs = x :: r ∧ Rp H d x ∧ RpAll H ds r from h)
    rw [List.length_cons, List.length_cons, rpAll_len h2]
theorem rpAll_get {H : Hp} : ∀ {ds : List PyData} {xs : List V} (i : Nat), RpAll H ds xs → (∃ d x, ds[i]? = some d ∧ xs[i]? = some x ∧ Rp H d x) ∨ (ds[i]? = none ∧ xs[i]? = none)
  | [], xs, i, h => by
    have h' : xs = [] := h
    subst h'
    exact .inr ⟨rfl, rfl⟩
  | d :: ds, xs, i, h => by
    obtain ⟨x, r, rfl, h1, h2⟩ := (show ∃ x r, xs = x :: r ∧ Rp H d x ∧ RpAll H ds r from h)
    cases i with
    | zero => exact .inl ⟨d, x, rfl, rfl, h1⟩
    | succ i => exact rpAll_get i h2
theorem rpAll_sel {H : Hp} {ds : List PyData} {xs : List V} (h : RpAll H ds xs) : ∀ l : List Nat, RpAll H (l.filterMap fun i => ds[i]?) (l.filterMap fun i => xs[i]?)
  | [] => rfl
  | i :: l => by
    rw [List.filterMap_cons, List.filterMap_cons]
    rcases rpAll_get i h with ⟨d, x, e1, e2, h1⟩ | ⟨e1, e2⟩
    · rw [e1, e2]
      exact ⟨x, _, rfl, h1, rpAll_sel h l⟩
    · rw [e1, e2]
      exact rpAll_sel h l
theorem rpAll_run {H : Hp} {ds : List PyData} {xs : List V} (ps : List Part) (h : RpAll H ds xs) : RpAll H (run ps ds) (run ps xs) := by
  rw [run_get, run_get, rpAll_len h]
  exact rpAll_sel h _
/-- small data -/
def Sm (ds : List PyData) : Prop := ∀ e ∈ ds, e.bulk ≤ 3 ∧ e.depth ≤ 1
theorem Sm.bulk : ∀ {ds : List PyData}, Sm ds → PyData.bulkAll ds ≤ 4 * ds.length
  | [], _ => Nat.le_refl _
  | d :: ds, h => by
    have h1 := (h d List.mem_cons_self).1
    have h2 := Sm.bulk fun e he => h e (List.mem_cons_of_mem _ he)
    show d.bulk + 1 + PyData.bulkAll ds ≤ 4 * (ds.length + 1)
    omega
theorem Sm.depth : ∀ {ds : List PyData}, Sm ds → PyData.depthAll ds ≤ 1
  | [], _ => Nat.zero_le _
  | d :: ds, h => by
    have h1 := (h d List.mem_cons_self).2
    have h2 := Sm.depth fun e he => h e (List.mem_cons_of_mem _ he)
    show max d.depth (PyData.depthAll ds) ≤ 1
    omega
theorem Sm.run {ds : List PyData} (h : Sm ds) (ps : List Part) : Sm (run ps ds) := fun e he => h e (run_sub ps ds e he)
/-- a row of small data, whatever the dice do -/
def RowD (d : Addr) (H : Hp) (xs : List V) (ds : List PyData) : Prop := Sm ds ∧ ∀ H', Chg d H H' → RpAll H' ds xs
theorem RowD.mono {d : Addr} {H H1 : Hp} {xs : List V} {ds : List PyData} (h : RowD d H xs ds) (c : Chg d H H1) : RowD d H1 xs ds := ⟨h.1, fun H' c' => h.2 H' (c.trans c')⟩
theorem RowD.snoc {d : Addr} {H : Hp} {xs : List V} {ds : List PyData} {x : V} {e : PyData} (h : RowD d H xs ds) (hb : e.bulk ≤ 3) (hd : e.depth ≤ 1) (k : ∀ H', Chg d H H' → Rp H' e x) : RowD d H (xs ++ [x]) (ds ++ [e]) := by
  refine ⟨fun y hy => ?_, fun H' c => rpAll_append (h.2 H' c) ⟨x, [], rfl, k H' c, rfl⟩⟩
  rcases List.mem_append.mp hy with hy | hy
  · exact h.1 y hy
  · rw [List.mem_singleton.mp hy]
    exact ⟨hb, hd⟩
/-- .. and whatever the list does in which the row is gathered -/
def Chg2 (d L : Addr) (H H' : Hp) : Prop := ∀ b o, b ≠ d → b ≠ L → H b = some o → H' b = some o
theorem Chg2.trans {d L : Addr} {H H1 H2 : Hp} (a : Chg2 d L H H1) (b : Chg2 d L H1 H2) : Chg2 d L H H2 := fun x o n m h => b x o n m (a x o n m h)
theorem Chg2.of {d L : Addr} {H H' : Hp} (c : Chg d H H') : Chg2 d L H H' := fun x o n _ h => c x o n h
theorem Chg2.upd {d L : Addr} {H H' : Hp} {o : HO} (c : Chg2 d L H H') : Chg2 d L H (L2.upd H' L o) := fun x u n m h => by
  rw [upd_ne m]
  exact c x u n m h
def RowL (d L : Addr) (H : Hp) (xs : List V) (ds : List PyData) : Prop := Sm ds ∧ ∀ H', Chg2 d L H H' → RpAll H' ds xs
theorem RowL.row {d L : Addr} {H : Hp} {xs : List V} {ds : List PyData} (h : RowL d L H xs ds) : RowD d H xs ds := ⟨h.1, fun H' c => h.2 H' (.of c)⟩
theorem RowL.mono {d L : Addr} {H H1 : Hp} {xs : List V} {ds : List PyData} (h : RowL d L H xs ds) (c : Chg2 d L H H1) : RowL d L H1 xs ds := ⟨h.1, fun H' c' => h.2 H' (c.trans c')⟩
theorem RowL.snoc {d L : Addr} {H : Hp} {xs : List V} {ds : List PyData} {x : V} {e : PyData} (h : RowL d L H xs ds) (hb : e.bulk ≤ 3) (hd : e.depth ≤ 1) (k : ∀ H', Chg2 d L H H' → Rp H' e x) : RowL d L H (xs ++ [x]) (ds ++ [e]) := by
  refine ⟨fun y hy => ?_, fun H' c => rpAll_append (h.2 H' c) ⟨x, [], rfl, k H' c, rfl⟩⟩
  rcases List.mem_append.mp hy with hy | hy
  · exact h.1 y hy
  · rw [List.mem_singleton.mp hy]
    exact ⟨hb, hd⟩
/-- the parts that are not all -/
theorem noAll (ps : List Part) : (ps.filter fun p => !decide (p = .all)).isEmpty = keepsAll ps := by
  induction ps with
  | nil => rfl
  | cons p ps ih =>
    show _ = (decide (p = .all) && keepsAll ps)
    rw [List.filter_cons]
    by_cases h : p = .all
    · rw [decide_eq_true h, Bool.true_and, ← ih]
      rfl
    · rw [decide_eq_false h, Bool.false_and]
      rfl
theorem places_zero (ps : List Part) : places ps 0 = [] := List.eq_nil_of_length_eq_zero (Nat.le_zero.mp (places_len ps 0))
theorem places_one (ps : List Part) : places ps 1 = [] ∨ places ps 1 = [0] := by
  have hl := places_len ps 1
  have hlt := fun i (h : i ∈ places ps 1) => places_lt h
  generalize places ps 1 = l at hl hlt
  match l, hl, hlt with
  | [], _, _ => exact .inl rfl
  | [i], _, hlt =>
    have := hlt i List.mem_cons_self
    have e : i = 0 := by omega
    subst e
    exact .inr rfl
  | _ :: _ :: _, hl, _ =>
    simp only [List.length_cons] at hl
    omega
end Cut

set_option Elab.async false
set_option linter.all false
set_option maxRecDepth 100000
set_option maxHeartbeats 8000000
namespace K02
open PySem PySem.Spec PyProof.Rows L2 Ly Cut

abbrev s_tells : Stmt := topS 36
abbrev N_tells : List Str := ["_law_dice_here", "_law_made", "_law_parts_here", "_law_is_whole", "_law_part_here", "_law_told", "_law_text", "_law_large", "_law_due", "_law_many", "_law_some", "_law_place", "_law_row", "_law_before"]
abbrev P_tells : List Str := ["_law_dice_here", "_law_made", "_law_parts_here"]
theorem sc_tells : FnScope N_tells P_tells (defScope s_tells) := ⟨rfl, rfl, rfl, by decide +kernel, rfl, by decide +kernel, by decide +kernel⟩

abbrev s_right : Stmt := topS 37
abbrev N_right : List Str := ["_law_dice_here", "_law_parts_here", "_law_turn", "_law_one", "_law_other"]
abbrev P_right : List Str := ["_law_dice_here"]
theorem sc_right : FnScope N_right P_right (defScope s_right) := ⟨rfl, rfl, rfl, by decide +kernel, rfl, by decide +kernel, by decide +kernel⟩

section
variable {P : Program} {w : World} {K : PySem.W.Frag} {mg : Str → Option Value} {base : Heap} {f C : Addr} {fd : FuncData}
def dTold (ps : List Part) : PyData := .list [.tuple (dP ps), .bool (keepsAll ps), .int ps.length, .str (cutText ps)]
theorem bulk_told {ps : List Part} (h : ∀ p ∈ ps, Ok p) (hl : ps.length ≤ 4) : (dTold ps).bulk ≤ 8000 := by
  have h1 := bulk_dP ps h
  have h2 : (cutText ps).cps.size ≤ 60 := cutText_len h hl
  show PyData.bulkAll (dP ps) + 1 + (0 + 1 + (0 + 1 + ((cutText ps).cps.size + 1 + 0))) ≤ 8000
  omega
theorem depth_told (ps : List Part) : (dTold ps).depth ≤ 60 := by
  show max (PyData.depthAll (dP ps) + 1) (max 0 (max 0 (max 0 0))) + 1 ≤ 60
  rw [depth_dP]
  decide
theorem rp_told {H : Hp} {ps : List Part} {t p : Addr} (h : ∀ p ∈ ps, Ok p) (hl : ps.length ≤ 4) (ns : t ≠ sysModules) (hp : H p = some (.tup (pV ps))) (ht : H t = some (.lst [.ref p, .bl (keepsAll ps), .int ps.length, .str (cutText ps)])) : Rp H (dTold ps) (.ref t) := by
  refine ⟨t, _, rfl, ns, ht, .ref p, _, rfl, ⟨p, _, rfl, hp, rpAll_pV ps h⟩, .bl _, _, rfl, rfl, .int ps.length, _, rfl, ⟨rfl, log_small ?_⟩, .str (cutText ps), _, rfl, ⟨rfl, cutText_cs h⟩, rfl⟩
  have h2 : (2000 : Nat) < 2 ^ 1900 := by decide +kernel
  rw [Int.natAbs_natCast]
  omega
def spTells (C : Addr) : Sp := fun vs H Q _ => ∃ (d x a : Addr) (ps : List Part), vs = [.ref d, .ref x, .ref a] ∧ Dice H d ∧ CutAt C H x ps ∧ H a = some (.lst (pV ps)) ∧ a ≠ d ∧ ∀ H', Chg d H H' → Dice H' d → Q (.bl true) H'
theorem ok_tells (Z : Zs mg) (D : Df K mg "_law_tells" s_tells P_tells f fd) (c : CK K C) {f1 f2 f3 f4 f5 f6 f7 f8 p3 p4 : Addr} {d1 d2 d3 d4 d6 : FuncData} (D_oneL : Cl P w K mg base "_law_one_of" 2 f1 d1 P_one_of (spOneL K))
    (D_kept : Cl P w K mg base "_law_kept" 1 f2 d2 P_kept (spLKept K)) (pr_parts : PropOf K C "parts" p3 f3) (M_parts : Cm P w K mg base 1 f3 d3 P_parts (spParts C)) (pr_keeps_all : PropOf K C "keeps_all" p4 f4) (M_keeps_all : Cm P w K mg base 1 f4 d4 P_keeps_all (spKeeps C))
    (cO : StX.CallO K C f5) (F_call : FnR P w K mg base CX0 4 f5 (spCutCall C)) (me_places : Meth K C "places" f6) (M_places : Cm P w K mg base 3 f6 d6 P_places (spCutPlaces C))
    (sp_len : Sp1 K C f7 "__len__") (F_len : FnR P w K mg base CX0 1 f7 (spCutLen C)) (sp_str : Sp1 K C f8 "__str__") (F_str : FnR P w K mg base CX0 1 f8 (spCutStr C)) : FnG P w K mg base CX0 8 f (spTells C) := by
  refine fnG_of D.F sc_tells D.b (fun vs H Q E h => ?_) (fun cdv A outer s H vs Q E hr hq h => ?_)
  · obtain ⟨d, x, a, ps, rfl, _⟩ := h
    rfl
  · obtain ⟨d, x, a, ps, rfl, hD, hc, ha, had, q⟩ := h
    have nd := sc_tells.nd
    have hu : (A.deeper (envOfC "_law_tells" (defScope s_tells) s.heap.objs.size f cdv)).units + 64 < cLine := by
      have := hr.un
      omega
    refine ⟨_,
    (pss_cons
    (ps_set (i := 3) nd rfl (Or.inl rfl) (pe_cmpR (op_eqD hu) (pe_lc (own := [("_law_part_here", 4)]) (g := gName 4) rfl nd (pi_list (pv 2)) (blkOk_by (N := N_tells) (sc := defScope s_tells) (by decide +kernel)) (fun _ _ _ _ _ => (pg_name (i := 4) nd rfl (Or.inl rfl))) (fun _ _ _ _ _ => (pts_one (pt_cmpR op_ne (pv 4) pe_str (nomark _)))) (fun _ _ _ _ _ => (pv 4))) (pe_lstN pa_nil) (nomark _)))
    (pss_cons
    (ps_set (i := 5) nd rfl (Or.inl rfl) (pe_lstN (pa_cons (pe_prop (pv 1) c.cls pr_parts M_parts.ok (hr.mono (by decide)) M_parts.b .nil pass0 rfl) (pa_cons (pe_prop (pv 1) c.cls pr_keeps_all M_keeps_all.ok (hr.mono (by decide)) M_keeps_all.b .nil pass0 rfl) (pa_cons (pe_callB (call_lenO sp_len F_len (hr.mono (by decide)) pass0) (by rfl) Z.z_len (by decide +kernel) (pa_cons (pv 1) pa_nil)) (pa_cons (pe_callTy (call_strO sp_str F_str (hr.mono (by decide)) pass0) (by rfl) Z.z_str (by decide +kernel) (pa_cons (pv 1) pa_nil)) pa_nil))))))
    (pss_cons
    (ps_set (i := 6) nd rfl (Or.inl rfl) (pe_ifExp (pt_cmpR (op_neD hu) (pv 2) (pe_lstN pa_nil) (nomark _)) (pe_join pe_str (pv 2)) pe_str))
    (pss_cons
    (ps_if (pt_cmpR op_ne (pe_callB (call_repr hq hu) (by rfl) Z.z_repr (by decide +kernel) (pa_cons (pv 5) pa_nil)) (pe_callB (call_repr hq hu) (by rfl) Z.z_repr (by decide +kernel) (pa_cons (pe_lstN (pa_cons (pe_callTy call_tuple_of (by rfl) Z.z_tuple (by decide +kernel) (pa_cons (pv 2) pa_nil)) (pa_cons (pv 3) (pa_cons (pe_callB call_lenL (by rfl) Z.z_len (by decide +kernel) (pa_cons (pv 2) pa_nil)) (pa_cons (pv 6) pa_nil))))) pa_nil)) (nomark _))
      (pss_one
      (ps_ret pe_bl))
      pss_nil)
    (pss_cons
    (ps_set (i := 7) nd rfl (Or.inl rfl) (pe_call D_oneL.ok (hr.mono (by decide)) (by rfl) D_oneL.g D_oneL.kp D_oneL.b .nil pass0 (pa_cons (pv 0) (pa_cons (pe_lstN (pa_cons pe_int (pa_cons pe_int (pa_cons pe_int (pa_cons pe_int (pa_cons pe_int pa_nil)))))) pa_nil))))
    (pss_cons
    (ps_set (i := 8) nd rfl (Or.inl rfl) (pe_call D_kept.ok (hr.mono (by decide)) (by rfl) D_kept.g D_kept.kp D_kept.b .nil pass0 (pa_cons (pv 2) (pa_cons (pe_listRg rfl (by rfl) Z.z_list (prg_1 (by rfl) Z.z_range (pv 7))) pa_nil))))
    (pss_cons
    (ps_if (PW.pt (pw_or (pt_cmpR (op_neD hu) (pe_meth (pv 1) c.cls me_places M_places.ok (hr.mono (by decide)) M_places.b .nil pass0 (pa_cons (pv 7) pa_nil)) (pv 8) (nomark _)) (pw_or1 (pt_cmpR (op_neD hu) (StX.pe_callO (pv 1) cO F_call (hr.mono (by decide)) pass0 (pa_cons (pe_tupRg rfl (by rfl) Z.z_tuple (prg_1 (by rfl) Z.z_range (pv 7))) pa_nil)) (pv 8) (nomark _)))))
      (pss_one
      (ps_ret pe_bl))
      pss_nil)
    (pss_cons
    (ps_for PassesOwn.never rfl (pi_list (pe_op op_cat (pe_listRg rfl (by rfl) Z.z_list (prg_1 (by rfl) Z.z_range pe_int)) (pe_lstN (pa_cons pe_int pa_nil)))) (pg_name (i := 9) nd rfl (Or.inl rfl))
      (pss_cons
      (ps_set (i := 8) nd rfl (Or.inl rfl) (pe_call D_kept.ok (hr.mono (by decide)) (by rfl) D_kept.g D_kept.kp D_kept.b .nil pass0 (pa_cons (pv 2) (pa_cons (pe_listRg rfl (by rfl) Z.z_list (prg_1 (by rfl) Z.z_range (pv 9))) pa_nil))))
      (pss_cons
      (ps_if (pt_cmpR op_ne (pe_callB (call_repr hq hu) (by rfl) Z.z_repr (by decide +kernel) (pa_cons (pe_meth (pv 1) c.cls me_places M_places.ok (hr.mono (by decide)) M_places.b .nil pass0 (pa_cons (pv 9) pa_nil)) pa_nil)) (pe_callB (call_repr hq hu) (by rfl) Z.z_repr (by decide +kernel) (pa_cons (pv 8) pa_nil)) (nomark _))
        (pss_one
        (ps_ret pe_bl))
        pss_nil)
      (pss_cons
      (ps_setLc (i := 10) (own := [("_law_place", 11)]) (g := gName 11) (tt := tYes) rfl nd rfl rfl (sw_true rfl rfl rfl (by decide +kernel)) (pi_range1 (by rfl) Z.z_range (pa_cons (pv 9) pa_nil)) (blkOk_by (N := N_tells) (sc := defScope s_tells) (by decide +kernel)) (fun _ _ _ _ _ => (pg_name (i := 11) nd rfl (Or.inl rfl))) (fun _ _ _ _ _ => pts_nil) (fun _ _ _ _ _ => (pe_call D_oneL.ok (hr.mono (by decide)) (by rfl) D_oneL.g D_oneL.kp D_oneL.b .nil pass0 (pa_cons (pv 0) (pa_cons (pe_lstN (pa_cons (pv 11) (pa_cons pe_non (pa_cons pe_str (pa_cons (pe_tup (pa_cons (pv 11) pa_nil)) (pa_cons (pe_lstN (pa_cons (pv 11) pa_nil)) (pa_cons pe_dnewK (pa_cons (pe_un un_neg (pv 11)) (pa_cons pe_bl pa_nil))))))))) pa_nil)))))
      (pss_cons
      (ps_set (i := 12) nd rfl (Or.inr rfl) (pe_callTy call_tuple_of (by rfl) Z.z_tuple (by decide +kernel) (pa_cons (pv 10) pa_nil)))
      (pss_cons
      (ps_set (i := 13) nd rfl (Or.inl rfl) (pe_callB (call_repr hq hu) (by rfl) Z.z_repr (by decide +kernel) (pa_cons (pv 12) pa_nil)))
      (pss_one
      (ps_if (PW.pt (pw_or (pt_cmpR op_ne (pe_callB (call_repr hq hu) (by rfl) Z.z_repr (by decide +kernel) (pa_cons (StX.pe_callO (pv 1) cO F_call (hr.mono (by decide)) pass0 (pa_cons (pv 12) pa_nil)) pa_nil)) (pe_callB (call_repr hq hu) (by rfl) Z.z_repr (by decide +kernel) (pa_cons (pe_callTy call_tuple_of (by rfl) Z.z_tuple (by decide +kernel) (pa_cons (pe_lc (own := [("_law_place", 11)]) (g := gName 11) (tt := tYes) rfl nd (pi_tup (pv 8)) (blkOk_by (N := N_tells) (sc := defScope s_tells) (by decide +kernel)) (fun _ _ _ _ _ => (pg_name (i := 11) nd rfl (Or.inl rfl))) (fun _ _ _ _ _ => pts_nil) (fun _ _ _ _ _ => (pe_ix (ixT (K := K) rfl) (pv 12) (pv 11) (fun _ _ => rfl)))) pa_nil)) pa_nil)) (nomark _)) (pw_or1 (pt_cmpR op_ne (pe_callB (call_repr hq hu) (by rfl) Z.z_repr (by decide +kernel) (pa_cons (pv 12) pa_nil)) (pv 13) (nomark _)))))
        (pss_one
        (ps_ret pe_bl))
        pss_nil))))))))
    (pss_one
    (ps_ret (pe_and (pe_cmpR op_eq (pe_callB (call_repr hq hu) (by rfl) Z.z_repr (by decide +kernel) (pa_cons (pe_meth (pv 1) c.cls me_places M_places.ok (hr.mono (by decide)) M_places.b .nil pass0 (pa_cons pe_int pa_nil)) pa_nil)) pe_str (nomark _)) (pe_one (pe_cmpR op_eq (pe_callB (call_repr hq hu) (by rfl) Z.z_repr (by decide +kernel) (pa_cons (StX.pe_callO (pv 1) cO F_call (hr.mono (by decide)) pass0 (pa_cons (pe_tup (pa_cons pe_str pa_nil)) pa_nil)) pa_nil)) (pe_callB (call_repr hq hu) (by rfl) Z.z_repr (by decide +kernel) (pa_cons (pe_ifExp (pt_cmpR (op_eqD hu) (pe_meth (pv 1) c.cls me_places M_places.ok (hr.mono (by decide)) M_places.b .nil pass0 (pa_cons pe_int pa_nil)) (pe_tup (pa_cons pe_int pa_nil)) (nomark _)) (pe_tup (pa_cons pe_str pa_nil)) (pe_tup pa_nil)) pa_nil)) (nomark _)))))))))))))), ?_⟩
    obtain ⟨dx, p, tb, ts, hx, hp, ht, hlen, hts⟩ := hc.ex
    have hok := hc.ok
    have hle := hc.le
    have zl : (pV ps).length ≤ sizeLine := by rw [pV_len]; exact sz1000 (by omega)
    -- whole
    refine asgS (fun v H1 => v = .bl (keepsAll ps) ∧ Same H H1) (fun Q' q' => ?_) (fun v H1 hv => ?_)
    · refine ⟨_, rfl, a, rfl, ⟨_, .of ha⟩, fun D9 nD => ?_⟩
      refine lc_mapL (pV ps) (fun v => if v = V.str "all" then none else some v) (.of ha) nD zl (fun i v H1 Q1 N hv s1 ky kn => ?_) (fun H1 s1 hd => ?_)
      · obtain ⟨pt, _, rfl⟩ := pV_get hv
        refine ⟨rfl, _, rfl, rfl, _, rfl, ?_⟩
        by_cases e : V.str pt.text = V.str "all"
        · refine ifF (by rw [decide_eq_true e]; rfl) (kn ?_ H1 (Same.refl H1))
          rw [if_pos e]
        · refine ifT (by rw [decide_eq_false e]; rfl) ⟨_, rfl, ky _ H1 ?_ (Same.refl H1)⟩
          rw [if_neg e]
      · have efs : ∀ l : List Part, (∀ p ∈ l, Ok p) → (pV l).filterMap (fun v => if v = V.str "all" then none else some v) = pV (l.filter fun p => !decide (p = .all)) := by
          intro l
          induction l with
          | nil => intro _; rfl
          | cons pt l ih =>
            intro h
            have ih := ih fun p hp => h p (List.mem_cons_of_mem _ hp)
            have et := text_all (h pt List.mem_cons_self)
            rw [List.filter_cons]
            show (V.str pt.text :: pV l).filterMap _ = _
            rw [List.filterMap_cons]
            by_cases e : pt = .all
            · subst e
              rw [if_pos (show V.str Part.all.text = V.str "all" from rfl), decide_eq_true rfl]
              exact ih
            · have en : ¬ V.str pt.text = V.str "all" := fun z => by
                rw [V.str.inj z, decide_eq_true rfl, decide_eq_false e] at et
                cases et
              rw [if_neg en, decide_eq_false e]
              show V.str pt.text :: _ = V.str pt.text :: _
              rw [ih]
              rfl
        rw [efs ps hok] at hd
        refine ⟨by show 0 ≤ sizeLine; decide, fun l nl _ => ?_⟩
        have s2 := same_new (o := .lst []) nl
        refine ⟨.list (dP (ps.filter fun p => !decide (p = .all))), .list [], .lst (.of (s2 _ _ hd)) (dpAll_pV _), .lst (.of upd_same) .nil, shp_list (canLay_dP _ fun p hp => hok p (List.mem_filter.mp hp).1) (depth_dP _), by decide +kernel, ?_⟩
        rw [eqv_empty]
        have e1 : (dP (ps.filter fun p => !decide (p = .all))).isEmpty = keepsAll ps := by
          rw [← noAll ps]
          unfold dP
          exact List.isEmpty_map
        rw [e1]
        exact q' _ _ ⟨rfl, s1.trans s2⟩
    obtain ⟨rfl, s1⟩ := hv
    -- told
    refine asgS (fun v H2 => Same H1 H2 ∧ ∃ t, v = .ref t ∧ Rp H2 (dTold ps) (.ref t)) (fun Q' q' => ?_) (fun v H2 hv => ?_)
    · have hc1 := hc.same s1
      refine ⟨_, rfl, x, dx, _, rfl, s1 _ _ hx, x, ps, rfl, hc1, fun p' hp' => ?_⟩
      refine ⟨_, rfl, x, dx, _, rfl, s1 _ _ hx, x, ps, rfl, hc1, fun H2 s2 => ?_⟩
      refine ⟨_, rfl, x, dx, _, rfl, (s1.trans s2) _ _ hx, x, ps, rfl, hc1.same s2, ps.length, rfl, Nat.lt_of_le_of_lt hle (by decide), ?_⟩
      refine ⟨_, rfl, x, dx, _, rfl, (s1.trans s2) _ _ hx, x, ps, rfl, hc1.same s2, fun H3 s3 => ⟨cutText ps, rfl, by show 4 ≤ sizeLine; decide, fun t nt ns => ?_⟩⟩
      exact q' _ _ ⟨(s2.trans s3).trans (same_new nt), t, rfl, rp_told hok hle ns (same_new nt _ _ (s3 _ _ (s2 _ _ hp'))) upd_same⟩
    obtain ⟨s2, t, rfl, rt⟩ := hv
    -- text
    refine asgS (fun v H3 => v = .str (cutText ps) ∧ Same H2 H3) (fun Q' q' => ?_) (fun v H3 hv => ?_)
    · have ha2 := (s1.trans s2) _ _ ha
      refine ⟨_, rfl, by show 0 ≤ sizeLine; decide, fun l nl _ => ?_⟩
      have s3 := same_new (o := .lst []) nl
      refine ⟨.list (dP ps), .list [], .lst (.of (s3 _ _ ha2)) (dpAll_pV _), .lst (.of upd_same) .nil, shp_list (canLay_dP _ hok) (depth_dP _), by decide +kernel, _, rfl, ?_⟩
      rw [eqv_empty]
      by_cases e : ps = []
      · subst e
        refine ifF rfl (q' _ _ ⟨?_, s3⟩)
        unfold cutText
        rw [if_pos rfl]
      · refine ifT ?_ ⟨⟨_, rfl⟩, _, rfl, _, a, ps.map Part.text, rfl, rfl, .inl (.of ((s3 _ _ ha2).trans ?_)), join_size hok hle, q' _ _ ⟨?_, s3⟩⟩
        · cases ps with
          | nil => exact absurd rfl e
          | cons _ _ => rfl
        · unfold pV
          rw [List.map_map]
          rfl
        · unfold cutText
          rw [if_neg e]
    obtain ⟨rfl, s3⟩ := hv
    have s03 := (s1.trans s2).trans s3
    have ha3 := s03 _ _ ha
    -- repr
    refine ⟨_, rfl, _, dTold ps, rfl, rt.keep s3, bulk_told hok hle, depth_told ps, ?_⟩
    refine ⟨_, rfl, a, _, rfl, .inl ⟨.of ha3, fun t2 nt2 => ?_⟩⟩
    have s4 := same_new (o := .tup (pV ps)) nt2
    refine ⟨_, rfl, _, rfl, a, _, rfl, .of (s4 _ _ ha3), _, rfl, by show 4 ≤ sizeLine; decide, fun l nl ns => ?_⟩
    have s5 := same_new (o := .lst [V.ref t2, .bl (keepsAll ps), .int (pV ps).length, .str (cutText ps)]) nl
    refine ⟨_, dTold ps, rfl, rp_told hok hle ns (s5 _ _ upd_same) (by rw [upd_same, pV_len]), bulk_told hok hle, depth_told ps, rfl, _, rfl, ifF ?_ ?_⟩
    · rw [decide_eq_true rfl]
      rfl
    have s05 := (s03.trans s4).trans s5
    generalize upd (upd H3 t2 (HO.tup (pV ps))) l _ = H5 at s05 ⊢
    clear s5 s4 s03 ha3 rt
    have c5 := hc.same s05
    have ha5 := s05 _ _ ha
    have D5 := hD.keep s05
    dsimp only [tNext]
    -- large
    refine asgS (fun v H6 => ∃ n : Nat, v = .int n ∧ n ≤ 1000 ∧ Chg d H5 H6 ∧ Dice H6 d) (fun Q' q' => ?_) (fun v H6 hv => ?_)
    · refine ⟨_, rfl, by show 5 ≤ sizeLine; decide, fun p2 np2 _ => ?_⟩
      refine ⟨d, p2, _, rfl, D5.new np2, (dice_ne D5 np2).symm, .of upd_same, by show 0 < 5; decide, by show 5 < 1000; decide, fun H6 y c6 D6 mem => ?_⟩
      have hn : ∃ n : Nat, y = .int n ∧ n ≤ 1000 := by
        simp only [List.mem_cons, List.not_mem_nil, or_false] at mem
        rcases mem with h | h | h | h | h
        · exact ⟨20, h, by decide⟩
        · exact ⟨41, h, by decide⟩
        · exact ⟨300, h, by decide⟩
        · exact ⟨999, h, by decide⟩
        · exact ⟨1000, h, by decide⟩
      obtain ⟨n, e, hn⟩ := hn
      exact q' _ _ ⟨n, e, hn, (Chg.of (same_new np2)).trans c6, D6⟩
    obtain ⟨n, rfl, hn, c6, D6⟩ := hv
    have ha6 := c6 _ _ had ha5
    obtain ⟨_, _, _, hd5, _⟩ := D5
    have cut6 := c5.chg c6 hd5
    -- due
    refine asgS (fun v H7 => ∃ r, v = .ref r ∧ Same H6 H7 ∧ H7 r = some (.tup (iV (places ps n)))) (fun Q' q' => ?_) (fun v H7 hv => ?_)
    · refine ⟨_, rfl, _, rfl, n, rfl, .of_le (by decide) (by omega) (by decide) (by omega), fun p2 np2 => ?_⟩
      rw [rgV_iV]
      have s6 := same_new (o := .lst (iV (List.range n))) np2
      refine ⟨a, p2, ps, iV (List.range n), rfl, s6 _ _ ha6, upd_same, hok, by rw [iV_len, List.length_range]; exact hn, fun H7 r s7 nr hr => q' _ _ ⟨r, rfl, s6.trans s7, ?_⟩⟩
      rw [hr]
      unfold iV
      rw [run_map]
      rfl
    obtain ⟨r, rfl, s7, hr7⟩ := hv
    have cut7 := cut6.same s7
    have ha7 := s7 _ _ ha6
    have D7 := D6.keep s7
    have c7 : Chg d H H7 := ((Chg.of s05).trans c6).trans (.of s7)
    -- places, call
    obtain ⟨dx7, _, _, _, hx7, _⟩ := cut7.ex
    refine ⟨_, rfl, x, dx7, _, rfl, hx7, rfl, _, rfl, x, ps, n, rfl, cut7, hn, fun H8 r1 s8 hr8 => ?_⟩
    refine ⟨_, rfl, dI (places ps n), dI (places ps n), dp_iV hr8, dp_iV (s8 _ _ hr7), shp_dI _, shp_dI _, _, rfl, ifF (by rw [eqv_dI, decide_eq_true rfl]; rfl) ?_⟩
    have cut8 := cut7.same s8
    obtain ⟨dx8, _, _, _, hx8, _⟩ := cut8.ex
    refine ⟨_, rfl, x, rfl, _, rfl, n, rfl, .of_le (by decide) (by omega) (by decide) (by omega), fun p2 np2 => ?_⟩
    rw [rgV_iV]
    have s9 := same_new (o := .tup (iV (List.range n))) np2
    refine ⟨.inr ⟨dx8, _, s9 _ _ hx8⟩, x, p2, ps, iV (List.range n), rfl, cut8.same s9, upd_same, by rw [iV_len, List.length_range]; exact hn, fun H9 r2 s10 nr2 hr9 => ?_⟩
    have er : run ps (iV (List.range n)) = iV (places ps n) := by
      unfold iV
      rw [run_map]
      rfl
    rw [er] at hr9
    have s79 := (s8.trans s9).trans s10
    refine ⟨_, rfl, dI (places ps n), dI (places ps n), dp_iV hr9, dp_iV (s79 _ _ hr7), shp_dI _, shp_dI _, _, rfl, ifF (by rw [eqv_dI, decide_eq_true rfl]; rfl) ?_⟩
    have c9 : Chg d H H9 := c7.trans (.of s79)
    have D9 := D7.keep s79
    clear s79 s10 hr9 er s9 s8 hr8 hr7 ha7 ha6 s7 c6 s05 c5 ha5
    dsimp only [tNext]
    -- the loop
    refine ⟨(10 : Nat), rfl, .of_le (by decide) (by decide) (by decide) (by decide), fun q1 nq1 => ⟨by show 1 ≤ sizeLine; decide, fun q2 nq2 _ => ?_⟩⟩
    have t1 := same_new (o := .lst (rgV 0 ((10 : Nat) : Int))) nq1
    have t2 := same_new (o := .lst [V.int 12]) nq2
    refine ⟨q1, q2, _, _, rfl, rfl, t2 _ _ upd_same, upd_same, by rw [rgV_iV, iV_len]; decide, fun q3 nq3 => ?_⟩
    rw [rgV_iV]
    have t3 := same_new (o := .lst (iV (List.range 10) ++ [V.int 12])) nq3
    have t03 := (t1.trans t2).trans t3
    have c10 := c9.trans (.of t03)
    have D10 := D9.keep t03
    have q3d : q3 ≠ d := (dice_ne ((D9.keep t1).keep t2) nq3).symm
    refine ⟨q3, rfl, ⟨_, .of upd_same⟩, ?_⟩
    have hq3 : (upd (upd (upd H9 q1 (.lst (rgV 0 ((10 : Nat) : Int)))) q2 (.lst [V.int 12])) q3 (.lst (iV (List.range 10) ++ [V.int 12]))) q3 = some (.lst (iV (List.range 10) ++ [V.int 12])) := upd_same
    rw [rgV_iV] at *
    generalize upd (upd (upd H9 q1 (.lst (iV (List.range 10)))) q2 (.lst [V.int 12])) q3 (.lst (iV (List.range 10) ++ [V.int 12])) = H10 at hq3 c10 D10 ⊢
    refine for_list (xs := iV (List.range 10) ++ [V.int 12]) (fun i σ' H' => Chg d H10 H' ∧ Dice H' d ∧ ∃ (y8 y9 y10 y12 y13 : Option V), σ' = [some (.ref d), some (.ref x), some (.ref a), some (.bl (keepsAll ps)), none, some (.ref t), some (.str (cutText ps)), some (.int n), y8, y9, y10, none, y12, y13])
      ⟨Chg.refl d H10, D10, _, _, _, _, _, rfl⟩ (fun i σ' H' _ hP => .of (hP.1 _ _ q3d hq3)) (fun i y σ' H1 hy hP => ?_) (fun σ' H1 hP => ?_)
    · obtain ⟨c1, D1, y8, y9, y10, y12, y13, rfl⟩ := hP
      obtain ⟨m, hm, rfl⟩ : ∃ m : Nat, m ≤ 12 ∧ y = .int m := by
        rcases List.mem_append.mp (List.mem_of_getElem? hy) with h | h
        · obtain ⟨m, hm, e⟩ := List.mem_map.mp h
          have := List.mem_range.mp hm
          exact ⟨m, by omega, e.symm⟩
        · exact ⟨12, by decide, List.mem_singleton.mp h⟩
      have c11 := c10.trans c1
      have cut1 := hc.chg c11 hD.choose_spec.choose_spec.choose_spec.1
      have ha1 := c11 _ _ had ha
      -- due
      refine asgS (fun v H2 => ∃ r, v = .ref r ∧ Same H1 H2 ∧ H2 r = some (.tup (iV (places ps m)))) (fun Q' q' => ?_) (fun v H2 hv => ?_)
      · refine ⟨_, rfl, _, rfl, m, rfl, .of_le (by decide) (by omega) (by decide) (by omega), fun p2 np2 => ?_⟩
        rw [rgV_iV]
        have s6 := same_new (o := .lst (iV (List.range m))) np2
        refine ⟨a, p2, ps, iV (List.range m), rfl, s6 _ _ ha1, upd_same, hok, by rw [iV_len, List.length_range]; omega, fun H7 r s7 nr hr => q' _ _ ⟨r, rfl, s6.trans s7, ?_⟩⟩
        rw [hr]
        unfold iV
        rw [run_map]
        rfl
      obtain ⟨r, rfl, u2, hr2⟩ := hv
      have cut2 := cut1.same u2
      have D2 := D1.keep u2
      obtain ⟨dx2, _, _, _, hx2, _⟩ := cut2.ex
      have bnd : ∀ k ∈ places ps m, k ≤ 2000 := fun k hk => by
        have := places_lt hk
        omega
      have bk : (dI (places ps m)).bulk ≤ 8000 := by
        rw [bulk_dI]
        have := places_len ps m
        omega
      have dp : (dI (places ps m)).depth ≤ 60 := by rw [depth_dI]; decide
      refine ⟨_, rfl, x, dx2, _, rfl, hx2, rfl, _, rfl, x, ps, m, rfl, cut2, by omega, fun H3 r1 u3 hr1 => ?_⟩
      have hr3 := u3 _ _ hr2
      refine ⟨_, dI (places ps m), rfl, rp_iV hr1 bnd, bk, dp, _, rfl, _, dI (places ps m), rfl, rp_iV hr3 bnd, bk, dp, rfl, _, rfl, ifF (by rw [decide_eq_true rfl]; rfl) ?_⟩
      dsimp only [tNext]
      have D3 := D2.keep u3
      have cut3 := cut2.same u3
      -- some
      refine asgS (fun v H4 => ∃ q4 xs ds, v = .ref q4 ∧ Chg d H3 H4 ∧ Dice H4 d ∧ q4 ≠ d ∧ H4 q4 = some (.lst xs) ∧ xs.length = m ∧ RowD d H4 xs ds) (fun Q' q' => ?_) (fun v H4 hv => ?_)
      · refine ⟨_, rfl, m, rfl, by omega, by omega, fun L nL => ?_⟩
        have nLd := dice_ne D3 nL
        refine lc_range (lo := 0) (n := (m : Int).toNat) (fun j H4 => Chg d H3 H4 ∧ Dice H4 d ∧ ∃ xs ds, H4 L = some (.lst xs) ∧ xs.length = j ∧ RowL d L H4 xs ds)
          ⟨Chg.of (same_new nL), D3.new nL, [], [], upd_same, rfl, ⟨fun _ h => (by cases h), fun _ _ => rfl⟩⟩ (fun j H4 hj hP => ?_) (fun H4 hP => ?_)
        · obtain ⟨c4, D4, xs, ds, hL, hlx, hrow⟩ := hP
          rw [show (0 : Int) + (j : Int) = (j : Int) from Int.zero_add _]
          refine ⟨rfl, _, rfl, _, rfl, _, rfl, by show 1 ≤ sizeLine; decide, fun k1 nk1 => ⟨_, rfl, by show 1 ≤ sizeLine; decide, fun k2 nk2 ns2 k3 nk3 => ⟨_, rfl, _, rfl, by show 8 ≤ sizeLine; decide, fun k4 nk4 _ => ?_⟩⟩⟩
          have v1 := same_new (o := .tup [V.int (j : Int)]) nk1
          have v2 := same_new (o := .lst [V.int (j : Int)]) nk2
          have v3 := same_new (o := .dK []) nk3
          have v4 := same_new (o := .lst [V.int (j : Int), V.non, .str "a", .ref k1, .ref k2, .ref k3, .int (-(j : Int)), .bl true]) nk4
          have f1 := ((v2.trans v3).trans v4) _ _ upd_same
          have f2 := (v3.trans v4) _ _ upd_same
          have f3 := v4 _ _ upd_same
          have g1 : k1 ≠ d := (dice_ne D4 nk1).symm
          have g2 : k2 ≠ d := (dice_ne (D4.keep v1) nk2).symm
          have g3 : k3 ≠ d := (dice_ne (D4.keep (v1.trans v2)) nk3).symm
          have m1 : k1 ≠ L := fun e => by rw [e, hL] at nk1; cases nk1
          have m2 : k2 ≠ L := fun e => by rw [e, v1 _ _ hL] at nk2; cases nk2
          have m3 : k3 ≠ L := fun e => by rw [e, (v1.trans v2) _ _ hL] at nk3; cases nk3
          have D4' := D4.keep (((v1.trans v2).trans v3).trans v4)
          refine ⟨d, k4, _, rfl, D4', (dice_ne (D4.keep ((v1.trans v2).trans v3)) nk4).symm, .of upd_same, by show 0 < 8; decide, by show 8 < 1000; decide, fun H5 y c5 D5 mem => ?_⟩
          have v14 := ((v1.trans v2).trans v3).trans v4
          have lj : (j : Int).natAbs.log2 < 1920 := log_small (by
            have h2 : (2000 : Nat) < 2 ^ 1900 := by decide +kernel
            rw [Int.natAbs_natCast]
            omega)
          have ljn : (-(j : Int)).natAbs.log2 < 1920 := by rw [Int.natAbs_neg]; exact lj
          obtain ⟨e, e1, e2, e3⟩ : ∃ e : PyData, e.bulk ≤ 3 ∧ e.depth ≤ 1 ∧ ∀ H', Chg2 d L H5 H' → Rp H' e y := by
            simp only [List.mem_cons, List.not_mem_nil, or_false] at mem
            rcases mem with h | h | h | h | h | h | h | h <;> subst h
            · exact ⟨.int j, Nat.zero_le _, Nat.zero_le _, fun _ _ => ⟨rfl, lj⟩⟩
            · exact ⟨.none, by decide, by decide, fun _ _ => rfl⟩
            · exact ⟨.str "a", by decide, by decide, fun _ _ => ⟨rfl, by decide +kernel⟩⟩
            · exact ⟨.tuple [.int j], Nat.le_of_ble_eq_true rfl, Nat.le_of_ble_eq_true rfl, fun H' c => ⟨k1, _, rfl, c _ _ g1 m1 (c5 _ _ g1 f1), _, [], rfl, ⟨rfl, lj⟩, rfl⟩⟩
            · exact ⟨.list [.int j], Nat.le_of_ble_eq_true rfl, Nat.le_of_ble_eq_true rfl, fun H' c => ⟨k2, _, rfl, ns2, c _ _ g2 m2 (c5 _ _ g2 f2), _, [], rfl, ⟨rfl, lj⟩, rfl⟩⟩
            · exact ⟨.dict [], by decide, by decide, fun H' c => ⟨k3, rfl, c _ _ g3 m3 (c5 _ _ g3 f3)⟩⟩
            · exact ⟨.int (-j), Nat.le_of_ble_eq_true rfl, Nat.le_of_ble_eq_true rfl, fun _ _ => ⟨rfl, ljn⟩⟩
            · exact ⟨.bool true, by decide, by decide, fun _ _ => rfl⟩
          have hL5 := c5 _ _ nLd.symm (v14 _ _ hL)
          refine ⟨xs, hL5, by rw [hlx]; exact small1000 (by omega), ?_⟩
          have c45 : Chg d H4 H5 := (Chg.of v14).trans c5
          refine ⟨fun b o nb eb => ?_, ?_, xs ++ [y], ds ++ [e], upd_same, by rw [List.length_append, hlx]; rfl, ?_⟩
          · rw [upd_ne (ne_of_none eb nL)]
            exact (c4.trans c45) b o nb eb
          · obtain ⟨z1, z2, z3, ed, B⟩ := D5
            exact ⟨z1, z2, z3, by rw [upd_ne nLd]; exact ed, B⟩
          · have cc : Chg2 d L H5 (upd H5 L (.lst (xs ++ [y]))) := Chg2.upd (fun _ _ _ _ h => h)
            exact RowL.snoc (hrow.mono ((Chg2.of c45).trans cc)) e1 e2 fun H' c' => e3 H' (cc.trans c')
        · obtain ⟨c4, D4, xs, ds, hL, hlx, hrow⟩ := hP
          exact q' _ _ ⟨L, xs, ds, rfl, c4, D4, nLd.symm, hL, by omega, hrow.row⟩
      obtain ⟨q4, xs, ds, rfl, c4, D4, q4d, hq4, hlx, hrow⟩ := hv
      have hr4 := c4 _ _ (fun e => by rw [e] at hr3; obtain ⟨_, _, _, hd3, _⟩ := D3; rw [hd3] at hr3; cases hr3) hr3
      obtain ⟨_, _, _, hdd3, _⟩ := id D3
      have cut4 := cut3.chg c4 hdd3
      -- row
      refine ⟨_, rfl, q4, xs, rfl, .inl ⟨.of hq4, fun w4 nw4 => ?_⟩⟩
      have u5 := same_new (o := .tup xs) nw4
      have hw5 : (upd H4 w4 (.tup xs)) w4 = some (.tup xs) := upd_same
      have hrow5 := hrow.mono (.of u5)
      have D5' := D4.keep u5
      have cut5 := cut4.same u5
      have hr5 := u5 _ _ hr4
      generalize upd H4 w4 (.tup xs) = H5' at u5 hw5 hrow5 D5' cut5 hr5 ⊢
      have hds : ds.length = m := by rw [rpAll_len (hrow5.2 H5' (Chg.refl d H5')), hlx]
      have rp5 : Rp H5' (.tuple ds) (.ref w4) := ⟨w4, xs, rfl, hw5, hrow5.2 _ (Chg.refl _ _)⟩
      have bk5 : (PyData.tuple ds).bulk ≤ 8000 := by
        have := Sm.bulk hrow5.1
        show PyData.bulkAll ds ≤ 8000
        omega
      have dp5 : (PyData.tuple ds).depth ≤ 60 := by
        have := Sm.depth hrow5.1
        show PyData.depthAll ds + 1 ≤ 60
        omega
      have bk6 : (PyData.tuple (run ps ds)).bulk ≤ 8000 := by
        have h1 := Sm.bulk (hrow5.1.run ps)
        have h2 := run_len ps ds
        show PyData.bulkAll (run ps ds) ≤ 8000
        omega
      have dp6 : (PyData.tuple (run ps ds)).depth ≤ 60 := by
        have := Sm.depth (hrow5.1.run ps)
        show PyData.depthAll (run ps ds) + 1 ≤ 60
        omega
      -- before
      refine ⟨_, rfl, _, .tuple ds, rfl, rp5, bk5, dp5, ?_⟩
      subst hlx
      obtain ⟨dx5, _, _, _, hx5, _⟩ := cut5.ex
      refine ⟨_, rfl, x, rfl, _, rfl, .inr ⟨dx5, _, hx5⟩, x, w4, ps, xs, rfl, cut5, hw5, by omega, fun H6 r2 u6 nr2 hr6 => ?_⟩
      have hrow6 := hrow5.mono (.of u6)
      refine ⟨_, .tuple (run ps ds), rfl, ⟨r2, _, rfl, hr6, rpAll_run ps (hrow6.2 _ (Chg.refl _ _))⟩, bk6, dp6, ?_⟩
      have hr6' := u6 _ _ hr5
      have hw6 := u6 _ _ hw5
      refine ⟨_, rfl, r, rfl, ⟨_, .of hr6'⟩, fun L nL => ?_⟩
      refine lc_mapT (iV (places ps xs.length)) (atV xs) (.of hr6') nL (by rw [iV_len]; exact Nat.le_of_lt (small1000 (Nat.le_trans (places_len ps xs.length) (by omega)))) (fun i v H7' Q1 N hv u7 k => ?_) (fun H7' u7 hd => ?_)
      · obtain ⟨mm, hmm, rfl⟩ := iV_getI hv
        have hml : mm < xs.length := places_lt (List.mem_of_getElem? hmm)
        have k' := k H7' (Same.refl H7')
        have e : atV xs (.int (mm : Int)) = xs[mm] := by
          show xs.getD (mm : Int).toNat .non = _
          rw [Int.toNat_natCast, List.getD_eq_getElem?_getD, List.getElem?_eq_getElem hml]
          rfl
        rw [e] at k'
        exact ⟨rfl, _, rfl, _, rfl, w4, xs, (mm : Int), xs[mm], rfl, rfl, .of (u7 _ _ hw6), atI_nat (List.getElem?_eq_getElem hml), k'⟩
      · rw [map_atV] at hd
        refine ⟨L, _, rfl, .inl ⟨.of hd, fun r3 nr3 => ?_⟩⟩
        have u8 := same_new (o := .tup (run ps xs)) nr3
        have hrow8 := hrow6.mono (.of (u7.trans u8))
        refine ⟨_, .tuple (run ps ds), rfl, ⟨r3, _, rfl, upd_same, rpAll_run ps (hrow8.2 _ (Chg.refl _ _))⟩, bk6, dp6, rfl, _, rfl, ifF (by rw [decide_eq_true rfl]; rfl) ?_⟩
        refine ⟨_, rfl, _, .tuple ds, rfl, ⟨w4, xs, rfl, (u7.trans u8) _ _ hw6, hrow8.2 _ (Chg.refl _ _)⟩, bk5, dp5, _, rfl, rfl, _, rfl, ifF (by rw [decide_eq_true rfl]; rfl) ?_⟩
        have u58 := (u6.trans u7).trans u8
        exact ⟨c1.trans (((Chg.of (u2.trans u3)).trans c4).trans (.of (u5.trans u58))), D5'.keep u58, _, _, _, _, _, rfl⟩
    · obtain ⟨c1, D1, y8, y9, y10, y12, y13, rfl⟩ := hP
      have c11 := c10.trans c1
      have cut1 := hc.chg c11 hD.choose_spec.choose_spec.choose_spec.1
      obtain ⟨dx1, _, _, _, hx1, _⟩ := cut1.ex
      have bnd : ∀ m : Nat, m ≤ 1 → ∀ k ∈ places ps m, k ≤ 2000 := fun m hm k hk => by
        have := places_lt hk
        omega
      refine ⟨_, rfl, x, dx1, _, rfl, hx1, rfl, x, ps, 0, rfl, cut1, Nat.zero_le _, fun H2 r1 s2 hr1 => ?_⟩
      refine ⟨_, dI (places ps 0), rfl, rp_iV hr1 (bnd 0 (by decide)), by rw [bulk_dI, places_zero]; decide, by rw [depth_dI]; decide, rfl, true, ?_, ?_⟩
      · rw [places_zero]
        exact congrArg V.bl (by decide +kernel)
      have cut2 := cut1.same s2
      obtain ⟨dx2, _, _, _, hx2, _⟩ := cut2.ex
      refine ⟨_, rfl, x, rfl, by show 1 ≤ sizeLine; decide, fun p2 np2 => ?_⟩
      have s3 := same_new (o := .tup [V.str "x"]) np2
      refine ⟨.inr ⟨dx2, _, s3 _ _ hx2⟩, x, p2, ps, [.str "x"], rfl, cut2.same s3, upd_same, by show 1 ≤ 1000; decide, fun H3 r2 s4 nr2 hr2 => ?_⟩
      have cut3 := (cut2.same s3).same s4
      obtain ⟨dx3, _, _, _, hx3, _⟩ := cut3.ex
      have csx : ∀ c ∈ (Str.ofString "x").cps.toList, c < 16 ^ 8 := by decide +kernel
      have erun : run ps [V.str "x"] = (places ps 1).filterMap fun i => [V.str "x"][i]? := run_get ps [V.str "x"]
      have fin : ∀ H', Same H3 H' → Q (.bl true) H' := fun H' s5 => q H' (c11.trans (.of (((s2.trans s3).trans s4).trans s5))) (D1.keep (((s2.trans s3).trans s4).trans s5))
      rcases places_one ps with e1 | e1
      · rw [erun, e1] at hr2
        refine ⟨_, .tuple [], rfl, ⟨r2, [], rfl, hr2, rfl⟩, by decide, by decide, ?_⟩
        refine ⟨_, rfl, x, dx3, _, rfl, hx3, rfl, x, ps, 1, rfl, cut3, by decide, fun H4 r4 s5 hr4 => ?_⟩
        refine ⟨by show 1 ≤ sizeLine; decide, fun p5 np5 => ?_⟩
        have s6 := same_new (o := .tup [V.int 0]) np5
        have d0 : Dp K (upd H4 p5 (.tup [V.int 0])) (.ref p5) (dI [0]) := dp_iV (l := [0]) upd_same
        refine ⟨dI (places ps 1), dI [0], dp_iV (s6 _ _ hr4), d0, shp_dI _, shp_dI _, _, rfl, ifF (by rw [eqv_dI, e1]; decide) ?_⟩
        refine ⟨by show 0 ≤ sizeLine; decide, fun p6 np6 => ?_⟩
        refine ⟨_, .tuple [], rfl, ⟨p6, [], rfl, upd_same, rfl⟩, by decide, by decide, rfl, ?_⟩
        rw [decide_eq_true rfl]
        exact fin _ ((s5.trans s6).trans (same_new np6))
      · rw [erun, e1] at hr2
        refine ⟨_, .tuple [.str "x"], rfl, ⟨r2, [.str "x"], rfl, hr2, _, [], rfl, ⟨rfl, csx⟩, rfl⟩, by decide +kernel, by decide +kernel, ?_⟩
        refine ⟨_, rfl, x, dx3, _, rfl, hx3, rfl, x, ps, 1, rfl, cut3, by decide, fun H4 r4 s5 hr4 => ?_⟩
        refine ⟨by show 1 ≤ sizeLine; decide, fun p5 np5 => ?_⟩
        have s6 := same_new (o := .tup [V.int 0]) np5
        have d0 : Dp K (upd H4 p5 (.tup [V.int 0])) (.ref p5) (dI [0]) := dp_iV (l := [0]) upd_same
        refine ⟨dI (places ps 1), dI [0], dp_iV (s6 _ _ hr4), d0, shp_dI _, shp_dI _, _, rfl, ifT (by rw [eqv_dI, e1]; decide) ?_⟩
        refine ⟨by show 1 ≤ sizeLine; decide, fun p6 np6 => ?_⟩
        refine ⟨_, .tuple [.str "x"], rfl, ⟨p6, [.str "x"], rfl, upd_same, _, [], rfl, ⟨rfl, csx⟩, rfl⟩, by decide +kernel, by decide +kernel, rfl, ?_⟩
        rw [decide_eq_true rfl]
        exact fin _ ((s5.trans s6).trans (same_new np6))

end
end K02
set_option Elab.async false
set_option linter.all false
set_option maxRecDepth 100000
set_option maxHeartbeats 8000000
namespace K02
open PySem PySem.Spec PyProof.Rows L2 Ly Cut

abbrev s_law : Stmt := topS 38
abbrev N_law : List Str := ["_law_script", "_law_at", "_law_dice_here", "_law_turn", "_law_cutter", "_law_told"]
abbrev P_law : List Str := ["_law_script"]
theorem sc_law : FnScope N_law P_law (defScope s_law) := ⟨rfl, rfl, rfl, by decide +kernel, rfl, by decide +kernel, by decide +kernel⟩

section
variable {P : Program} {w : World} {K : PySem.W.Frag} {mg : Str → Option Value} {base : Heap} {f C : Addr} {fd : FuncData}
/-- a def of the module, called where no repr is under way -/
structure Cg (P : Program) (w : World) (K : PySem.W.Frag) (mg : Str → Option Value) (base : Heap) (x : Str) (k : Nat) (f : Addr) (sp : Sp) : Prop where
  ok : FnG P w K mg base CX0 k f sp
  g : mg x = some (.ref f)
  kp : PySem.W.keepIn K (.ref f) = true
def spRight : Sp := fun vs H Q _ => ∃ d, vs = [.ref d] ∧ Dice H d ∧ ∀ H', Chg d H H' → Dice H' d → Q (.bl true) H'
theorem alike_refl (ps : List Part) : alike ps ps = true := by
  unfold alike
  rw [List.all_eq_true]
  exact fun i _ => decide_eq_true rfl
theorem ok_right (Z : Zs mg) (D : Df K mg "_law_right" s_right P_right f fd) (c : CK K C) (hC : mg "Cutter" = some (.ref C)) {f1 f2 f3 f4 f5 f6 f7 pm : Addr} {mc : Value} {d1 d2 d3 d4 : FuncData} (D_roll : Cl P w K mg base "_law_roll" 1 f1 d1 P_roll spRoll)
    (D_part : Cl P w K mg base "_law_part" 4 f2 d2 P_part spPart) (D_parts : Cl P w K mg base "_law_parts" 5 f3 d3 P_lparts spLParts) (D_called : Cl P w K mg base "_law_called" 7 f4 d4 P_called (spCalled C))
    (D_tells : Cg P w K mg base "_law_tells" 8 f5 (spTells C)) (cr : ClX.CRead K C mc) (cm : ClX.CMet K C mc "of" pm f6) (F_of : FnR P w K mg base CX0 7 f6 (spCutOf C)) (sp_eq : Sp1 K C f7 "__eq__") (F_eq : FnR P w K mg base CX0 1 f7 (spCutEq C)) (ne : NeO K C) : FnG P w K mg base CX0 9 f spRight := by
  refine fnG_of D.F sc_right D.b (fun vs H Q E h => ?_) (fun cdv A outer s H vs Q E hr hq h => ?_)
  · obtain ⟨d, rfl, _⟩ := h
    rfl
  · obtain ⟨d, rfl, hD, q⟩ := h
    have nd := sc_right.nd
    have hu : (A.deeper (envOfC "_law_right" (defScope s_right) s.heap.objs.size f cdv)).units + 64 < cLine := by
      have := hr.un
      omega
    refine ⟨_,
    (pss_cons
    (ps_set (i := 1) nd rfl (Or.inl rfl) (pe_call D_parts.ok (hr.mono (by decide)) (by rfl) D_parts.g D_parts.kp D_parts.b .nil pass0 (pa_cons (pv 0) (pa_cons pe_int pa_nil))))
    (pss_cons
    (ps_if (pt_cmpR op_eq (pe_call D_roll.ok (hr.mono (by decide)) (by rfl) D_roll.g D_roll.kp D_roll.b .nil pass0 (pa_cons (pv 0) (pa_cons pe_int pa_nil))) pe_int (nomark _))
      (pss_one
      (ps_setLc (i := 1) (own := [("_law_turn", 2)]) (g := gName 2) (tt := tYes) rfl nd rfl rfl (sw_true rfl rfl rfl (by decide +kernel)) (pi_range1 (by rfl) Z.z_range (pa_cons pe_int pa_nil)) (blkOk_by (N := N_right) (sc := defScope s_right) (by decide +kernel)) (fun _ _ _ _ _ => (pg_name (i := 2) nd rfl (Or.inl rfl))) (fun _ _ _ _ _ => pts_nil) (fun _ _ _ _ _ => (pe_call D_part.ok (hr.mono (by decide)) (by rfl) D_part.g D_part.kp D_part.b .nil pass0 (pa_cons (pv 0) pa_nil)))))
      pss_nil)
    (pss_cons
    (ps_par (i := 3) (j := 4) (by rfl) nd rfl rfl (by decide) rfl rfl (pa_cons (pe_call D_called.ok (hr.mono (by decide)) (by rfl) D_called.g D_called.kp D_called.b .nil pass0 (pa_cons (pv 1) pa_nil)) (pa_cons (ClX.pe_cmeth (pe_glob (v := .ref C) rfl hC rfl) cr cm F_of (hr.mono (by decide)) pass0 (pa_cons (pe_callTy call_tuple_of (by rfl) Z.z_tuple (by decide +kernel) (pa_cons (pv 1) pa_nil)) pa_nil)) pa_nil)) (by rfl))
    (pss_one
    (ps_ret (pe_and (pe_callV (callG (X := _) D_tells.ok (hr.mono (by decide)) hq pass0) (by rfl) D_tells.g D_tells.kp (pa_cons (pv 0) (pa_cons (pv 3) (pa_cons (pv 1) pa_nil)))) (pe_and (pe_cmpR (op_eqO sp_eq F_eq (hr.mono (by decide)) pass0) (pv 3) (pv 4) (nomark _)) (pe_and (pe_not (pe_cmpR (op_neO sp_eq ne F_eq (hr.mono (by decide)) pass0) (pv 3) (pv 4) (nomark _))) (pe_one (pe_callV (callG (X := _) D_tells.ok (hr.mono (by decide)) hq pass0) (by rfl) D_tells.g D_tells.kp (pa_cons (pv 0) (pa_cons (pv 4) (pa_cons (pv 1) pa_nil))))))))))))), ?_⟩
    refine asgS (fun v H1 => ∃ a ps, v = .ref a ∧ Chg d H H1 ∧ Dice H1 d ∧ H1 a = some (.lst (pV ps)) ∧ a ≠ d ∧ (∀ p ∈ ps, Ok p) ∧ ps.length ≤ 4) (fun Q' q' => ?_) (fun v H1 hv => ?_)
    · refine ⟨_, rfl, d, 4, rfl, hD, by decide, by decide, fun H1 a ps c1 D1 na ha hok hl => q' _ _ ⟨a, ps, rfl, c1, D1, ha, ?_, hok, hl⟩⟩
      exact (dice_ne hD na).symm
    obtain ⟨a, ps, rfl, c1, D1, ha, had, hok, hl⟩ := hv
    refine ⟨_, rfl, d, 4, rfl, D1, by decide, by decide, fun H2 r c2 D2 r0 r1 => ?_⟩
    have ha2 := c2 _ _ had ha
    refine ⟨rfl, _, rfl, ?_⟩
    by_cases e0 : V.int r = V.int 0
    · refine ifT (decide_eq_true e0) ?_
      refine asgS (fun v H3 => ∃ a2 ps2, v = .ref a2 ∧ Chg d H H3 ∧ Dice H3 d ∧ H3 a2 = some (.lst (pV ps2)) ∧ a2 ≠ d ∧ (∀ p ∈ ps2, Ok p) ∧ ps2.length ≤ 4) (fun Q' q' => ?_) (fun v H3 hv => ?_)
      · refine ⟨4, rfl, by decide, by decide, fun L nL => ?_⟩
        have ne := dice_ne D2 nL
        have c12 := c1.trans c2
        refine lc_range (lo := 0) (n := 4) (fun i H2' => Chg d H H2' ∧ Dice H2' d ∧ ∃ ps : List Part, H2' L = some (.lst (pV ps)) ∧ ps.length = i ∧ ∀ p ∈ ps, Ok p)
          ⟨c12.new nL, D2.new nL, [], upd_same, rfl, fun _ h => by cases h⟩ (fun i H3 hi hP => ?_) (fun H3 hP => ?_)
        · obtain ⟨c3, D3, ps, hy, hl, hok⟩ := hP
          refine ⟨rfl, _, rfl, d, rfl, D3, fun H4 pt ch D4 hpt => ?_⟩
          have e3 : H4 L = some (.lst (pV ps)) := ch _ _ ne.symm hy
          refine ⟨_, e3, by rw [pV_len]; exact small1000 (by omega), ?_⟩
          refine ⟨fun x o nx e => ?_, ?_, ps ++ [pt], ?_, ?_, ?_⟩
          · rw [upd_ne (ne_of_none (c12 _ _ nx e) nL)]
            exact (c3.trans ch) _ _ nx e
          · obtain ⟨a, b, c', ed, B⟩ := D4
            exact ⟨a, b, c', by rw [upd_ne ne]; exact ed, B⟩
          · rw [upd_same]
            unfold pV
            rw [List.map_append]
            rfl
          · rw [List.length_append, hl]
            rfl
          · intro y hy'
            rcases List.mem_append.mp hy' with hy' | hy'
            · exact hok y hy'
            · rw [List.mem_singleton.mp hy']
              exact hpt
        · obtain ⟨c3, D3, ps, hy, hl, hok⟩ := hP
          exact q' _ _ ⟨L, ps, rfl, c3, D3, hy, ne.symm, hok, by omega⟩
      obtain ⟨a2, ps2, rfl, c3, D3, ha3, had3, hok3, hl3⟩ := hv
      refine ⟨_, rfl, a2, ps2, rfl, ha3, hok3, hl3, fun H4 x1 s4 nx1 cut1 => ?_⟩
      refine ⟨rfl, _, rfl, a2, _, rfl, .inl ⟨.of (s4 _ _ ha3), fun t nt => ?_⟩⟩
      have s5 := same_new (o := .tup (pV ps2)) nt
      refine ⟨t, ps2, rfl, upd_same, hok3, hl3, fun H5 x2 s6 nx2 cut2 => ⟨_, _, rfl, ?_⟩⟩
      have s56 := s5.trans s6
      have cut1 := cut1.same s56
      have D5 := D3.keep (s4.trans s56)
      have ha5 := (s4.trans s56) _ _ ha3
      refine ⟨_, rfl, _, rfl, _, rfl, d, x1, a2, ps2, rfl, D5, cut1, ha5, had3, fun H6 c6 D6 => ⟨true, rfl, ?_⟩⟩
      obtain ⟨_, _, _, hd5, _⟩ := D5
      have cut1 := cut1.chg c6 hd5
      have cut2 := cut2.chg c6 hd5
      have ha6 := c6 _ _ had3 ha5
      obtain ⟨dx1, _, _, _, hx1, _⟩ := cut1.ex
      obtain ⟨dx2, _, _, _, hx2, _⟩ := cut2.ex
      refine ⟨_, rfl, _, rfl, x1, x2, _, _, _, _, rfl, rfl, hx1, hx2, x1, x2, ps2, ps2, rfl, cut1, cut2, alike ps2 ps2, rfl, ?_⟩
      rw [alike_refl]
      refine ⟨true, rfl, ?_⟩
      refine ⟨_, rfl, _, rfl, x1, x2, _, _, _, _, rfl, rfl, hx1, hx2, x1, x2, ps2, ps2, rfl, cut1, cut2, alike ps2 ps2, rfl, ?_⟩
      rw [alike_refl]
      refine ⟨false, rfl, true, rfl, ?_⟩
      refine ⟨_, rfl, _, rfl, _, rfl, d, x2, a2, ps2, rfl, D6, cut2, ha6, had3, fun H7 c7 D7 => ?_⟩
      exact q H7 (((c3.trans (.of (s4.trans s56))).trans c6).trans c7) D7
    · refine ifF (decide_eq_false e0) ?_
      dsimp only [tNext]
      obtain ⟨a2, ps2, H3, e1, e2, e3, c3, D3, ha3, had3, hok3, hl3⟩ : ∃ a2 ps2 H3, a2 = a ∧ ps2 = ps ∧ H3 = H2 ∧ Chg d H H3 ∧ Dice H3 d ∧ H3 a2 = some (.lst (pV ps2)) ∧ a2 ≠ d ∧ (∀ p ∈ ps2, Ok p) ∧ ps2.length ≤ 4 := ⟨a, ps, H2, rfl, rfl, rfl, c1.trans c2, D2, ha2, had, hok, hl⟩
      rw [← e1, ← e3]
      refine ⟨_, rfl, a2, ps2, rfl, ha3, hok3, hl3, fun H4 x1 s4 nx1 cut1 => ?_⟩
      refine ⟨rfl, _, rfl, a2, _, rfl, .inl ⟨.of (s4 _ _ ha3), fun t nt => ?_⟩⟩
      have s5 := same_new (o := .tup (pV ps2)) nt
      refine ⟨t, ps2, rfl, upd_same, hok3, hl3, fun H5 x2 s6 nx2 cut2 => ⟨_, _, rfl, ?_⟩⟩
      have s56 := s5.trans s6
      have cut1 := cut1.same s56
      have D5 := D3.keep (s4.trans s56)
      have ha5 := (s4.trans s56) _ _ ha3
      refine ⟨_, rfl, _, rfl, _, rfl, d, x1, a2, ps2, rfl, D5, cut1, ha5, had3, fun H6 c6 D6 => ⟨true, rfl, ?_⟩⟩
      obtain ⟨_, _, _, hd5, _⟩ := D5
      have cut1 := cut1.chg c6 hd5
      have cut2 := cut2.chg c6 hd5
      have ha6 := c6 _ _ had3 ha5
      obtain ⟨dx1, _, _, _, hx1, _⟩ := cut1.ex
      obtain ⟨dx2, _, _, _, hx2, _⟩ := cut2.ex
      refine ⟨_, rfl, _, rfl, x1, x2, _, _, _, _, rfl, rfl, hx1, hx2, x1, x2, ps2, ps2, rfl, cut1, cut2, alike ps2 ps2, rfl, ?_⟩
      rw [alike_refl]
      refine ⟨true, rfl, ?_⟩
      refine ⟨_, rfl, _, rfl, x1, x2, _, _, _, _, rfl, rfl, hx1, hx2, x1, x2, ps2, ps2, rfl, cut1, cut2, alike ps2 ps2, rfl, ?_⟩
      rw [alike_refl]
      refine ⟨false, rfl, true, rfl, ?_⟩
      refine ⟨_, rfl, _, rfl, _, rfl, d, x2, a2, ps2, rfl, D6, cut2, ha6, had3, fun H7 c7 D7 => ?_⟩
      exact q H7 (((c3.trans (.of (s4.trans s56))).trans c6).trans c7) D7

abbrev cA : Part := .pat [true] [false, true, true]
abbrev cB : Part := .pat [] []
abbrev cC : Part := .pat [false, true] [true, false]
abbrev cD : Part := .pat [] [true]
theorem tA : [V.str "+..-++"] = pV [cA] := by
  show [V.str "+..-++"] = [V.str cA.text]
  rw [show cA.text = Str.ofString "+..-++" by decide +kernel]
theorem tB : [V.str ".."] = pV [cB] := by
  show [V.str ".."] = [V.str cB.text]
  rw [show cB.text = Str.ofString ".." by decide +kernel]
theorem tCD : [V.str "-+..+-", V.str "..+"] = pV [cC, cD] := by
  show [V.str "-+..+-", V.str "..+"] = [V.str cC.text, V.str cD.text]
  rw [show cC.text = Str.ofString "-+..+-" by decide +kernel, show cD.text = Str.ofString "..+" by decide +kernel]
theorem okA : ∀ p ∈ [cA], Ok p := fun p hp => by
  rw [List.mem_singleton.mp hp]
  exact ⟨by decide, by decide⟩
theorem okB : ∀ p ∈ [cB], Ok p := fun p hp => by
  rw [List.mem_singleton.mp hp]
  exact ⟨by decide, by decide⟩
theorem okCD : ∀ p ∈ [cC, cD], Ok p := fun p hp => by
  simp only [List.mem_cons, List.not_mem_nil, or_false] at hp
  rcases hp with h | h <;> subst h <;> exact ⟨by decide, by decide⟩
theorem eA : run [cA] [V.str "a", .str "b", .str "c", .str "d"] = [V.str "a", .str "c", .str "d"] := by rfl
theorem eA2 : Cut.places [cA] 2 = [0, 1] := by decide +kernel
theorem eA5 : Cut.places [cA] 5 = [0, 3, 4] := by decide +kernel
theorem eB7 : Cut.places [cB] 7 = [] := by decide +kernel
theorem eCD : Cut.places [cC, cD] 9 = [7] := by decide +kernel
theorem mk_cut {H0 : Hp} {vs : List V} {R : Hp → Prop} {x dx : Addr} (ps : List Part) (hv : vs = pV ps) (hok : ∀ p ∈ ps, Ok p) (hl : ps.length ≤ 4) (nx : H0 x = none) (ndx : H0 dx = none) (q : ∀ H', Same H0 H' → CutAt C H' x ps → R H') :
    spInit C (V.ref x :: vs) (upd (upd H0 dx (.own x)) x (.ins C dx [])) (fun v H2 => v = .non ∧ R H2) E0 := by
  subst hv
  refine ⟨x, dx, ps, rfl, upd_same, hok, hl, fun H' c' k => ⟨rfl, q H' (fun b o e => ?_) k⟩⟩
  refine c' b o (ne_of_none e nx) ?_
  rw [upd_ne (ne_of_none e nx), upd_ne (ne_of_none e ndx)]
  exact e
def spLaw (K : PySem.W.Frag) : Sp := fun vs H Q _ => ∃ (a : Addr) (ns : List Int), vs = [.ref a] ∧ SqL K H a (ns.map V.int) ∧ ns.length ≤ 63 ∧ ∀ H', Q (.bl true) H'
theorem ok_law (Z : Zs mg) (D : Df K mg "law" s_law P_law f fd) (c : CK K C) (hC : mg "Cutter" = some (.ref C)) {fi f1 f2 f3 f4 : Addr} {d1 d4 : FuncData} (D_dice : Cl P w K mg base "_law_dice" 1 f1 d1 P_dice (spDice K)) (D_right : Cg P w K mg base "_law_right" 9 f2 spRight)
    (M : Mk K C fi) (FI : FnR P w K mg base CX0 5 fi (spInit C)) (cO : StX.CallO K C f3) (F_call : FnR P w K mg base CX0 4 f3 (spCutCall C)) (me_places : Meth K C "places" f4) (M_places : Cm P w K mg base 3 f4 d4 P_places (spCutPlaces C)) : FnG P w K mg base CX0 10 f (spLaw K) := by
  refine fnG_of D.F sc_law D.b (fun vs H Q E h => ?_) (fun cdv A outer s H vs Q E hr hq h => ?_)
  · obtain ⟨a, ns, rfl, _⟩ := h
    rfl
  · obtain ⟨a, ns, rfl, hS, hl, q⟩ := h
    have nd := sc_law.nd
    have hu : (A.deeper (envOfC "law" (defScope s_law) s.heap.objs.size f cdv)).units + 64 < cLine := by
      have := hr.un
      omega
    refine ⟨_,
    (pss_cons
    (ps_for PassesOwn.never rfl (pi_range1 (by rfl) Z.z_range (pa_cons (pe_callB (call_max2 rfl) (by rfl) Z.z_max (by decide +kernel) (pa_cons pe_int (pa_cons (pe_callB (call_min2 rfl) (by rfl) Z.z_min (by decide +kernel) (pa_cons pe_int (pa_cons (pe_callB call_lenL (by rfl) Z.z_len (by decide +kernel) (pa_cons (pv 0) pa_nil)) pa_nil))) pa_nil))) pa_nil)) (pg_name (i := 1) nd rfl (Or.inl rfl))
      (pss_cons
      (ps_set (i := 2) nd rfl (Or.inl rfl) (pe_call D_dice.ok (hr.mono (by decide)) (by rfl) D_dice.g D_dice.kp D_dice.b .nil pass0 (pa_cons (pv 0) (pa_cons (pv 1) pa_nil))))
      (pss_one
      (ps_for PassesOwn.never rfl (pi_range1 (by rfl) Z.z_range (pa_cons pe_int pa_nil)) (pg_name (i := 3) nd rfl (Or.inl rfl))
        (pss_one
        (ps_if (pt_not (pt_val (pe_callV (callG (X := _) D_right.ok (hr.mono (by decide)) hq pass0) (by rfl) D_right.g D_right.kp (pa_cons (pv 2) pa_nil))))
          (pss_one
          (ps_ret pe_bl))
          pss_nil))))))
    (pss_cons
    (ps_set (i := 4) nd rfl (Or.inl rfl) (StX.pe_makeR M FI (hr.mono (by decide)) (by rfl) hC pass0 (pa_cons pe_str pa_nil)))
    (pss_cons
    (ps_set (i := 5) nd rfl (Or.inl rfl) (pe_lstN (pa_cons (StX.pe_callO (pv 4) cO F_call (hr.mono (by decide)) pass0 (pa_cons (pe_tup (pa_cons pe_str (pa_cons pe_str (pa_cons pe_str (pa_cons pe_str pa_nil))))) pa_nil)) (pa_cons (pe_meth (pv 4) c.cls me_places M_places.ok (hr.mono (by decide)) M_places.b .nil pass0 (pa_cons pe_int pa_nil)) (pa_cons (pe_meth (pv 4) c.cls me_places M_places.ok (hr.mono (by decide)) M_places.b .nil pass0 (pa_cons pe_int pa_nil)) (pa_cons (pe_meth (StX.pe_makeR M FI (hr.mono (by decide)) (by rfl) hC pass0 (pa_cons pe_str pa_nil)) c.cls me_places M_places.ok (hr.mono (by decide)) M_places.b .nil pass0 (pa_cons pe_int pa_nil)) pa_nil))))))
    (pss_cons
    (ps_expr (pe_bm PySem.F.plainAttrs_list PySem.F.slot_list_append PySem.F.type_list_append mt_append (pv 5) (pa_cons (pe_meth (StX.pe_makeR M FI (hr.mono (by decide)) (by rfl) hC pass0 (pa_cons pe_str (pa_cons pe_str pa_nil))) c.cls me_places M_places.ok (hr.mono (by decide)) M_places.b .nil pass0 (pa_cons pe_int pa_nil)) pa_nil)))
    (pss_one
    (ps_ret (pe_and (pe_cmpR (op_eqD hu) (pv 5) (pe_lstN (pa_cons (pe_tup (pa_cons pe_str (pa_cons pe_str (pa_cons pe_str pa_nil)))) (pa_cons (pe_tup (pa_cons pe_int (pa_cons pe_int pa_nil))) (pa_cons (pe_tup (pa_cons pe_int (pa_cons pe_int (pa_cons pe_int pa_nil)))) (pa_cons (pe_tup pa_nil) (pa_cons (pe_tup (pa_cons pe_int pa_nil)) pa_nil)))))) (nomark _)) (pe_one (pe_cmpR (op_eqD hu) (pe_lstN (pa_cons (pe_gI rfl Z.g_MAX_PARTS) (pa_cons (pe_gI rfl Z.g_MAX_ROW) pa_nil))) (pe_lstN (pa_cons pe_int (pa_cons pe_int pa_nil))) (nomark _)))))))))), ?_⟩
    refine ⟨_, rfl, a, _, rfl, hS, _, _, rfl, _, _, rfl, ?_⟩
    rw [List.length_map]
    generalize hn : (if (if (ns.length : Int) < 8 then (ns.length : Int) else 8) > 1 then (if (ns.length : Int) < 8 then (ns.length : Int) else 8) else 1) = n
    have n0 : 0 ≤ n ∧ n ≤ 8 := by
      rw [← hn]
      split <;> (try split) <;> omega
    refine ⟨n, rfl, by omega, by omega, ?_⟩
    refine for_range (lo := 0) (n := n.toNat) (fun i σ' H' => Same H H' ∧ ∃ x1 x2 x3, σ' = [some (.ref a), x1, x2, x3, none, none]) ⟨Same.refl H, none, none, none, rfl⟩ (fun i σ' H1 hi hP => ?_) (fun σ' H1 hP => ?_)
    · obtain ⟨s1, x1, x2, x3, rfl⟩ := hP
      refine asgS (fun v H2 => Same H1 H2 ∧ ∃ d, v = .ref d ∧ H1 d = none ∧ Dice H2 d) (fun Q' q' => ?_) (fun v H2 hv => ?_)
      · refine ⟨_, rfl, _, rfl, a, ns, i, by simp, s1.seq hS, hl, by omega, fun H2 d s2 nd' D2 => q' _ _ ⟨s2, d, rfl, nd', D2⟩⟩
      obtain ⟨s2, d, rfl, nd2, D2⟩ := hv
      refine ⟨3, rfl, by decide, by decide, ?_⟩
      refine for_range (lo := 0) (n := 3) (fun i' σ' H' => Chg d H2 H' ∧ Dice H' d ∧ ∃ x3, σ' = [some (.ref a), some (.int (0 + i)), some (.ref d), x3, none, none]) ⟨Chg.refl d H2, D2, _, rfl⟩ (fun i' σ' H3 hi' hP => ?_) (fun σ' H3 hP => ?_)
      · obtain ⟨c3, D3, y3, rfl⟩ := hP
        refine ⟨_, rfl, d, rfl, D3, fun H4 c4 D4 => ⟨_, rfl, ifF rfl ⟨c3.trans c4, D4, _, rfl⟩⟩⟩
      · obtain ⟨c3, D3, y3, rfl⟩ := hP
        refine ⟨fun b o e => ?_, _, _, _, rfl⟩
        have e1 := s1 _ _ e
        exact c3 _ _ (ne_of_none e1 nd2) (s2 _ _ e1)
    · obtain ⟨s1, x1, x2, x3, rfl⟩ := hP
      dsimp only
      -- the cutter
      refine asgS (fun v H2 => ∃ x, v = .ref x ∧ Same H1 H2 ∧ CutAt C H2 x [cA]) (fun Q' q' => ?_) (fun v H2 hv => ?_)
      · intro x dx nx ndx _
        exact mk_cut [cA] tA okA (by decide) nx ndx fun H2 s2 cx => q' _ _ ⟨x, rfl, s2, cx⟩
      obtain ⟨x, rfl, s2, cx2⟩ := hv
      obtain ⟨dx2, _, _, _, hx2, _⟩ := cx2.ex
      refine asgS (fun v H8 => ∃ tl r1 r2 r3 r4, v = .ref tl ∧ H8 tl = some (.lst [.ref r1, .ref r2, .ref r3, .ref r4]) ∧ H8 r1 = some (.tup [.str "a", .str "c", .str "d"]) ∧ H8 r2 = some (.tup (iV [0, 1])) ∧ H8 r3 = some (.tup (iV [0, 3, 4])) ∧ H8 r4 = some (.tup (iV []))) (fun Q' q' => ?_) (fun v H8 hv => ?_)
      · refine ⟨_, rfl, x, rfl, by show 4 ≤ sizeLine; decide, fun w1 nw1 => ?_⟩
        have u1 := same_new (o := .tup [V.str "a", .str "b", .str "c", .str "d"]) nw1
        refine ⟨.inr ⟨dx2, _, u1 _ _ hx2⟩, x, w1, [cA], [V.str "a", .str "b", .str "c", .str "d"], rfl, cx2.same u1, upd_same, by show 4 ≤ 1000; decide, fun H3 r1 s3 nr1 hr1 => ?_⟩
        have cx3 := (cx2.same u1).same s3
        obtain ⟨dx3, _, _, _, hx3, _⟩ := cx3.ex
        refine ⟨_, rfl, x, dx3, _, rfl, hx3, rfl, x, [cA], 2, rfl, cx3, by decide, fun H4 r2 s4 hr2 => ?_⟩
        have cx4 := cx3.same s4
        obtain ⟨dx4, _, _, _, hx4, _⟩ := cx4.ex
        refine ⟨_, rfl, x, dx4, _, rfl, hx4, rfl, x, [cA], 5, rfl, cx4, by decide, fun H5 r3 s5 hr3 => ?_⟩
        intro z dz nz ndz hnez
        refine mk_cut [cB] tB okB (by decide) nz ndz fun H6 s6 cy => ?_
        obtain ⟨dy, _, _, _, hy, _⟩ := cy.ex
        refine ⟨z, dy, _, rfl, hy, rfl, z, [cB], 7, rfl, cy, by decide, fun H7 r4 s7 hr4 => ?_⟩
        refine ⟨by show 4 ≤ sizeLine; decide, fun tl ntl _ => ?_⟩
        have s8 := same_new (o := .lst [V.ref r1, .ref r2, .ref r3, .ref r4]) ntl
        refine q' _ _ ⟨tl, r1, r2, r3, r4, rfl, upd_same, ?_, ?_, ?_, ?_⟩
        · rw [(((((s4.trans s5).trans s6).trans s7).trans s8) _ _ hr1 : _), eA]
        · rw [((((s5.trans s6).trans s7).trans s8) _ _ hr2 : _), eA2]
        · rw [(((s6.trans s7).trans s8) _ _ hr3 : _), eA5]
        · rw [(s8 _ _ hr4 : _), eB7]
      obtain ⟨tl, r1, r2, r3, r4, rfl, htl, hr1, hr2, hr3, hr4⟩ := hv
      refine ⟨_, rfl, .inl ⟨rfl, _, .of htl⟩, ?_⟩
      intro z dz nz ndz hnez
      refine mk_cut [cC, cD] tCD okCD (by decide) nz ndz fun H9 s9 cy => ?_
      obtain ⟨dy, _, _, _, hy, _⟩ := cy.ex
      refine ⟨z, dy, _, rfl, hy, rfl, z, [cC, cD], 9, rfl, cy, by decide, fun H10 r5 s10 hr5 => ?_⟩
      have s910 := s9.trans s10
      refine ⟨tl, [.ref r1, .ref r2, .ref r3, .ref r4], .ref r5, rfl, rfl, s910 _ _ htl, by show 4 < sizeLine; decide, ?_⟩
      have n1 : r1 ≠ tl := fun e => by rw [e, htl] at hr1; cases hr1
      have n2 : r2 ≠ tl := fun e => by rw [e, htl] at hr2; cases hr2
      have n3 : r3 ≠ tl := fun e => by rw [e, htl] at hr3; cases hr3
      have n4 : r4 ≠ tl := fun e => by rw [e, htl] at hr4; cases hr4
      have n5 : r5 ≠ tl := fun e => by rw [e, s910 _ _ htl] at hr5; cases hr5
      have g1 : (upd H10 tl (.lst ([.ref r1, .ref r2, .ref r3, .ref r4] ++ [.ref r5]))) r1 = some (.tup [.str "a", .str "c", .str "d"]) := by rw [upd_ne n1]; exact s910 _ _ hr1
      have g2 : (upd H10 tl (.lst ([.ref r1, .ref r2, .ref r3, .ref r4] ++ [.ref r5]))) r2 = some (.tup (iV [0, 1])) := by rw [upd_ne n2]; exact s910 _ _ hr2
      have g3 : (upd H10 tl (.lst ([.ref r1, .ref r2, .ref r3, .ref r4] ++ [.ref r5]))) r3 = some (.tup (iV [0, 3, 4])) := by rw [upd_ne n3]; exact s910 _ _ hr3
      have g4 : (upd H10 tl (.lst ([.ref r1, .ref r2, .ref r3, .ref r4] ++ [.ref r5]))) r4 = some (.tup (iV [])) := by rw [upd_ne n4]; exact s910 _ _ hr4
      have g5 : (upd H10 tl (.lst ([.ref r1, .ref r2, .ref r3, .ref r4] ++ [.ref r5]))) r5 = some (.tup (iV [7])) := by rw [upd_ne n5, hr5, eCD]
      have gt : (upd H10 tl (.lst ([.ref r1, .ref r2, .ref r3, .ref r4] ++ [.ref r5]))) tl = some (.lst [.ref r1, .ref r2, .ref r3, .ref r4, .ref r5]) := upd_same
      generalize upd H10 tl (.lst ([.ref r1, .ref r2, .ref r3, .ref r4] ++ [.ref r5])) = HH at g1 g2 g3 g4 g5 gt ⊢
      -- the answers
      refine ⟨_, rfl, by show 3 ≤ sizeLine; decide, fun w1 nw1 => ?_⟩
      refine ⟨by show 2 ≤ sizeLine; decide, fun w2 nw2 => ⟨by show 3 ≤ sizeLine; decide, fun w3 nw3 => ⟨by show 0 ≤ sizeLine; decide, fun w4 nw4 => ⟨by show 1 ≤ sizeLine; decide, fun w5 nw5 => ⟨by show 5 ≤ sizeLine; decide, fun w6 nw6 _ => ?_⟩⟩⟩⟩⟩
      have v1 := same_new (o := .tup [V.str "a", .str "c", .str "d"]) nw1
      have v2 := same_new (o := .tup [V.int 0, .int 1]) nw2
      have v3 := same_new (o := .tup [V.int 0, .int 3, .int 4]) nw3
      have v4 := same_new (o := .tup []) nw4
      have v5 := same_new (o := .tup [V.int 7]) nw5
      have v6 := same_new (o := .lst [V.ref w1, .ref w2, .ref w3, .ref w4, .ref w5]) nw6
      have v56 := v5.trans v6
      have v46 := v4.trans v56
      have v36 := v3.trans v46
      have v26 := v2.trans v36
      have v16 := v1.trans v26
      have b1 := v26 _ _ upd_same
      have b2 := v36 _ _ upd_same
      have b3 := v46 _ _ upd_same
      have b4 := v56 _ _ upd_same
      have b5 := v6 _ _ upd_same
      have b6 : (upd (upd (upd (upd (upd (upd HH w1 (.tup [V.str "a", .str "c", .str "d"])) w2 (.tup [V.int 0, .int 1])) w3 (.tup [V.int 0, .int 3, .int 4])) w4 (.tup [])) w5 (.tup [V.int 7])) w6 (.lst [V.ref w1, .ref w2, .ref w3, .ref w4, .ref w5])) w6 = some (.lst [V.ref w1, .ref w2, .ref w3, .ref w4, .ref w5]) := upd_same
      have h1 := v16 _ _ g1
      have h2 := v16 _ _ g2
      have h3 := v16 _ _ g3
      have h4 := v16 _ _ g4
      have h5 := v16 _ _ g5
      have ht := v16 _ _ gt
      generalize upd (upd (upd (upd (upd (upd HH w1 _) w2 _) w3 _) w4 _) w5 _) w6 _ = HX at b1 b2 b3 b4 b5 b6 h1 h2 h3 h4 h5 ht ⊢
      have dS : ∀ (y : Addr), HX y = some (.tup [V.str "a", .str "c", .str "d"]) → Dp K HX (.ref y) (.tuple [.str "a", .str "c", .str "d"]) := fun y hy => .tup (.of hy) (.cons (.str _) (.cons (.str _) (.cons (.str _) .nil)))
      refine ⟨.list [.tuple [.str "a", .str "c", .str "d"], dI [0, 1], dI [0, 3, 4], dI [], dI [7]], .list [.tuple [.str "a", .str "c", .str "d"], dI [0, 1], dI [0, 3, 4], dI [], dI [7]], ?_, ?_, by decide +kernel, by decide +kernel, true, ?_, ifT rfl ?_⟩
      · exact .lst (.of ht) (.cons (dS _ h1) (.cons (dp_iV h2) (.cons (dp_iV h3) (.cons (dp_iV h4) (.cons (dp_iV h5) .nil)))))
      · exact .lst (.of b6) (.cons (dS _ b1) (.cons (dp_iV (l := [0, 1]) b2) (.cons (dp_iV (l := [0, 3, 4]) b3) (.cons (dp_iV (l := []) b4) (.cons (dp_iV (l := [7]) b5) .nil)))))
      · exact congrArg V.bl (by decide +kernel)
      refine ⟨by show 2 ≤ sizeLine; decide, fun z1 nz1 _ => ⟨by show 2 ≤ sizeLine; decide, fun z2 nz2 _ => ?_⟩⟩
      have y1 := same_new (o := .lst [V.int 4, .int 1000]) nz2
      refine ⟨.list [.int 4, .int 1000], .list [.int 4, .int 1000], .lst (.of (y1 _ _ upd_same)) (.cons (.int _) (.cons (.int _) .nil)), .lst (.of upd_same) (.cons (.int _) (.cons (.int _) .nil)), by decide +kernel, by decide +kernel, ?_⟩
      have e : PyData.eqv (.list [.int 4, .int 1000]) (.list [.int 4, .int 1000]) = true := by decide +kernel
      rw [e]
      exact q _

end
end K02
set_option Elab.async false
set_option linter.all false
set_option maxRecDepth 100000
set_option maxHeartbeats 8000000
namespace K02
open PySem PySem.Spec PyProof.Rows L2 Ly Cut

theorem all_mk {l : PySem.W.OpenLaw} {w : World} {K : PySem.W.Frag} {h : Heap} {mg : Str → Option Value} {fa : Addr} (X : K.In h) (G : h.Ns mainGlobals mg) (hfa : mg "law" = some (.ref fa)) {f_is_whole : Addr} {od_is_whole an_is_whole : Option Addr} {sl_is_whole : Array (Option Value)} {oc_is_whole kV_is_whole dc_is_whole pm_is_whole cd_is_whole ct_is_whole : Value} {f_is_part : Addr} {od_is_part an_is_part : Option Addr} {sl_is_part : Array (Option Value)} {oc_is_part kV_is_part dc_is_part pm_is_part cd_is_part ct_is_part : Value} {f_check_parts : Addr} {od_check_parts an_check_parts : Option Addr} {sl_check_parts : Array (Option Value)} {oc_check_parts kV_check_parts dc_check_parts pm_check_parts cd_check_parts ct_check_parts : Value} {f_has_plus : Addr} {od_has_plus an_has_plus : Option Addr} {sl_has_plus : Array (Option Value)} {oc_has_plus kV_has_plus dc_has_plus pm_has_plus cd_has_plus ct_has_plus : Value} {f_part_places : Addr} {od_part_places an_part_places : Option Addr} {sl_part_places : Array (Option Value)} {oc_part_places kV_part_places dc_part_places pm_part_places cd_part_places ct_part_places : Value} {f_kept_places : Addr} {od_kept_places an_kept_places : Option Addr} {sl_kept_places : Array (Option Value)} {oc_kept_places kV_kept_places dc_kept_places pm_kept_places cd_kept_places ct_kept_places : Value} {f_table_of : Addr} {od_table_of an_table_of : Option Addr} {sl_table_of : Array (Option Value)} {oc_table_of kV_table_of dc_table_of pm_table_of cd_table_of ct_table_of : Value} {f_keep_all : Addr} {od_keep_all an_keep_all : Option Addr} {sl_keep_all : Array (Option Value)} {oc_keep_all kV_keep_all dc_keep_all pm_keep_all cd_keep_all ct_keep_all : Value} {f_dice : Addr} {od_dice an_dice : Option Addr} {sl_dice : Array (Option Value)} {oc_dice kV_dice dc_dice pm_dice cd_dice ct_dice : Value} {f_roll : Addr} {od_roll an_roll : Option Addr} {sl_roll : Array (Option Value)} {oc_roll kV_roll dc_roll pm_roll cd_roll ct_roll : Value} {f_one_of : Addr} {od_one_of an_one_of : Option Addr} {sl_one_of : Array (Option Value)} {oc_one_of kV_one_of dc_one_of pm_one_of cd_one_of ct_one_of : Value} {f_signs : Addr} {od_signs an_signs : Option Addr} {sl_signs : Array (Option Value)} {oc_signs kV_signs dc_signs pm_signs cd_signs ct_signs : Value} {f_part : Addr} {od_part an_part : Option Addr} {sl_part : Array (Option Value)} {oc_part kV_part dc_part pm_part cd_part ct_part : Value} {f_lparts : Addr} {od_lparts an_lparts : Option Addr} {sl_lparts : Array (Option Value)} {oc_lparts kV_lparts dc_lparts pm_lparts cd_lparts ct_lparts : Value} {f_kept : Addr} {od_kept an_kept : Option Addr} {sl_kept : Array (Option Value)} {oc_kept kV_kept dc_kept pm_kept cd_kept ct_kept : Value} {f_called : Addr} {od_called an_called : Option Addr} {sl_called : Array (Option Value)} {oc_called kV_called dc_called pm_called cd_called ct_called : Value} {f_tells : Addr} {od_tells an_tells : Option Addr} {sl_tells : Array (Option Value)} {oc_tells kV_tells dc_tells pm_tells cd_tells ct_tells : Value} {f_right : Addr} {od_right an_right : Option Addr} {sl_right : Array (Option Value)} {oc_right kV_right dc_right pm_right cd_right ct_right : Value} {f_law : Addr} {od_law an_law : Option Addr} {sl_law : Array (Option Value)} {oc_law kV_law dc_law pm_law cd_law ct_law : Value} {f_init : Addr} {od_init an_init : Option Addr} {sl_init : Array (Option Value)} {oc_init kV_init dc_init pm_init cd_init ct_init : Value} {f_of : Addr} {od_of an_of : Option Addr} {sl_of : Array (Option Value)} {oc_of kV_of dc_of pm_of cd_of ct_of : Value} {f_parts : Addr} {od_parts an_parts : Option Addr} {sl_parts : Array (Option Value)} {oc_parts kV_parts dc_parts pm_parts cd_parts ct_parts : Value} {f_keeps_all : Addr} {od_keeps_all an_keeps_all : Option Addr} {sl_keeps_all : Array (Option Value)} {oc_keeps_all kV_keeps_all dc_keeps_all pm_keeps_all cd_keeps_all ct_keeps_all : Value} {f_callc : Addr} {od_callc an_callc : Option Addr} {sl_callc : Array (Option Value)} {oc_callc kV_callc dc_callc pm_callc cd_callc ct_callc : Value} {f_places : Addr} {od_places an_places : Option Addr} {sl_places : Array (Option Value)} {oc_places kV_places dc_places pm_places cd_places ct_places : Value} {f_lenc : Addr} {od_lenc an_lenc : Option Addr} {sl_lenc : Array (Option Value)} {oc_lenc kV_lenc dc_lenc pm_lenc cd_lenc ct_lenc : Value} {f_eqc : Addr} {od_eqc an_eqc : Option Addr} {sl_eqc : Array (Option Value)} {oc_eqc kV_eqc dc_eqc pm_eqc cd_eqc ct_eqc : Value} {f_strc : Addr} {od_strc an_strc : Option Addr} {sl_strc : Array (Option Value)} {oc_strc kV_strc dc_strc pm_strc cd_strc ct_strc : Value} {C p_parts p_keeps_all p_of : Addr} {rest_parts rest_keeps_all rest_of : List Value} {t_MAX_PARTS : Tok} {t_MAX_ROW : Tok} {t_KEEP_ALL : Tok} {t_DOTS : Tok} {t_MAX_FRONT : Tok} {t_MAX_BACK : Tok} {t_REACH : Tok}
    (a_is_whole : PySem.W.nsIn K mainGlobals "is_whole" = some (some (.ref f_is_whole)))
    (l_is_whole : K.lookup f_is_whole = some ⟨oc_is_whole, od_is_whole, .func (PySem.W.fnOf "is_whole" "is_whole" (defArgs s_is_whole) (defBody s_is_whole) (defScope s_is_whole) .none kV_is_whole dc_is_whole pm_is_whole an_is_whole cd_is_whole ct_is_whole), sl_is_whole⟩)
    (c_is_whole : PySem.W.codeIn K cd_is_whole "is_whole" = true)
    (k_is_whole : PySem.W.keepIn K (.ref f_is_whole) = true)
    (a_is_part : PySem.W.nsIn K mainGlobals "is_part" = some (some (.ref f_is_part)))
    (l_is_part : K.lookup f_is_part = some ⟨oc_is_part, od_is_part, .func (PySem.W.fnOf "is_part" "is_part" (defArgs s_is_part) (defBody s_is_part) (defScope s_is_part) .none kV_is_part dc_is_part pm_is_part an_is_part cd_is_part ct_is_part), sl_is_part⟩)
    (c_is_part : PySem.W.codeIn K cd_is_part "is_part" = true)
    (k_is_part : PySem.W.keepIn K (.ref f_is_part) = true)
    (a_check_parts : PySem.W.nsIn K mainGlobals "check_parts" = some (some (.ref f_check_parts)))
    (l_check_parts : K.lookup f_check_parts = some ⟨oc_check_parts, od_check_parts, .func (PySem.W.fnOf "check_parts" "check_parts" (defArgs s_check_parts) (defBody s_check_parts) (defScope s_check_parts) .none kV_check_parts dc_check_parts pm_check_parts an_check_parts cd_check_parts ct_check_parts), sl_check_parts⟩)
    (c_check_parts : PySem.W.codeIn K cd_check_parts "check_parts" = true)
    (k_check_parts : PySem.W.keepIn K (.ref f_check_parts) = true)
    (a_has_plus : PySem.W.nsIn K mainGlobals "has_plus" = some (some (.ref f_has_plus)))
    (l_has_plus : K.lookup f_has_plus = some ⟨oc_has_plus, od_has_plus, .func (PySem.W.fnOf "has_plus" "has_plus" (defArgs s_has_plus) (defBody s_has_plus) (defScope s_has_plus) .none kV_has_plus dc_has_plus pm_has_plus an_has_plus cd_has_plus ct_has_plus), sl_has_plus⟩)
    (c_has_plus : PySem.W.codeIn K cd_has_plus "has_plus" = true)
    (k_has_plus : PySem.W.keepIn K (.ref f_has_plus) = true)
    (a_part_places : PySem.W.nsIn K mainGlobals "part_places" = some (some (.ref f_part_places)))
    (l_part_places : K.lookup f_part_places = some ⟨oc_part_places, od_part_places, .func (PySem.W.fnOf "part_places" "part_places" (defArgs s_part_places) (defBody s_part_places) (defScope s_part_places) .none kV_part_places dc_part_places pm_part_places an_part_places cd_part_places ct_part_places), sl_part_places⟩)
    (c_part_places : PySem.W.codeIn K cd_part_places "part_places" = true)
    (k_part_places : PySem.W.keepIn K (.ref f_part_places) = true)
    (a_kept_places : PySem.W.nsIn K mainGlobals "kept_places" = some (some (.ref f_kept_places)))
    (l_kept_places : K.lookup f_kept_places = some ⟨oc_kept_places, od_kept_places, .func (PySem.W.fnOf "kept_places" "kept_places" (defArgs s_kept_places) (defBody s_kept_places) (defScope s_kept_places) .none kV_kept_places dc_kept_places pm_kept_places an_kept_places cd_kept_places ct_kept_places), sl_kept_places⟩)
    (c_kept_places : PySem.W.codeIn K cd_kept_places "kept_places" = true)
    (k_kept_places : PySem.W.keepIn K (.ref f_kept_places) = true)
    (a_table_of : PySem.W.nsIn K mainGlobals "table_of" = some (some (.ref f_table_of)))
    (l_table_of : K.lookup f_table_of = some ⟨oc_table_of, od_table_of, .func (PySem.W.fnOf "table_of" "table_of" (defArgs s_table_of) (defBody s_table_of) (defScope s_table_of) .none kV_table_of dc_table_of pm_table_of an_table_of cd_table_of ct_table_of), sl_table_of⟩)
    (c_table_of : PySem.W.codeIn K cd_table_of "table_of" = true)
    (k_table_of : PySem.W.keepIn K (.ref f_table_of) = true)
    (a_keep_all : PySem.W.nsIn K mainGlobals "keep_all" = some (some (.ref f_keep_all)))
    (l_keep_all : K.lookup f_keep_all = some ⟨oc_keep_all, od_keep_all, .func (PySem.W.fnOf "keep_all" "keep_all" (defArgs s_keep_all) (defBody s_keep_all) (defScope s_keep_all) .none kV_keep_all dc_keep_all pm_keep_all an_keep_all cd_keep_all ct_keep_all), sl_keep_all⟩)
    (c_keep_all : PySem.W.codeIn K cd_keep_all "keep_all" = true)
    (k_keep_all : PySem.W.keepIn K (.ref f_keep_all) = true)
    (a_dice : PySem.W.nsIn K mainGlobals "_law_dice" = some (some (.ref f_dice)))
    (l_dice : K.lookup f_dice = some ⟨oc_dice, od_dice, .func (PySem.W.fnOf "_law_dice" "_law_dice" (defArgs s_dice) (defBody s_dice) (defScope s_dice) .none kV_dice dc_dice pm_dice an_dice cd_dice ct_dice), sl_dice⟩)
    (c_dice : PySem.W.codeIn K cd_dice "_law_dice" = true)
    (k_dice : PySem.W.keepIn K (.ref f_dice) = true)
    (a_roll : PySem.W.nsIn K mainGlobals "_law_roll" = some (some (.ref f_roll)))
    (l_roll : K.lookup f_roll = some ⟨oc_roll, od_roll, .func (PySem.W.fnOf "_law_roll" "_law_roll" (defArgs s_roll) (defBody s_roll) (defScope s_roll) .none kV_roll dc_roll pm_roll an_roll cd_roll ct_roll), sl_roll⟩)
    (c_roll : PySem.W.codeIn K cd_roll "_law_roll" = true)
    (k_roll : PySem.W.keepIn K (.ref f_roll) = true)
    (a_one_of : PySem.W.nsIn K mainGlobals "_law_one_of" = some (some (.ref f_one_of)))
    (l_one_of : K.lookup f_one_of = some ⟨oc_one_of, od_one_of, .func (PySem.W.fnOf "_law_one_of" "_law_one_of" (defArgs s_one_of) (defBody s_one_of) (defScope s_one_of) .none kV_one_of dc_one_of pm_one_of an_one_of cd_one_of ct_one_of), sl_one_of⟩)
    (c_one_of : PySem.W.codeIn K cd_one_of "_law_one_of" = true)
    (k_one_of : PySem.W.keepIn K (.ref f_one_of) = true)
    (a_signs : PySem.W.nsIn K mainGlobals "_law_signs" = some (some (.ref f_signs)))
    (l_signs : K.lookup f_signs = some ⟨oc_signs, od_signs, .func (PySem.W.fnOf "_law_signs" "_law_signs" (defArgs s_signs) (defBody s_signs) (defScope s_signs) .none kV_signs dc_signs pm_signs an_signs cd_signs ct_signs), sl_signs⟩)
    (c_signs : PySem.W.codeIn K cd_signs "_law_signs" = true)
    (k_signs : PySem.W.keepIn K (.ref f_signs) = true)
    (a_part : PySem.W.nsIn K mainGlobals "_law_part" = some (some (.ref f_part)))
    (l_part : K.lookup f_part = some ⟨oc_part, od_part, .func (PySem.W.fnOf "_law_part" "_law_part" (defArgs s_part) (defBody s_part) (defScope s_part) .none kV_part dc_part pm_part an_part cd_part ct_part), sl_part⟩)
    (c_part : PySem.W.codeIn K cd_part "_law_part" = true)
    (k_part : PySem.W.keepIn K (.ref f_part) = true)
    (a_lparts : PySem.W.nsIn K mainGlobals "_law_parts" = some (some (.ref f_lparts)))
    (l_lparts : K.lookup f_lparts = some ⟨oc_lparts, od_lparts, .func (PySem.W.fnOf "_law_parts" "_law_parts" (defArgs s_lparts) (defBody s_lparts) (defScope s_lparts) .none kV_lparts dc_lparts pm_lparts an_lparts cd_lparts ct_lparts), sl_lparts⟩)
    (c_lparts : PySem.W.codeIn K cd_lparts "_law_parts" = true)
    (k_lparts : PySem.W.keepIn K (.ref f_lparts) = true)
    (a_kept : PySem.W.nsIn K mainGlobals "_law_kept" = some (some (.ref f_kept)))
    (l_kept : K.lookup f_kept = some ⟨oc_kept, od_kept, .func (PySem.W.fnOf "_law_kept" "_law_kept" (defArgs s_kept) (defBody s_kept) (defScope s_kept) .none kV_kept dc_kept pm_kept an_kept cd_kept ct_kept), sl_kept⟩)
    (c_kept : PySem.W.codeIn K cd_kept "_law_kept" = true)
    (k_kept : PySem.W.keepIn K (.ref f_kept) = true)
    (a_called : PySem.W.nsIn K mainGlobals "_law_called" = some (some (.ref f_called)))
    (l_called : K.lookup f_called = some ⟨oc_called, od_called, .func (PySem.W.fnOf "_law_called" "_law_called" (defArgs s_called) (defBody s_called) (defScope s_called) .none kV_called dc_called pm_called an_called cd_called ct_called), sl_called⟩)
    (c_called : PySem.W.codeIn K cd_called "_law_called" = true)
    (k_called : PySem.W.keepIn K (.ref f_called) = true)
    (a_tells : PySem.W.nsIn K mainGlobals "_law_tells" = some (some (.ref f_tells)))
    (l_tells : K.lookup f_tells = some ⟨oc_tells, od_tells, .func (PySem.W.fnOf "_law_tells" "_law_tells" (defArgs s_tells) (defBody s_tells) (defScope s_tells) .none kV_tells dc_tells pm_tells an_tells cd_tells ct_tells), sl_tells⟩)
    (c_tells : PySem.W.codeIn K cd_tells "_law_tells" = true)
    (k_tells : PySem.W.keepIn K (.ref f_tells) = true)
    (a_right : PySem.W.nsIn K mainGlobals "_law_right" = some (some (.ref f_right)))
    (l_right : K.lookup f_right = some ⟨oc_right, od_right, .func (PySem.W.fnOf "_law_right" "_law_right" (defArgs s_right) (defBody s_right) (defScope s_right) .none kV_right dc_right pm_right an_right cd_right ct_right), sl_right⟩)
    (c_right : PySem.W.codeIn K cd_right "_law_right" = true)
    (k_right : PySem.W.keepIn K (.ref f_right) = true)
    (a_law : PySem.W.nsIn K mainGlobals "law" = some (some (.ref f_law)))
    (l_law : K.lookup f_law = some ⟨oc_law, od_law, .func (PySem.W.fnOf "law" "law" (defArgs s_law) (defBody s_law) (defScope s_law) .none kV_law dc_law pm_law an_law cd_law ct_law), sl_law⟩)
    (c_law : PySem.W.codeIn K cd_law "law" = true)
    (k_law : PySem.W.keepIn K (.ref f_law) = true)
    (aC : PySem.W.nsIn K mainGlobals "Cutter" = some (some (.ref C)))
    (C1 : PySem.W.makesIn K C = true)
    (C2 : PySem.W.keepIn K (.ref C) = true)
    (C3 : PySem.W.plainGet K C Str.empty = true)
    (C4 : PySem.W.hasDictIn K C = true)
    (C5 : PySem.W.plainOver K C = true)
    (C6 : PySem.W.findIn K (.ref C) "__setattr__" = some (some (.builtin "object.__setattr__")))
    (C7 : PySem.W.findIn K (.ref C) "_parts" = some none)
    (C8 : PySem.W.findIn K (.ref C) "_table" = some none)
    (C8k : PySem.W.findIn K (.ref C) "_keeps_all" = some none)
    (C9 : PySem.W.findIn K (.ref C) "__class__" = some (some (.builtin "object.__class__")))
    (C10 : PySem.W.specialIn K (.builtin "object.__class__") "__get__" = some (some (.builtin "getset_descriptor.__get__")))
    (C11 : PySem.W.takesIn K (.builtin "object.__class__") = some true)
    (C12 : PySem.W.mroIn K C (.type "object") = some true)
    (C13 : PySem.W.findIn K (.ref C) "__ne__" = some (some (.builtin "object.__ne__")))
    (C14 : PySem.W.readsIn K C (.type "type") = true)
    (C15 : PySem.W.specialIn K (.ref C) "__getattribute__" = some (some (.builtin "type.__getattribute__")))
    (t_init : PySem.W.findIn K (.ref C) "__init__" = some (some (.ref f_init)))
    (n_init : PySem.W.isFn K (.ref f_init) = true)
    (l_init : K.lookup f_init = some ⟨oc_init, od_init, .func (PySem.W.fnOf "__init__" "Cutter.__init__" (defArgs s_init) (defBody s_init) (defScope s_init) .none kV_init dc_init pm_init an_init cd_init ct_init), sl_init⟩)
    (c_init : PySem.W.codeIn K cd_init "Cutter.__init__" = true)
    (k_init : PySem.W.keepIn K (.ref f_init) = true)
    (t_of : PySem.W.findCls K (.ref C) (.type "type") "of" = some (.get (.builtin "classmethod.__get__") (.ref p_of) .none (.ref C)))
    (r_of : PySem.W.recIn K p_of "classmethod" = some (.ref f_of :: rest_of))
    (i_of : PySem.W.fnIn K f_of = true)
    (l_of : K.lookup f_of = some ⟨oc_of, od_of, .func (PySem.W.fnOf "of" "Cutter.of" (defArgs s_of) (defBody s_of) (defScope s_of) .none kV_of dc_of pm_of an_of cd_of ct_of), sl_of⟩)
    (c_of : PySem.W.codeIn K cd_of "Cutter.of" = true)
    (k_of : PySem.W.keepIn K (.ref f_of) = true)
    (t_parts : PySem.W.findIn K (.ref C) "parts" = some (some (.ref p_parts)))
    (g_parts : PySem.W.specialIn K (.ref p_parts) "__get__" = some (some (.builtin "property.__get__")))
    (u_parts : PySem.W.takesIn K (.ref p_parts) = some true)
    (r_parts : PySem.W.recIn K p_parts "property" = some (.ref f_parts :: rest_parts))
    (l_parts : K.lookup f_parts = some ⟨oc_parts, od_parts, .func (PySem.W.fnOf "parts" "Cutter.parts" (defArgs s_parts) (defBody s_parts) (defScope s_parts) .none kV_parts dc_parts pm_parts an_parts cd_parts ct_parts), sl_parts⟩)
    (c_parts : PySem.W.codeIn K cd_parts "Cutter.parts" = true)
    (k_parts : PySem.W.keepIn K (.ref f_parts) = true)
    (t_keeps_all : PySem.W.findIn K (.ref C) "keeps_all" = some (some (.ref p_keeps_all)))
    (g_keeps_all : PySem.W.specialIn K (.ref p_keeps_all) "__get__" = some (some (.builtin "property.__get__")))
    (u_keeps_all : PySem.W.takesIn K (.ref p_keeps_all) = some true)
    (r_keeps_all : PySem.W.recIn K p_keeps_all "property" = some (.ref f_keeps_all :: rest_keeps_all))
    (l_keeps_all : K.lookup f_keeps_all = some ⟨oc_keeps_all, od_keeps_all, .func (PySem.W.fnOf "keeps_all" "Cutter.keeps_all" (defArgs s_keeps_all) (defBody s_keeps_all) (defScope s_keeps_all) .none kV_keeps_all dc_keeps_all pm_keeps_all an_keeps_all cd_keeps_all ct_keeps_all), sl_keeps_all⟩)
    (c_keeps_all : PySem.W.codeIn K cd_keeps_all "Cutter.keeps_all" = true)
    (k_keeps_all : PySem.W.keepIn K (.ref f_keeps_all) = true)
    (t_callc : PySem.W.findIn K (.ref C) "__call__" = some (some (.ref f_callc)))
    (n_callc : PySem.W.isFn K (.ref f_callc) = true)
    (i_callc : PySem.W.fnIn K f_callc = true)
    (l_callc : K.lookup f_callc = some ⟨oc_callc, od_callc, .func (PySem.W.fnOf "__call__" "Cutter.__call__" (defArgs s_callc) (defBody s_callc) (defScope s_callc) .none kV_callc dc_callc pm_callc an_callc cd_callc ct_callc), sl_callc⟩)
    (c_callc : PySem.W.codeIn K cd_callc "Cutter.__call__" = true)
    (k_callc : PySem.W.keepIn K (.ref f_callc) = true)
    (t_places : PySem.W.findIn K (.ref C) "places" = some (some (.ref f_places)))
    (n_places : PySem.W.isFn K (.ref f_places) = true)
    (l_places : K.lookup f_places = some ⟨oc_places, od_places, .func (PySem.W.fnOf "places" "Cutter.places" (defArgs s_places) (defBody s_places) (defScope s_places) .none kV_places dc_places pm_places an_places cd_places ct_places), sl_places⟩)
    (c_places : PySem.W.codeIn K cd_places "Cutter.places" = true)
    (k_places : PySem.W.keepIn K (.ref f_places) = true)
    (t_lenc : PySem.W.findIn K (.ref C) "__len__" = some (some (.ref f_lenc)))
    (n_lenc : PySem.W.isFn K (.ref f_lenc) = true)
    (l_lenc : K.lookup f_lenc = some ⟨oc_lenc, od_lenc, .func (PySem.W.fnOf "__len__" "Cutter.__len__" (defArgs s_lenc) (defBody s_lenc) (defScope s_lenc) .none kV_lenc dc_lenc pm_lenc an_lenc cd_lenc ct_lenc), sl_lenc⟩)
    (c_lenc : PySem.W.codeIn K cd_lenc "Cutter.__len__" = true)
    (k_lenc : PySem.W.keepIn K (.ref f_lenc) = true)
    (t_eqc : PySem.W.findIn K (.ref C) "__eq__" = some (some (.ref f_eqc)))
    (n_eqc : PySem.W.isFn K (.ref f_eqc) = true)
    (l_eqc : K.lookup f_eqc = some ⟨oc_eqc, od_eqc, .func (PySem.W.fnOf "__eq__" "Cutter.__eq__" (defArgs s_eqc) (defBody s_eqc) (defScope s_eqc) .none kV_eqc dc_eqc pm_eqc an_eqc cd_eqc ct_eqc), sl_eqc⟩)
    (c_eqc : PySem.W.codeIn K cd_eqc "Cutter.__eq__" = true)
    (k_eqc : PySem.W.keepIn K (.ref f_eqc) = true)
    (t_strc : PySem.W.findIn K (.ref C) "__str__" = some (some (.ref f_strc)))
    (n_strc : PySem.W.isFn K (.ref f_strc) = true)
    (l_strc : K.lookup f_strc = some ⟨oc_strc, od_strc, .func (PySem.W.fnOf "__str__" "Cutter.__str__" (defArgs s_strc) (defBody s_strc) (defScope s_strc) .none kV_strc dc_strc pm_strc an_strc cd_strc ct_strc), sl_strc⟩)
    (c_strc : PySem.W.codeIn K cd_strc "Cutter.__str__" = true)
    (k_strc : PySem.W.keepIn K (.ref f_strc) = true)
    (z_len : PySem.W.nsIn K mainGlobals "len" = some none)
    (z_int : PySem.W.nsIn K mainGlobals "int" = some none)
    (z_abs : PySem.W.nsIn K mainGlobals "abs" = some none)
    (z_max : PySem.W.nsIn K mainGlobals "max" = some none)
    (z_min : PySem.W.nsIn K mainGlobals "min" = some none)
    (z_range : PySem.W.nsIn K mainGlobals "range" = some none)
    (z_all : PySem.W.nsIn K mainGlobals "all" = some none)
    (z_isinstance : PySem.W.nsIn K mainGlobals "isinstance" = some none)
    (z_str : PySem.W.nsIn K mainGlobals "str" = some none)
    (z_repr : PySem.W.nsIn K mainGlobals "repr" = some none)
    (z_bool : PySem.W.nsIn K mainGlobals "bool" = some none)
    (z_list : PySem.W.nsIn K mainGlobals "list" = some none)
    (z_tuple : PySem.W.nsIn K mainGlobals "tuple" = some none)
    (z_enumerate : PySem.W.nsIn K mainGlobals "enumerate" = some none)
    (z_zip : PySem.W.nsIn K mainGlobals "zip" = some none)
    (z_dict : PySem.W.nsIn K mainGlobals "dict" = some none)
    (G_MAX_PARTS : PySem.W.nsIn K mainGlobals "MAX_PARTS" = some (some (.int 4 t_MAX_PARTS)))
    (G_MAX_ROW : PySem.W.nsIn K mainGlobals "MAX_ROW" = some (some (.int 1000 t_MAX_ROW)))
    (G_KEEP_ALL : PySem.W.nsIn K mainGlobals "KEEP_ALL" = some (some (.str "all" t_KEEP_ALL)))
    (G_DOTS : PySem.W.nsIn K mainGlobals "DOTS" = some (some (.str ".." t_DOTS)))
    (G_MAX_FRONT : PySem.W.nsIn K mainGlobals "MAX_FRONT" = some (some (.int 2 t_MAX_FRONT)))
    (G_MAX_BACK : PySem.W.nsIn K mainGlobals "MAX_BACK" = some (some (.int 3 t_MAX_BACK)))
    (G_REACH : PySem.W.nsIn K mainGlobals "REACH" = some (some (.int 5 t_REACH))) :
    ∀ base : Heap, K.In base → base.Ns mainGlobals mg → FnG l.prog w K mg base CX0 10 fa (spLaw K) := by
  have e := hfa.symm.trans (PySem.W.mg_of X G a_law)
  cases e
  have Z : Zs mg := ⟨PySem.W.mg_none_of X G z_len, PySem.W.mg_none_of X G z_int, PySem.W.mg_none_of X G z_abs, PySem.W.mg_none_of X G z_max, PySem.W.mg_none_of X G z_min, PySem.W.mg_none_of X G z_range, PySem.W.mg_none_of X G z_all, PySem.W.mg_none_of X G z_isinstance, PySem.W.mg_none_of X G z_str, PySem.W.mg_none_of X G z_repr, PySem.W.mg_none_of X G z_bool, PySem.W.mg_none_of X G z_list, PySem.W.mg_none_of X G z_tuple, PySem.W.mg_none_of X G z_enumerate, PySem.W.mg_none_of X G z_zip, PySem.W.mg_none_of X G z_dict, ⟨_, PySem.W.mg_of X G G_MAX_PARTS⟩, ⟨_, PySem.W.mg_of X G G_MAX_ROW⟩, ⟨_, PySem.W.mg_of X G G_KEEP_ALL⟩, ⟨_, PySem.W.mg_of X G G_DOTS⟩, ⟨_, PySem.W.mg_of X G G_MAX_FRONT⟩, ⟨_, PySem.W.mg_of X G G_MAX_BACK⟩, ⟨_, PySem.W.mg_of X G G_REACH⟩⟩
  have F_is_whole := fun_mk (st := s_is_whole) l_is_whole c_is_whole k_is_whole
  have D_is_whole : Df K mg "is_whole" s_is_whole P_is_whole f_is_whole _ := ⟨F_is_whole, F_is_whole.binds (ps := P_is_whole) fun _ _ _ _ _ _ us hl => match us, hl with | [_], _ => rfl, PySem.W.mg_of X G a_is_whole⟩
  have F_is_part := fun_mk (st := s_is_part) l_is_part c_is_part k_is_part
  have D_is_part : Df K mg "is_part" s_is_part P_is_part f_is_part _ := ⟨F_is_part, F_is_part.binds (ps := P_is_part) fun _ _ _ _ _ _ us hl => match us, hl with | [_], _ => rfl, PySem.W.mg_of X G a_is_part⟩
  have F_check_parts := fun_mk (st := s_check_parts) l_check_parts c_check_parts k_check_parts
  have D_check_parts : Df K mg "check_parts" s_check_parts P_check_parts f_check_parts _ := ⟨F_check_parts, F_check_parts.binds (ps := P_check_parts) fun _ _ _ _ _ _ us hl => match us, hl with | [_], _ => rfl, PySem.W.mg_of X G a_check_parts⟩
  have F_has_plus := fun_mk (st := s_has_plus) l_has_plus c_has_plus k_has_plus
  have D_has_plus : Df K mg "has_plus" s_has_plus P_has_plus f_has_plus _ := ⟨F_has_plus, F_has_plus.binds (ps := P_has_plus) fun _ _ _ _ _ _ us hl => match us, hl with | [_, _], _ => rfl, PySem.W.mg_of X G a_has_plus⟩
  have F_part_places := fun_mk (st := s_part_places) l_part_places c_part_places k_part_places
  have D_part_places : Df K mg "part_places" s_part_places P_part_places f_part_places _ := ⟨F_part_places, F_part_places.binds (ps := P_part_places) fun _ _ _ _ _ _ us hl => match us, hl with | [_, _], _ => rfl, PySem.W.mg_of X G a_part_places⟩
  have F_kept_places := fun_mk (st := s_kept_places) l_kept_places c_kept_places k_kept_places
  have D_kept_places : Df K mg "kept_places" s_kept_places P_kept_places f_kept_places _ := ⟨F_kept_places, F_kept_places.binds (ps := P_kept_places) fun _ _ _ _ _ _ us hl => match us, hl with | [_, _], _ => rfl, PySem.W.mg_of X G a_kept_places⟩
  have F_table_of := fun_mk (st := s_table_of) l_table_of c_table_of k_table_of
  have D_table_of : Df K mg "table_of" s_table_of P_table_of f_table_of _ := ⟨F_table_of, F_table_of.binds (ps := P_table_of) fun _ _ _ _ _ _ us hl => match us, hl with | [_], _ => rfl, PySem.W.mg_of X G a_table_of⟩
  have F_keep_all := fun_mk (st := s_keep_all) l_keep_all c_keep_all k_keep_all
  have D_keep_all : Df K mg "keep_all" s_keep_all P_keep_all f_keep_all _ := ⟨F_keep_all, F_keep_all.binds (ps := P_keep_all) fun _ _ _ _ _ _ us hl => match us, hl with | [_], _ => rfl, PySem.W.mg_of X G a_keep_all⟩
  have F_dice := fun_mk (st := s_dice) l_dice c_dice k_dice
  have D_dice : Df K mg "_law_dice" s_dice P_dice f_dice _ := ⟨F_dice, F_dice.binds (ps := P_dice) fun _ _ _ _ _ _ us hl => match us, hl with | [_, _], _ => rfl, PySem.W.mg_of X G a_dice⟩
  have F_roll := fun_mk (st := s_roll) l_roll c_roll k_roll
  have D_roll : Df K mg "_law_roll" s_roll P_roll f_roll _ := ⟨F_roll, F_roll.binds (ps := P_roll) fun _ _ _ _ _ _ us hl => match us, hl with | [_, _], _ => rfl, PySem.W.mg_of X G a_roll⟩
  have F_one_of := fun_mk (st := s_one_of) l_one_of c_one_of k_one_of
  have D_one_of : Df K mg "_law_one_of" s_one_of P_one_of f_one_of _ := ⟨F_one_of, F_one_of.binds (ps := P_one_of) fun _ _ _ _ _ _ us hl => match us, hl with | [_, _], _ => rfl, PySem.W.mg_of X G a_one_of⟩
  have F_signs := fun_mk (st := s_signs) l_signs c_signs k_signs
  have D_signs : Df K mg "_law_signs" s_signs P_signs f_signs _ := ⟨F_signs, F_signs.binds (ps := P_signs) fun _ _ _ _ _ _ us hl => match us, hl with | [_, _], _ => rfl, PySem.W.mg_of X G a_signs⟩
  have F_part := fun_mk (st := s_part) l_part c_part k_part
  have D_part : Df K mg "_law_part" s_part P_part f_part _ := ⟨F_part, F_part.binds (ps := P_part) fun _ _ _ _ _ _ us hl => match us, hl with | [_], _ => rfl, PySem.W.mg_of X G a_part⟩
  have F_lparts := fun_mk (st := s_lparts) l_lparts c_lparts k_lparts
  have D_lparts : Df K mg "_law_parts" s_lparts P_lparts f_lparts _ := ⟨F_lparts, F_lparts.binds (ps := P_lparts) fun _ _ _ _ _ _ us hl => match us, hl with | [_, _], _ => rfl, PySem.W.mg_of X G a_lparts⟩
  have F_kept := fun_mk (st := s_kept) l_kept c_kept k_kept
  have D_kept : Df K mg "_law_kept" s_kept P_kept f_kept _ := ⟨F_kept, F_kept.binds (ps := P_kept) fun _ _ _ _ _ _ us hl => match us, hl with | [_, _], _ => rfl, PySem.W.mg_of X G a_kept⟩
  have F_called := fun_mk (st := s_called) l_called c_called k_called
  have D_called : Df K mg "_law_called" s_called P_called f_called _ := ⟨F_called, F_called.binds (ps := P_called) fun _ _ _ _ _ _ us hl => match us, hl with | [_], _ => rfl, PySem.W.mg_of X G a_called⟩
  have F_tells := fun_mk (st := s_tells) l_tells c_tells k_tells
  have D_tells : Df K mg "_law_tells" s_tells P_tells f_tells _ := ⟨F_tells, F_tells.binds (ps := P_tells) fun _ _ _ _ _ _ us hl => match us, hl with | [_, _, _], _ => rfl, PySem.W.mg_of X G a_tells⟩
  have F_right := fun_mk (st := s_right) l_right c_right k_right
  have D_right : Df K mg "_law_right" s_right P_right f_right _ := ⟨F_right, F_right.binds (ps := P_right) fun _ _ _ _ _ _ us hl => match us, hl with | [_], _ => rfl, PySem.W.mg_of X G a_right⟩
  have F_law := fun_mk (st := s_law) l_law c_law k_law
  have D_law : Df K mg "law" s_law P_law fa _ := ⟨F_law, F_law.binds (ps := P_law) fun _ _ _ _ _ _ us hl => match us, hl with | [_], _ => rfl, PySem.W.mg_of X G a_law⟩
  have F_init := fun_mk (st := s_init) l_init c_init k_init
  have F_of := fun_mk (st := s_of) l_of c_of k_of
  have D_of : Dm K "of" "Cutter.of" s_of P_of f_of _ := ⟨F_of, F_of.binds (ps := P_of) fun _ _ _ _ _ _ us hl => match us, hl with | [_, _], _ => rfl⟩
  have F_parts := fun_mk (st := s_parts) l_parts c_parts k_parts
  have D_parts : Dm K "parts" "Cutter.parts" s_parts P_parts f_parts _ := ⟨F_parts, F_parts.binds (ps := P_parts) fun _ _ _ _ _ _ us hl => match us, hl with | [_], _ => rfl⟩
  have F_keeps_all := fun_mk (st := s_keeps_all) l_keeps_all c_keeps_all k_keeps_all
  have D_keeps_all : Dm K "keeps_all" "Cutter.keeps_all" s_keeps_all P_keeps_all f_keeps_all _ := ⟨F_keeps_all, F_keeps_all.binds (ps := P_keeps_all) fun _ _ _ _ _ _ us hl => match us, hl with | [_], _ => rfl⟩
  have F_callc := fun_mk (st := s_callc) l_callc c_callc k_callc
  have D_callc : Dm K "__call__" "Cutter.__call__" s_callc P_callc f_callc _ := ⟨F_callc, F_callc.binds (ps := P_callc) fun _ _ _ _ _ _ us hl => match us, hl with | [_, _], _ => rfl⟩
  have F_places := fun_mk (st := s_places) l_places c_places k_places
  have D_places : Dm K "places" "Cutter.places" s_places P_places f_places _ := ⟨F_places, F_places.binds (ps := P_places) fun _ _ _ _ _ _ us hl => match us, hl with | [_, _], _ => rfl⟩
  have F_lenc := fun_mk (st := s_lenc) l_lenc c_lenc k_lenc
  have D_lenc : Dm K "__len__" "Cutter.__len__" s_lenc P_lenc f_lenc _ := ⟨F_lenc, F_lenc.binds (ps := P_lenc) fun _ _ _ _ _ _ us hl => match us, hl with | [_], _ => rfl⟩
  have F_eqc := fun_mk (st := s_eqc) l_eqc c_eqc k_eqc
  have D_eqc : Dm K "__eq__" "Cutter.__eq__" s_eqc P_eqc f_eqc _ := ⟨F_eqc, F_eqc.binds (ps := P_eqc) fun _ _ _ _ _ _ us hl => match us, hl with | [_, _], _ => rfl⟩
  have F_strc := fun_mk (st := s_strc) l_strc c_strc k_strc
  have D_strc : Dm K "__str__" "Cutter.__str__" s_strc P_strc f_strc _ := ⟨F_strc, F_strc.binds (ps := P_strc) fun _ _ _ _ _ _ us hl => match us, hl with | [_], _ => rfl⟩
  intro base _ _
  have cl : Cls K C := ⟨C3, C4, C5, C6⟩
  have c : CK K C := ⟨cl, C7, C8, C8k, C9, C10, C11, C12, if_pos (beq_self_eq_true _)⟩
  have hC : mg "Cutter" = some (.ref C) := PySem.W.mg_of X G aC
  have C_whole := D_is_whole.cl (P := l.prog) (w := w) (base := base) (ok_whole Z D_is_whole)
  have C_plus := D_has_plus.cl (P := l.prog) (w := w) (base := base) (ok_plus Z D_has_plus)
  have C_pplaces := D_part_places.cl (P := l.prog) (w := w) (base := base) (ok_places Z D_part_places C_plus)
  have C_kplaces := D_kept_places.cl (P := l.prog) (w := w) (base := base) (ok_kept Z D_kept_places C_pplaces)
  have C_table := D_table_of.cl (P := l.prog) (w := w) (base := base) (ok_table Z D_table_of C_kplaces)
  have C_ispart := D_is_part.cl (P := l.prog) (w := w) (base := base) (ok_is_part Z D_is_part)
  have C_check := D_check_parts.cl (P := l.prog) (w := w) (base := base) (ok_check Z D_check_parts C_ispart)
  have C_keepall := D_keep_all.cl (P := l.prog) (w := w) (base := base) (ok_keep_all Z D_keep_all)
  have FI := ok_init (base := base) (P := l.prog) (w := w) Z F_init c C_check C_table C_keepall
  have M : Mk K C f_init := ⟨C1, t_init, n_init, C2⟩
  have M_parts : Cm l.prog w K mg base 1 f_parts _ P_parts (spParts C) := ⟨okm_parts Z D_parts c, D_parts.b⟩
  have M_keeps : Cm l.prog w K mg base 1 f_keeps_all _ P_keeps_all (spKeeps C) := ⟨okm_keeps_all Z D_keeps_all c, D_keeps_all.b⟩
  have pr_parts : PropOf K C "parts" p_parts f_parts := ⟨t_parts, g_parts, u_parts, _, r_parts⟩
  have pr_keeps : PropOf K C "keeps_all" p_keeps_all f_keeps_all := ⟨t_keeps_all, g_keeps_all, u_keeps_all, _, r_keeps_all⟩
  have M_places : Cm l.prog w K mg base 3 f_places _ P_places (spCutPlaces C) := ⟨okm_places Z D_places c C_whole pr_keeps M_keeps, D_places.b⟩
  have me_places : Meth K C "places" f_places := ⟨t_places, n_places, k_places⟩
  have F_call := D_callc.raw (okm_callc (P := l.prog) (w := w) (base := base) Z D_callc c me_places M_places)
  have cO : StX.CallO K C f_callc := ⟨t_callc, n_callc, i_callc⟩
  have F_len := D_lenc.raw (okm_lenc (P := l.prog) (w := w) (base := base) Z D_lenc c)
  have F_eq := D_eqc.raw (okm_eqc (P := l.prog) (w := w) (base := base) Z D_eqc c hC)
  have F_str := D_strc.raw (okm_strc (P := l.prog) (w := w) (base := base) Z D_strc c)
  have F_of := D_of.raw (okm_of (P := l.prog) (w := w) (base := base) Z D_of M FI)
  have C_roll := D_roll.cl (P := l.prog) (w := w) (base := base) (ok_roll Z D_roll)
  have C_one := D_one_of.cl (P := l.prog) (w := w) (base := base) (ok_oneL Z D_one_of C_roll)
  have C_signs := D_signs.cl (P := l.prog) (w := w) (base := base) (ok_signs Z D_signs C_roll C_one)
  have C_part := D_part.cl (P := l.prog) (w := w) (base := base) (ok_part Z D_part C_roll C_one C_signs)
  have C_parts := D_lparts.cl (P := l.prog) (w := w) (base := base) (ok_lparts Z D_lparts C_one C_part)
  have C_kept := D_kept.cl (P := l.prog) (w := w) (base := base) (ok_lkept Z D_kept)
  have C_called := D_called.cl (P := l.prog) (w := w) (base := base) (ok_called Z D_called hC M FI)
  have C_tells : Cg l.prog w K mg base "_law_tells" 8 f_tells (spTells C) := ⟨ok_tells Z D_tells c C_one C_kept pr_parts M_parts pr_keeps M_keeps cO F_call me_places M_places ⟨t_lenc, n_lenc⟩ F_len ⟨t_strc, n_strc⟩ F_str, D_tells.g, D_tells.kp⟩
  have C_right : Cg l.prog w K mg base "_law_right" 9 f_right spRight := ⟨ok_right Z D_right c hC C_roll C_part C_parts C_called C_tells ⟨C14, C15⟩ ⟨t_of, ⟨_, r_of⟩, i_of⟩ F_of ⟨t_eqc, n_eqc⟩ F_eq ⟨C13, C12⟩, D_right.g, D_right.kp⟩
  exact ok_law Z D_law c hC (D_dice.cl (ok_dice Z D_dice)) C_right M FI cO F_call me_places M_places
end K02
open PySem PySem.W PyProof.Rows
set_option maxHeartbeats 0 in
theorem PySem.Challenge.cw_namedabove_k02_cutters_and_kept_places_holds : PySem.Challenge.rw_namedabove_k02_cutters_and_kept_places.Holds := by
  w_on; o_law; k_head; (case hw => w_witness2)
  k_fill
  refine Ly.walk_ofG (l := PySem.Challenge.rw_namedabove_k02_cutters_and_kept_places) (n := 63) (k := 10) (sp := fun w => K02.spLaw _) rfl (by decide) rfl ⟨rfl, by decide, by decide⟩ (fun w h Y => PySem.W.kIn_of Y) ?F (fun _ _ a ns hl _ hS => ⟨a, ns, rfl, hS, hl, fun _ => rfl⟩)
  case F =>
    intro w mg fa h KX G hmg
    refine' K02.all_mk KX G hmg ?a_is_whole ?l_is_whole ?c_is_whole ?k_is_whole ?a_is_part ?l_is_part ?c_is_part ?k_is_part ?a_check_parts ?l_check_parts ?c_check_parts ?k_check_parts ?a_has_plus ?l_has_plus ?c_has_plus ?k_has_plus ?a_part_places ?l_part_places ?c_part_places ?k_part_places ?a_kept_places ?l_kept_places ?c_kept_places ?k_kept_places ?a_table_of ?l_table_of ?c_table_of ?k_table_of ?a_keep_all ?l_keep_all ?c_keep_all ?k_keep_all ?a_dice ?l_dice ?c_dice ?k_dice ?a_roll ?l_roll ?c_roll ?k_roll ?a_one_of ?l_one_of ?c_one_of ?k_one_of ?a_signs ?l_signs ?c_signs ?k_signs ?a_part ?l_part ?c_part ?k_part ?a_lparts ?l_lparts ?c_lparts ?k_lparts ?a_kept ?l_kept ?c_kept ?k_kept ?a_called ?l_called ?c_called ?k_called ?a_tells ?l_tells ?c_tells ?k_tells ?a_right ?l_right ?c_right ?k_right ?a_law ?l_law ?c_law ?k_law ?aC ?C1 ?C2 ?C3 ?C4 ?C5 ?C6 ?C7 ?C8 ?C8k ?C9 ?C10 ?C11 ?C12 ?C13 ?C14 ?C15 ?t_init ?n_init ?l_init ?c_init ?k_init ?t_of ?r_of ?i_of ?l_of ?c_of ?k_of ?t_parts ?g_parts ?u_parts ?r_parts ?l_parts ?c_parts ?k_parts ?t_keeps_all ?g_keeps_all ?u_keeps_all ?r_keeps_all ?l_keeps_all ?c_keeps_all ?k_keeps_all ?t_callc ?n_callc ?i_callc ?l_callc ?c_callc ?k_callc ?t_places ?n_places ?l_places ?c_places ?k_places ?t_lenc ?n_lenc ?l_lenc ?c_lenc ?k_lenc ?t_eqc ?n_eqc ?l_eqc ?c_eqc ?k_eqc ?t_strc ?n_strc ?l_strc ?c_strc ?k_strc ?z_len ?z_int ?z_abs ?z_max ?z_min ?z_range ?z_all ?z_isinstance ?z_str ?z_repr ?z_bool ?z_list ?z_tuple ?z_enumerate ?z_zip ?z_dict ?G_MAX_PARTS ?G_MAX_ROW ?G_KEEP_ALL ?G_DOTS ?G_MAX_FRONT ?G_MAX_BACK ?G_REACH
    (case a_is_whole => k_is); (case l_is_whole => k_is); (case c_is_whole => k_is); (case k_is_whole => k_is); (case a_is_part => k_is); (case l_is_part => k_is); (case c_is_part => k_is); (case k_is_part => k_is); (case a_check_parts => k_is); (case l_check_parts => k_is); (case c_check_parts => k_is); (case k_check_parts => k_is); (case a_has_plus => k_is); (case l_has_plus => k_is); (case c_has_plus => k_is); (case k_has_plus => k_is); (case a_part_places => k_is); (case l_part_places => k_is); (case c_part_places => k_is); (case k_part_places => k_is); (case a_kept_places => k_is); (case l_kept_places => k_is); (case c_kept_places => k_is); (case k_kept_places => k_is); (case a_table_of => k_is); (case l_table_of => k_is); (case c_table_of => k_is); (case k_table_of => k_is); (case a_keep_all => k_is); (case l_keep_all => k_is); (case c_keep_all => k_is); (case k_keep_all => k_is); (case a_dice => k_is); (case l_dice => k_is); (case c_dice => k_is); (case k_dice => k_is); (case a_roll => k_is); (case l_roll => k_is); (case c_roll => k_is); (case k_roll => k_is); (case a_one_of => k_is); (case l_one_of => k_is); (case c_one_of => k_is); (case k_one_of => k_is); (case a_signs => k_is); (case l_signs => k_is); (case c_signs => k_is); (case k_signs => k_is); (case a_part => k_is); (case l_part => k_is); (case c_part => k_is); (case k_part => k_is); (case a_lparts => k_is); (case l_lparts => k_is); (case c_lparts => k_is); (case k_lparts => k_is); (case a_kept => k_is); (case l_kept => k_is); (case c_kept => k_is); (case k_kept => k_is); (case a_called => k_is); (case l_called => k_is); (case c_called => k_is); (case k_called => k_is); (case a_tells => k_is); (case l_tells => k_is); (case c_tells => k_is); (case k_tells => k_is); (case a_right => k_is); (case l_right => k_is); (case c_right => k_is); (case k_right => k_is); (case a_law => k_is); (case l_law => k_is); (case c_law => k_is); (case k_law => k_is); (case aC => k_is); (case C1 => k_is); (case C2 => k_is); (case C3 => k_is); (case C4 => k_is); (case C5 => k_is); (case C6 => k_is); (case C7 => k_is); (case C8 => k_is); (case C8k => k_is); (case C9 => k_is); (case C10 => k_is); (case C11 => k_is); (case C12 => k_is); (case C13 => k_is); (case C14 => k_is); (case C15 => k_is); (case t_init => k_is); (case n_init => k_is); (case l_init => k_is); (case c_init => k_is); (case k_init => k_is); (case t_of => k_is); (case r_of => k_is); (case i_of => k_is); (case l_of => k_is); (case c_of => k_is); (case k_of => k_is); (case t_parts => k_is); (case g_parts => k_is); (case u_parts => k_is); (case r_parts => k_is); (case l_parts => k_is); (case c_parts => k_is); (case k_parts => k_is); (case t_keeps_all => k_is); (case g_keeps_all => k_is); (case u_keeps_all => k_is); (case r_keeps_all => k_is); (case l_keeps_all => k_is); (case c_keeps_all => k_is); (case k_keeps_all => k_is); (case t_callc => k_is); (case n_callc => k_is); (case i_callc => k_is); (case l_callc => k_is); (case c_callc => k_is); (case k_callc => k_is); (case t_places => k_is); (case n_places => k_is); (case l_places => k_is); (case c_places => k_is); (case k_places => k_is); (case t_lenc => k_is); (case n_lenc => k_is); (case l_lenc => k_is); (case c_lenc => k_is); (case k_lenc => k_is); (case t_eqc => k_is); (case n_eqc => k_is); (case l_eqc => k_is); (case c_eqc => k_is); (case k_eqc => k_is); (case t_strc => k_is); (case n_strc => k_is); (case l_strc => k_is); (case c_strc => k_is); (case k_strc => k_is); (case z_len => k_is); (case z_int => k_is); (case z_abs => k_is); (case z_max => k_is); (case z_min => k_is); (case z_range => k_is); (case z_all => k_is); (case z_isinstance => k_is); (case z_str => k_is); (case z_repr => k_is); (case z_bool => k_is); (case z_list => k_is); (case z_tuple => k_is); (case z_enumerate => k_is); (case z_zip => k_is); (case z_dict => k_is); (case G_MAX_PARTS => k_is); (case G_MAX_ROW => k_is); (case G_KEEP_ALL => k_is); (case G_DOTS => k_is); (case G_MAX_FRONT => k_is); (case G_MAX_BACK => k_is); (case G_REACH => k_is)
