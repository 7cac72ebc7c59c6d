import PyProof.Rows.All
import Wide.All
import OpenK.AllK
import Wide.FinOn
import HandS.ForMost
import HandS.IsInst
import HandS.Style
import HandS.Wide
import HandS.Star
import HandS.Property
import HandS.ClsMeth
import HandS.OwnEq
import HandS.Conv
import KE.GoesEnum
import HandS.RaiseMore
import HandS.Flow
import HandS.TryOnly
import HandS.Zip
import HandS.ExcInit
import HandS.ExcField
import HandS.WordsExc
import KE.KExcInit
import HandS.TupAny
import PySem.Challenge.RW_namedabove_k04_cutters_one_after_another
set_option Elab.async false
set_option linter.all false
set_option maxRecDepth 100000
set_option maxHeartbeats 4000000
/-! own layer: flat rules, what a list of three numbers keeps -/
namespace Ly
open PySem PySem.Spec PyProof.Rows L2

/-- all but d stands -/
def Chg (d : Addr) (H H' : Hp) : Prop := ∀ x o, x ≠ d → H x = some o → H' x = some o
theorem Chg.refl (d : Addr) (H : Hp) : Chg d H H := fun _ _ _ h => h
theorem Chg.trans {d : Addr} {H H1 H2 : Hp} (a : Chg d H H1) (b : Chg d H1 H2) : Chg d H H2 := fun x o n h => b x o n (a x o n h)
theorem Chg.of {d : Addr} {H H' : Hp} (s : Same H H') : Chg d H H' := fun x o _ h => s x o h
theorem Chg.upd {d : Addr} {H H' : Hp} {o : HO} (c : Chg d H H') : Chg d H (upd H' d o) := fun x u n h => by
  rw [upd_ne n]
  exact c x u n h
theorem same_new {H : Hp} {p : Addr} {o : HO} (h : H p = none) : Same H (upd H p o) := fun b x e => by
  rw [upd_ne (ne_of_none e h)]
  exact e
theorem Chg.new {d p : Addr} {H H' : Hp} {o : HO} (c : Chg d H H') (h : H' p = none) : Chg d H (L2.upd H' p o) := c.trans (.of (same_new h))

/-! ### rules with flat readings -/
section
variable {X : Cx}
theorem call_intI : CallR X (.type "int") (fun xs H Q => ∃ i, xs = [.int i] ∧ Q (.int i) H) := fun pins s σ H xs us Q I r ⟨i, e, q⟩ => call_int1 pins s σ H xs us Q I r (.inl ⟨i, e, q⟩)
theorem call_intB : CallR X (.type "int") (fun xs H Q => ∃ b : Bool, xs = [.bl b] ∧ Q (.int (if b then 1 else 0)) H) := fun pins s σ H xs us Q I r ⟨i, e, q⟩ => call_int1 pins s σ H xs us Q I r (.inr ⟨i, e, q⟩)
theorem call_lenL : CallR X (.builtin "len") (fun xs H Q => ∃ p ys, xs = [.ref p] ∧ SqL X.K H p ys ∧ Q (.int ys.length) H) := fun pins s σ H xs us Q I r ⟨p, ys, e, h, q⟩ => call_len_seq pins s σ H xs us Q I r ⟨p, ys, e, .inl h, q⟩
theorem call_lenT : CallR X (.builtin "len") (fun xs H Q => ∃ p ys, xs = [.ref p] ∧ SqT X.K H p ys ∧ Q (.int ys.length) H) := fun pins s σ H xs us Q I r ⟨p, ys, e, h, q⟩ => call_len_seq pins s σ H xs us Q I r ⟨p, ys, e, .inr h, q⟩
/-- powers of great numbers -/
def CPw (i j : Int) : Prop := 0 ≤ j ∧ (Builtin.Int.intBits i : Int) * j ≤ 2 ^ 27
theorem op_powW : OpR X (binaryOp .Pow) (rI CPw fun i j => .int (i ^ j.toNat)) := opI fun _ _ _ _ _ _ _ hc q => pow_int hc.1 hc.2 q
theorem call_reprB : CallR X (.builtin "repr") (fun xs H Q => ∃ b : Bool, xs = [.bl b] ∧ Q (.str (if b then "True" else "False")) H) := by
  intro pins s σ H xs us Q I r h
  obtain ⟨b, rfl, q⟩ := h
  obtain ⟨u, rfl, r1⟩ := vals1 r
  cases r1
  exact PySem.P.repr_of_bool ⟨.str (if b then "True" else "False"), H, I.tok _, ⟨_, rfl⟩, q⟩
end

/-! ### the three numbers of the dice -/
structure DB (a b c : Int) : Prop where
  a0 : 0 ≤ a
  aB : a.natAbs < 2 ^ 2000
  b0 : 0 ≤ b
  b1 : b < 2305843009213693951
  c0 : 0 ≤ c
def Dice (H : Hp) (d : Addr) : Prop := ∃ a b c : Int, H d = some (.lst [.int a, .int b, .int c]) ∧ DB a b c
theorem Dice.keep {H H' : Hp} {d : Addr} (s : Same H H') (h : Dice H d) : Dice H' d := by
  obtain ⟨a, b, c, e, D⟩ := h
  exact ⟨a, b, c, s _ _ e, D⟩
theorem Dice.chg {H H' : Hp} {d p : Addr} (s : Chg p H H') (n : d ≠ p) (h : Dice H d) : Dice H' d := by
  obtain ⟨a, b, c, e, D⟩ := h
  exact ⟨a, b, c, s _ _ n e, D⟩
theorem great_ok (x : Int) : 0 ≤ x % ((10 : Int) ^ (60 : Int).toNat) ^ (10 : Int).toNat ∧ (x % ((10 : Int) ^ (60 : Int).toNat) ^ (10 : Int).toNat).natAbs < 2 ^ 2000 := by
  have p : (0 : Int) < ((10 : Int) ^ (60 : Int).toNat) ^ (10 : Int).toNat := by decide +kernel
  have h0 := Int.emod_nonneg x (Int.ne_of_gt p)
  have h1 := Int.emod_lt_of_pos x p
  refine ⟨h0, ?_⟩
  have q : ((10 : Int) ^ (60 : Int).toNat) ^ (10 : Int).toNat < ((2 ^ 2000 : Nat) : Int) := by decide +kernel
  generalize ((10 : Int) ^ (60 : Int).toNat) ^ (10 : Int).toNat = m at *
  generalize (2 ^ 2000 : Nat) = n at *
  omega
theorem less_ok {x y : Int} (hx : 0 ≤ x) (hb : x.natAbs < 2 ^ 2000) (hy : 0 ≤ y) (h : y ≤ x) : y.natAbs < 2 ^ 2000 := by
  generalize (2 ^ 2000 : Nat) = n at *
  omega

/-! ### promises -/
def spDice (K : PySem.W.Frag) : Sp := fun vs H Q _ => ∃ (a : Addr) (ns : List Int) (k : Nat), vs = [.ref a, .int k] ∧ SqL K H a (ns.map V.int) ∧ ns.length ≤ 63 ∧ k < 64 ∧
  ∀ H' p, Same H H' → H p = none → Dice H' p → Q (.ref p) H'
def spRoll : Sp := fun vs H Q _ => ∃ (d : Addr) (n : Int), vs = [.ref d, .int n] ∧ Dice H d ∧ 0 < n ∧ n < 2 ^ 200 ∧ ∀ H' r, Chg d H H' → Dice H' d → 0 ≤ r → r < n → Q (.int r) H'
/-- an item of a list, or a sign of a text -/
def spOneL (K : PySem.W.Frag) : Sp := fun vs H Q _ => ∃ (d a : Addr) (xs : List V), vs = [.ref d, .ref a] ∧ Dice H d ∧ a ≠ d ∧ SqL K H a xs ∧ 0 < xs.length ∧ xs.length < 1000 ∧
  ∀ H' x, Chg d H H' → Dice H' d → x ∈ xs → Q x H'
def spOneS : Sp := fun vs H Q _ => ∃ (d : Addr) (z : Str), vs = [.ref d, .str z] ∧ Dice H d ∧ 0 < z.length ∧ z.length < 1000 ∧
  ∀ H' c, Chg d H H' → Dice H' d → c ∈ z.cps.toList → Q (.str ⟨#[c]⟩) H'
theorem Chg.seq {K : PySem.W.Frag} {H H' : Hp} {d a : Addr} {xs : List V} (e : Chg d H H') (n : a ≠ d) (h : SqL K H a xs) : SqL K H' a xs := by
  rcases h with (h | ⟨o, h⟩) | h
  · exact .inl (.inl (e _ _ n h))
  · exact .inl (.inr ⟨o, e _ _ n h⟩)
  · exact .inr h
end Ly
namespace Ly
open PySem PySem.Spec PyProof.Rows L2
/-- a value with its heap, told by P alone -/
theorem cutE {te : TE} {σ : L2.St} {H : Hp} {Q : VK} (P : V → Hp → Prop) (h : ∀ Q' : VK, (∀ v H', P v H' → Q' v H') → te σ H Q') (k : ∀ v H', P v H' → Q v H') : te σ H Q := h Q k
theorem cutT {te : TT} {σ : L2.St} {H : Hp} {Q : Bool → Hp → Prop} (P : Bool → Hp → Prop) (h : ∀ Q' : Bool → Hp → Prop, (∀ v H', P v H' → Q' v H') → te σ H Q') (k : ∀ v H', P v H' → Q v H') : te σ H Q := h Q k
/-- a def of the top: where it stands, how it is called -/
structure Df (K : PySem.W.Frag) (mg : Str → Option Value) (x : Str) (st : Stmt) (ps : List Str) (f : Addr) (fd : FuncData) : Prop where
  F : Fun K x x st f fd
  b : Binds K fd ps []
  g : mg x = some (.ref f)
theorem Df.kp {K : PySem.W.Frag} {mg : Str → Option Value} {x : Str} {st : Stmt} {ps : List Str} {f : Addr} {fd : FuncData} (D : Df K mg x st ps f fd) : PySem.W.keepIn K (.ref f) = true := D.F.kp
end Ly
namespace Ly
open PySem PySem.Spec PyProof.Rows L2
/-- x = e, its value told by P alone -/
theorem asgS {te : TE} {i : Nat} {t : TS} {D : Ends} {σ : L2.St} {H : Hp} (P : V → Hp → Prop) (h : ∀ Q' : VK, (∀ v H', P v H' → Q' v H') → te σ H Q') (k : ∀ v H', P v H' → t D (σ.set i (some v)) H') : tSeq (tAsg te (gName i)) t D σ H := h _ k
/-- if c: .. told by what holds of the test -/
theorem cutR {te : TE} {D : Ends} {σ : L2.St} {H : Hp} (P : V → Hp → Prop) (h : ∀ Q' : VK, (∀ v H', P v H' → Q' v H') → te σ H Q') (k : ∀ v H', P v H' → D.rt v H') : tRet te D σ H := h _ k
end Ly
namespace Ly
open PySem PySem.Spec PyProof.Rows L2
structure Cl (P : Program) (w : World) (K : PySem.W.Frag) (mg : Str → Option Value) (base : Heap) (x : Str) (k : Nat) (f : Addr) (fd : FuncData) (ps : List Str) (sp : Sp) : Prop where
  ok : FnOk P w K mg base CX0 k f fd ps sp
  g : mg x = some (.ref f)
  kp : PySem.W.keepIn K (.ref f) = true
  b : Binds K fd ps []
theorem Df.cl {P : Program} {w : World} {K : PySem.W.Frag} {mg : Str → Option Value} {base : Heap} {x : Str} {k : Nat} {st : Stmt} {ps : List Str} {f : Addr} {fd : FuncData} {sp : Sp} (D : Df K mg x st ps f fd) (o : FnOk P w K mg base CX0 k f fd ps sp) : Cl P w K mg base x k f fd ps sp := ⟨o, D.g, D.kp, D.b⟩
/-! ### texts of signs -/
theorem str_len (z : Str) : z.cps.toList.length = z.length := by
  show z.cps.toList.length = z.cps.size
  simp
theorem sz1000 {n : Nat} (h : n < 1000) : n ≤ sizeLine := Nat.le_of_lt (small1000 (Nat.le_of_lt h))
/-- the built-in class of a value's type, asked -/
def TyB (K : PySem.W.Frag) (H : Hp) (x : V) (t : String) : Prop := TyX K H x (.type t)
end Ly
namespace Ly
open PySem PySem.Spec PyProof.Rows L2
theorem at_nat {α : Type} {xs : List α} {i : Int} {v : α} (h0 : 0 ≤ i) (h : xs[i.toNat]? = some v) : atI xs i = some v := by
  have e := atI_nat h
  rwa [Int.toNat_of_nonneg h0] at e
end Ly
namespace Ly
open PySem PySem.Spec PyProof.Rows L2
/-- what a comprehension's loop asks of its turns -/
abbrev LcW (J : It) (g : TG) (tt : TT) (te : TE) (vs : List Nat) (σ : L2.St) (H1 : Hp) (D : Addr) (Qd : Hp → Prop) : Prop :=
  ∃ W : Nat → Nat → Hp → Prop, (∃ m, W 0 m (upd H1 D (.lst []))) ∧ (∀ i m H, W i m H → (J.stop i H ∧ Qd H) ∨ (J.go i H ∧ ∃ Nx : Hp → Prop,
    (∀ H', Nx H' → ∃ m', m' < m ∧ W (i + 1) m' H') ∧ (∀ x H', J.yld i H x H' → g x (wipe σ vs) H' fun σ2 H2 => wipe σ2 vs = wipe σ vs ∧
      tt σ2 H2 fun b H3 => if b = true then te σ2 H3 fun y H4 => ∃ acc, H4 D = some (.lst acc) ∧ acc.length < sizeLine ∧ Nx (upd H4 D (.lst (acc ++ [y]))) else Nx H3)))
theorem lc_gen {J : It} {n : Nat} {g : TG} {tt : TT} {te : TE} {vs : List Nat} {σ : L2.St} {H1 : Hp} {D : Addr} {Qd : Hp → Prop} (Pv : Nat → Hp → Prop) (h0 : Pv 0 (upd H1 D (.lst [])))
    (hgo : ∀ i H, i < n → Pv i H → J.go i H) (hst : ∀ H, Pv n H → J.stop n H)
    (hs : ∀ i x H H', i < n → Pv i H → J.yld i H x H' → g x (wipe σ vs) H' fun σ2 H2 => wipe σ2 vs = wipe σ vs ∧ tt σ2 H2 fun b H3 => if b = true then
      te σ2 H3 fun y H4 => ∃ acc, H4 D = some (.lst acc) ∧ acc.length < sizeLine ∧ Pv (i + 1) (upd H4 D (.lst (acc ++ [y]))) else Pv (i + 1) H3)
    (hd : ∀ H, Pv n H → Qd H) : LcW J g tt te vs σ H1 D Qd := by
  refine ⟨fun j left H => left + j = n ∧ Pv j H, ⟨n, by omega, h0⟩, ?_⟩
  rintro i m H ⟨em, p⟩
  rcases Nat.lt_or_ge i n with hlt | hge
  · exact .inr ⟨hgo i H hlt p, Pv (i + 1), fun H' p' => ⟨m - 1, by omega, by omega, p'⟩, fun x H' y => hs i x H H' hlt p y⟩
  · have e : i = n := by omega
    subst e
    exact .inl ⟨hst H p, hd H p⟩
/-- one sign against one sign -/
theorem sign_lt (a b : Nat) : decide ((⟨#[a]⟩ : Str).cps.toList < (⟨#[b]⟩ : Str).cps.toList) = decide (a < b) := by
  rw [decide_eq_decide]
  show ([a] : List Nat) < [b] ↔ a < b
  constructor
  · intro h
    rcases (List.cons_lt_cons_iff).mp h with h | ⟨_, h⟩
    · exact h
    · exact absurd h (List.not_lt_nil _)
  · exact fun h => List.cons_lt_cons_iff.mpr (.inl h)
end Ly
namespace Ly
open PySem PySem.Spec PyProof.Rows L2
theorem join_cps : ∀ ys : List Str, (Str.join Str.empty ys).cps.toList = ys.flatMap fun y => y.cps.toList
  | [] => rfl
  | [x] => by
    show x.cps.toList = _
    simp
  | x :: y :: r => by
    have h := join_cps (y :: r)
    show ((x ++ Str.empty ++ Str.join Str.empty (y :: r)) : Str).cps.toList = _
    rw [Str.cps_append, Str.append_empty, Array.toList_append, h]
    rfl
theorem txt_join (ys : List Str) : (Txt.join Str.empty ys).cps.toList = ys.flatMap fun y => y.cps.toList := by
  rw [show Txt.join Str.empty ys = Str.join Str.empty ys from StrLaws.glued_eq_join _ _, join_cps]
theorem app_cps (a b : Str) : (a ++ b).cps.toList = a.cps.toList ++ b.cps.toList := by
  rw [Str.cps_append, Array.toList_append]
theorem app_len (a b : Str) : (a ++ b).length = a.length + b.length := Str.length_append a b
theorem cut_to (z : Str) (k : Nat) (h : k ≤ z.length) : (cutS z none (some (k : Int))).cps.toList = z.cps.toList.take k := by
  unfold cutS
  rw [HT.sIx_none, HT.sIx_nat]
  show (List.take (min k z.length - 0) (z.cps.toList.drop 0)) = _
  rw [Nat.min_eq_left h]
  rfl
theorem cut_from (z : Str) (k : Nat) (h : k ≤ z.length) : (cutS z (some (k : Int)) none).cps.toList = z.cps.toList.drop k := by
  unfold cutS
  rw [HT.sIx_none, HT.sIx_nat, Nat.min_eq_left h]
  show (List.take (z.length - k) (z.cps.toList.drop k)) = _
  refine List.take_of_length_le ?_
  rw [List.length_drop, str_len]
  omega
theorem len_of_cps {z : Str} {l : List Nat} (h : z.cps.toList = l) : z.length = l.length := by
  rw [← h, str_len]
theorem Chg.dice {H H' : Hp} {d : Addr} (c : Chg d H H') {p : Addr} {o : HO} (n : p ≠ d) (h : H p = some o) : H' p = some o := c p o n h
theorem dice_ne {H : Hp} {d p : Addr} (h : Dice H d) (n : H p = none) : d ≠ p := by
  obtain ⟨a, b, c, e, _⟩ := h
  exact ne_of_none e n
theorem Dice.new {H : Hp} {d p : Addr} {o : HO} (h : Dice H d) (n : H p = none) : Dice (L2.upd H p o) d := h.keep (same_new n)
end Ly
namespace Ly
open PySem PySem.Spec PyProof.Rows L2
theorem ifF {c : Bool} {A B : Prop} (h : c = false) (b : B) : if c = true then A else B := by
  subst h
  exact iteF b
theorem ifT {c : Bool} {A B : Prop} (h : c = true) (b : A) : if c = true then A else B := by
  subst h
  exact iteT b
/-- if c: .., not taken -/
theorem ifNo {c : TT} {t r : TS} {D : Ends} {σ : L2.St} {H : Hp} (P : Hp → Prop) (h : ∀ Q' : Bool → Hp → Prop, (∀ H', P H' → Q' false H') → c σ H Q') (k : ∀ H', P H' → r D σ H') : tSeq (tIfS c t tNext) r D σ H :=
  h _ fun H' p => iteF (k H' p)
/-- things that are no text -/
def Odd (H : Hp) (x : V) : Prop := x = .non ∨ (∃ b, x = .bl b) ∨ (∃ i, x = .int i) ∨ ∃ p, x = .ref p ∧ ((∃ xs, H p = some (.lst xs)) ∨ (∃ xs, H p = some (.tup xs)) ∨ ∃ kvs, H p = some (.dK kvs))
theorem Odd.keep {H H' : Hp} {x : V} (s : Same H H') (h : Odd H x) : Odd H' x := by
  rcases h with h | h | h | ⟨p, e, h⟩
  · exact .inl h
  · exact .inr (.inl h)
  · exact .inr (.inr (.inl h))
  · refine .inr (.inr (.inr ⟨p, e, ?_⟩))
    rcases h with ⟨_, h⟩ | ⟨_, h⟩ | ⟨_, h⟩
    · exact .inl ⟨_, s _ _ h⟩
    · exact .inr (.inl ⟨_, s _ _ h⟩)
    · exact .inr (.inr ⟨_, s _ _ h⟩)
theorem Odd.ty {K : PySem.W.Frag} {H : Hp} {x : V} (h : Odd H x) : ∃ t, TyB K H x t ∧ kitB t "str" = some false := by
  rcases h with rfl | ⟨b, rfl⟩ | ⟨i, rfl⟩ | ⟨p, rfl, ⟨_, h⟩ | ⟨_, h⟩ | ⟨_, h⟩⟩
  · exact ⟨"NoneType", .base .non, by decide +kernel⟩
  · exact ⟨"bool", .base (.bl b), by decide +kernel⟩
  · exact ⟨"int", .base (.int i), by decide +kernel⟩
  · exact ⟨"list", .base (.lst h), by decide +kernel⟩
  · exact ⟨"tuple", .base (.tup h), by decide +kernel⟩
  · exact ⟨"dict", .base (.dK h), by decide +kernel⟩
theorem same_new2 {H : Hp} {p : Addr} {o u : HO} (h : H p = none) : Same H (upd (upd H p o) p u) := by
  rw [upd_upd]
  exact same_new h
theorem log_ok {n : Int} (h0 : 0 ≤ n) (h : n < 2 ^ 200) : n.natAbs.log2 < 1920 := by
  have e : (2 : Int) ^ 200 = ((2 ^ 200 : Nat) : Int) := by decide +kernel
  rw [e] at h
  have h2 : n.natAbs < 2 ^ 200 := by
    generalize (2 ^ 200 : Nat) = m at *
    omega
  exact Nat.lt_trans (PySem.Flt.log2_lt_of (by decide) h2) (by decide)
end Ly
namespace Ly
open PySem PySem.Spec PyProof.Rows L2
theorem or_ok {P : Program} {w : World} {K : PySem.W.Frag} {mg : Str → Option Value} {base : Heap} {CX : CXT} {k : Nat} {f : Addr} {fd : FuncData} {ps : List Str} {sp1 sp2 : Sp} (h1 : FnOk P w K mg base CX k f fd ps sp1) (h2 : FnOk P w K mg base CX k f fd ps sp2) :
    FnOk P w K mg base CX k f fd ps (fun vs H Q E => sp1 vs H Q E ∨ sp2 vs H Q E) :=
  ⟨fun vs H Q E h => h.elim (h1.len vs H Q E) (h2.len vs H Q E), fun A outer s H args us vs Q E hr e0 hb hv hs => hs.elim (h1.run A outer s H args us vs Q E hr e0 hb hv) (h2.run A outer s H args us vs Q E hr e0 hb hv)⟩
def timesS (z : Str) (k : Int) : Str := ⟨(List.replicate k.toNat z.cps).foldl (· ++ ·) #[]⟩
def MulS (z : Str) (k : Int) : Bool := decide (1 < k) && decide (k ≤ 1000) && decide (0 < z.length) && !decide ((z.length : Int) > (2 ^ 63 - 1) / k) && !Builtin.Str.tooLong (z.length * k.toNat) && decide ((timesS z k).length ≤ sizeLine)
theorem op_mul_str {X : Cx} : OpR X (binaryOp .Mult) (fun x y H Q => ∃ z k, x = .str z ∧ y = .int k ∧ MulS z k = true ∧ Q (.str (timesS z k)) H) := by
  intro pins s σ H x y v u Q I rx ry h
  obtain ⟨z, k, rfl, rfl, hm, q⟩ := h
  obtain ⟨t, rfl⟩ := rx
  obtain ⟨t', rfl⟩ := ry
  unfold MulS at hm
  simp only [Bool.and_eq_true, Bool.not_eq_true', decide_eq_true_eq, decide_eq_false_iff_not] at hm
  obtain ⟨⟨⟨⟨⟨h1, h2⟩, h3⟩, h4⟩, h5⟩, h6⟩ := hm
  refine PySem.P.mul_str ?_ (fun _ _ => h4) (fun _ _ => h5) ?_
  · rw [decide_eq_false (by omega), decide_eq_false (by omega)]
    rfl
  · rw [if_neg (by omega)]
    have e1 : (k == 1) = false := beq_eq_false_iff_ne.mpr (by omega)
    have e2 : (z.length == 0) = false := beq_eq_false_iff_ne.mpr (by omega)
    rw [e1, e2, if_neg (by decide)]
    exact ⟨h6, ⟨.str (timesS z k), H, I.tok _, ⟨_, rfl⟩, q⟩⟩
end Ly

set_option Elab.async false
set_option linter.all false
set_option maxRecDepth 100000
set_option maxHeartbeats 4000000
/-! own layer: defs that ask for repr of lists: the promise is told where no repr is under way -/
namespace Ly
open PySem PySem.Spec PyProof.Rows L2
abbrev Quiet (A : Around) : Prop := A.guards = some []
/-- the promise of a def, called where no repr is under way -/
def FnG (P : Program) (w : World) (K : PySem.W.Frag) (mg : Str → Option Value) (base : Heap) (CX : CXT) (k : Nat) (f : Addr) (sp : Sp) : Prop :=
  ∀ (A : Around) (outer : List Env) (s : Shared) (H : Hp) (us : List Value) (vs : List V) (Q : VK) (E : XK), Room k A → Quiet A →
    Env0 P w K mg base A outer s H → Vals vs us → sp vs H Q E → codeAny (model P w) A (.call (.ref f) ⟨us, []⟩) (CR CX outer P w H s Q E) s
section
variable {P : Program} {w : World} {K : PySem.W.Frag} {mg : Str → Option Value} {base : Heap} {CX : CXT} {k : Nat}
/-- a def's body, walked where no repr is under way -/
theorem fnG_of {x qual : Str} {st : Stmt} {f : Addr} {fd : FuncData} {N ps : List Str} {sp : Sp} (F : Fun K x qual st f fd) (S : FnScope N ps (defScope st)) (b : Binds K fd ps []) (len : ∀ vs H Q E, sp vs H Q E → vs.length = ps.length)
    (hbody : ∀ (cdv : Value) (A : Around) (outer : List Env) (s : Shared) (H : Hp) (vs : List V) (Q : VK) (E : XK), Room k (A.deeper (envOfC qual (defScope st) s.heap.objs.size f cdv)) → Quiet (A.deeper (envOfC qual (defScope st) s.heap.objs.size f cdv)) →
      sp vs H Q E → ∃ t, PSs (cxOf CX P w K mg base N qual (defScope st) f cdv A outer s H E).nox (defBody st) t ∧ t { nx := fun _ H' => Q .non H', rt := Q } (start N vs) H) :
    FnG P w K mg base CX (k + 1) f sp := by
  obtain ⟨oc, od, kV, doc, pm, an, cdv, ct, osl, rfl, lk, hcd⟩ := F.ex
  intro A outer s H us vs Q E hr hq e0 r hsp
  have hl := len vs H Q E hsp
  have hl2 : (us ++ ([] : List Value)).length = ps.length := by
    rw [List.append_nil, ← r.length]
    exact hl
  have hb := b s us (e0.mod.kin.keeps fun b o e => (e0.bs b o e).1) hl2
  rw [List.append_nil] at hb
  refine StX.run_bnd (G := fun xs H2 => xs = vs ∧ H2 = H) lk hcd S hr e0 (fun A' Ex Q' h => hb _ A' Ex Q' (h s H vs us e0 .refl rfl (fun _ _ z => z) r hl ⟨rfl, rfl⟩)) fun s2 H2 xs g hr' => ?_
  obtain ⟨rfl, rfl⟩ := g
  obtain ⟨t, h, q⟩ := hbody cdv A outer s2 H2 xs Q E hr' hq hsp
  exact ⟨t, h.nox, q⟩
theorem FnG.or {f : Addr} {sp1 sp2 : Sp} (h1 : FnG P w K mg base CX k f sp1) (h2 : FnG P w K mg base CX k f sp2) : FnG P w K mg base CX k f (fun vs H Q E => sp1 vs H Q E ∨ sp2 vs H Q E) :=
  fun A outer s H us vs Q E hr hq e0 r hs => hs.elim (h1 A outer s H us vs Q E hr hq e0 r) (h2 A outer s H us vs Q E hr hq e0 r)
theorem _root_.L2.FnOk.quiet {f : Addr} {fd : FuncData} {ps : List Str} {sp : Sp} (F : FnOk P w K mg base CX k f fd ps sp) (b : Binds K fd ps []) : FnG P w K mg base CX k f sp := by
  intro A outer s H us vs Q E hr _ e0 r hs
  have z := F.raw b .nil A outer s H us vs Q E hr e0 r
  simp only [List.append_nil] at z
  exact z hs
end
section
variable {X : Cx} {CX : CXT} {k : Nat} {f : Addr} {sp : Sp} {E : XK}
/-- such a def as a thing that is called -/
theorem callG (F : FnG X.prog X.w X.K X.mg X.base CX k f sp) (hr : Room k X.A) (hq : Quiet X.A) (hx : Passes CX X E) : CallR X (.ref f) (fun vs H Q => sp vs H Q E) := by
  intro pins s σ H vs us Q I r h
  refine wpAny_call (codeAny_mono (F X.A X.stack s H us vs Q E hr hq I.env0 r h) fun res s' hres => ?_)
  cases res with
  | error e => exact hx pins σ H s e s' I hres
  | ok fl =>
    cases fl with
    | ret u => exact I.after hres
    | next => exact False.elim hres
    | brk => exact False.elim hres
    | cont => exact False.elim hres
/-- x(..), x a def of the module, by what its call is worth -/
theorem pe_callV {x : Str} {p pos : Pos} {e : Expr} {es : List Expr} {t : TA} {r : List V → Hp → VK → Prop} (c : CallR X (.ref f) r) (hg : Gl X x) (hm : X.mg x = some (.ref f)) (hk : PySem.W.keepIn X.K (.ref f) = true) (ha : PA X (e :: es) t)
    (hdb : (x == ("__debug__" : Str)) = false := by decide) (he : starEach (e :: es) X.env = (false, eval e X.env) :: starEach es X.env := by rfl) (hpl : (backTo pos (starEach es X.env)).any (·.1) = false := by rfl) :
    PE X (.Call (.Name x p) (e :: es) [] pos) (tCB r t) := ⟨fun pins s σ H Q I h => wpAny_Call_Name_kw (ld_glob I hg hm
  (PySem.W.callWith_K (h₀ := X.base) I.ok.mod.kin hk (thn (ha.run pos pins s σ H _ I h) fun us s1 ⟨vs, H1, I1, rv, q⟩ => ⟨I1.kIn, c pins s1 σ H1 vs us Q I1 rv q⟩) he hpl) hdb)⟩
end
/-! ### the law's own end -/
section
variable {P : Program} {w : World} {K : PySem.W.Frag} {mg mb : Str → Option Value} {CX : CXT} {k : Nat} {fa a : Addr} {sp : Sp} {s1 : Shared} {vs : List Value} {ns : List Int}
/-- what is asked of the call of the law -/
abbrev LawGoal (P : Program) (w : World) (fa a : Addr) (s1 : Shared) : Prop :=
  codeAny (model P w) callerA (.call (.ref fa) ⟨[.ref a], []⟩) (fun r s' => r = .ok (.ret (.bool true)) ∧ OldK s1.heap s'.heap ∧ s'.os = s1.os ∧ AllBare s'.gens) s1
theorem lawG_core (KX : K.In s1.heap) (hns : s1.heap.Ns mainGlobals mg) (hb : s1.heap.Ns builtinsNs mb) (hbb : ∀ x : Str, x ≠ "__name__" → mb x = bootBuiltins x) (hlim : s1.heap.NoLimit) (hg : s1.gens = #[])
    (ha : s1.heap.get? a = some { cls := .type "list", data := .seq vs.toArray }) (hr : Room k callerA) (F : ∀ base : Heap, K.In base → base.Ns mainGlobals mg → FnG P w K mg base CX k fa sp)
    (hCX : ∀ H e s', CX [] H s1 (fun _ _ _ => False) e s' → False) {H : Hp} (hO : Only H) (hok : HOk P w H s1.heap) (hA : ∀ b, H b ≠ none → b = a ∧ K.lookup a = none) (hsp : sp [.ref a] H (fun v _ => v = .bl true) fun _ _ _ => False) : LawGoal P w fa a s1 := by
  -- what is tracked is the script alone: it is no dict and no part of K
  have plain : ∀ {b : Addr} {o : Obj}, s1.heap.get? b = some o → (∀ its n, o.data ≠ .seq its n) → H b = none := by
    intro b o e d
    rcases hO b with z | ⟨ob, xs, z⟩
    · exact z
    · obtain ⟨rfl, _⟩ := hA b (by rw [z]; exact fun q => nomatch q)
      rw [ha] at e
      cases e
      exact absurd rfl (d _ _)
  have nsB : ∀ {b : Addr} {m : Str → Option Value}, s1.heap.Ns b m → (hidT s1.heap H).Ns b m := fun {b m} h => by
    obtain ⟨o, es, ep, e, d, r⟩ := h
    exact ⟨o, es, ep, hidT_get e (plain e fun its n z => by rw [d] at z; cases z), d, r⟩
  have kB : K.In (hidT s1.heap H) := fun b o e => hidT_get (KX b o e) (by
    rcases hO b with z | ⟨ob, xs, z⟩
    · exact z
    · obtain ⟨rfl, n⟩ := hA b (by rw [z]; exact fun q => nomatch q)
      rw [n] at e
      cases e)
  obtain ⟨mc, l1, l2⟩ := hlim
  have e0 : Env0 P w K mg (hidT s1.heap H) callerA [] s1 H := {
    frames := rfl
    mod := ⟨kB, nsB hns, ⟨mb, nsB hb, hbb⟩, ⟨mc, nsB l1, l2⟩⟩
    bs := fun b o e => of_hidT e
    bsz := Nat.le_of_eq (hidT_size _ _)
    funs := trivial
    frf := fun b hb' => by cases hb'
    hok := hok
    bare := .of_eq hg }
  refine codeAny_mono (F _ kB (nsB hns) callerA [] s1 H [.ref a] [.ref a] _ _ hr rfl e0 (.cons rfl .nil) hsp) fun r s' h => ?_
  match r, h with
  | .error e, h => exact (hCX H e s' h).elim
  | .ok .next, h => exact False.elim h
  | .ok .brk, h => exact False.elim h
  | .ok .cont, h => exact False.elim h
  | .ok (.ret u), h =>
    obtain ⟨v, H', os, bare, un, hok', r', q⟩ := h
    have q' : v = .bl true := q
    subst q'
    obtain rfl : u = Value.bool true := r'
    refine ⟨rfl, OldK.of_keep fun b o e => ?_, os, bare⟩
    rcases hO b with z | ⟨ob, xs, z⟩
    · exact un.keep b o e z (fun z => by cases z) (fun z => by cases z)
    · obtain ⟨e1, _⟩ := hok b _ z
      obtain ⟨e2, _⟩ := hok' b _ (un.frzs b ob _ z)
      rw [e] at e1
      cases e1
      exact e2
theorem lawG (KX : K.In s1.heap) (hns : s1.heap.Ns mainGlobals mg) (hb : s1.heap.Ns builtinsNs mb) (hbb : ∀ x : Str, x ≠ "__name__" → mb x = bootBuiltins x) (hlim : s1.heap.NoLimit) (hg : s1.gens = #[])
    (ha : s1.heap.get? a = some { cls := .type "list", data := .seq vs.toArray }) (hi : IntsAre vs ns) (hl : ns.length ≤ sizeLine) (hr : Room k callerA) (F : ∀ base : Heap, K.In base → base.Ns mainGlobals mg → FnG P w K mg base CX k fa sp)
    (hsp : ∀ H : Hp, Only H → SqL K H a (ns.map V.int) → sp [.ref a] H (fun v _ => v = .bl true) fun _ _ _ => False) (hCX : ∀ H e s', CX [] H s1 (fun _ _ _ => False) e s' → False) : LawGoal P w fa a s1 := by
  have rv := vals_ints hi
  have lv := hi.length
  cases hk : K.lookup a with
  | some o =>
    have e := KX a o hk
    rw [ha] at e
    cases e
    exact lawG_core KX hns hb hbb hlim hg ha hr F hCX (H := fun _ => none) (fun _ => .inl rfl) (fun b u z => by cases z) (fun b z => absurd rfl z)
      (hsp _ (fun _ => .inl rfl) (.inr ⟨_, vs.toArray, _, hk, rfl, rfl, rfl, by rw [List.size_toArray, lv]; exact hl, by simpa using rv⟩))
  | none =>
    have at_ : ∀ b, (upd (fun _ => none) a (.frz { cls := .type "list", data := .seq vs.toArray } (.lst (ns.map V.int)))) b ≠ none → b = a := fun b z => by
      by_cases hb : b = a
      · exact hb
      · exact absurd (upd_ne hb) z
    have only : Only (upd (fun _ => none) a (.frz { cls := .type "list", data := .seq vs.toArray } (.lst (ns.map V.int)))) := fun b => by
      by_cases hb : b = a
      · exact .inr ⟨_, _, by rw [hb]; exact upd_same⟩
      · exact .inl (upd_ne hb)
    refine lawG_core KX hns hb hbb hlim hg ha hr F hCX only (fun b u z => ?_) (fun b z => ⟨at_ b z, hk⟩) (hsp _ only (.inl (.inr ⟨_, upd_same⟩)))
    have eb := at_ b (by rw [z]; exact fun q => nomatch q)
    subst eb
    rw [upd_same] at z
    cases z
    exact ⟨ha, by rw [List.length_map]; exact hl, vs, _, rv, ha⟩
end
theorem walk_ofG {l : PySem.W.OpenLaw} {n k : Nat} {q : Program} {loose : List Str} {XP : (Str → Option Value) → Heap → Prop} {YP : World → Heap → Prop} {d : DefRec} {K : Params → PySem.W.Frag} {sp : World → Sp}
    (hn : l.most = some n) (hn2 : n ≤ sizeLine) (hdf : d.params.defaults = []) (hr : Room k callerA) (hY : ∀ (w : World) (h : Heap), YP w h → (K w.params).In h)
    (F : ∀ (w : World) (mg : Str → Option Value) (fa : Addr) (h : Heap), (K w.params).In h → h.Ns mainGlobals mg → mg d.name = some (.ref fa) →
      ∀ base : Heap, (K w.params).In base → base.Ns mainGlobals mg → FnG l.prog w (K w.params) mg base CX0 k fa (sp w))
    (hsp : ∀ (w : World) (H : Hp) (a : Addr) (ns : List Int), ns.length ≤ n → Only H → SqL (K w.params) H a (ns.map V.int) → sp w [.ref a] H (fun v _ => v = .bl true) fun _ _ _ => False) :
    PySem.W.WalkO q loose XP YP l.row.toRowW d [] (fun f vs => PySem.call f vs) :=
  Att.attach_call hn hdf fun w _ _ mg _ fa _ _ _ _ a vs ns G Y ho hd hcd hmg hobj hints hlen hg =>
    lawG (hY w _ Y) G.T.g G.T.b G.T.builtins G.T.nolimit hg hobj hints (Nat.le_trans hlen hn2) hr (F w mg fa _ (hY w _ Y) G.T.g hmg) (fun H hO hS => hsp w H a ns hlen hO hS) fun _ _ _ z => z
/-! ### repr of data -/
mutual
/-- the value v is the datum, by the abstract heap; its repr is short enough to be told by its size -/
def Rp (H : Hp) : PyData → V → Prop
  | .none, v => v = .non
  | .bool b, v => v = .bl b
  | .int i, v => v = .int i ∧ i.natAbs.log2 < 1920
  | .str x, v => v = .str x ∧ ∀ c ∈ x.cps.toList, c < 16 ^ 8
  | .list ds, v => ∃ a xs, v = .ref a ∧ a ≠ sysModules ∧ H a = some (.lst xs) ∧ RpAll H ds xs
  | .tuple ds, v => ∃ a xs, v = .ref a ∧ H a = some (.tup xs) ∧ RpAll H ds xs
  | .dict [], v => ∃ a, v = .ref a ∧ H a = some (.dK [])
  | .dict (_ :: _), _ => False
def RpAll (H : Hp) : List PyData → List V → Prop
  | [], xs => xs = []
  | d :: ds, xs => ∃ x r, xs = x :: r ∧ Rp H d x ∧ RpAll H ds r
end
mutual
theorem Rp.ok {H : Hp} : ∀ (d : PyData) (v : V), Rp H d v → d.showable = true ∧ d.leavesShort 1921 = true
  | .none, _, _ => ⟨rfl, rfl⟩
  | .bool _, _, _ => ⟨rfl, rfl⟩
  | .int i, v, h => by
    obtain ⟨_, h⟩ := (show v = .int i ∧ i.natAbs.log2 < 1920 from h)
    exact ⟨decide_eq_true h, decide_eq_true (int_text_len_1921 h)⟩
  | .str x, v, h => by
    obtain ⟨_, h⟩ := (show v = .str x ∧ ∀ c ∈ x.cps.toList, c < 16 ^ 8 from h)
    exact ⟨rfl, List.all_eq_true.mpr fun c hc => decide_eq_true (h c hc)⟩
  | .list ds, v, h => by
    obtain ⟨_, xs, _, _, _, h⟩ := (show ∃ a xs, v = .ref a ∧ a ≠ sysModules ∧ H a = some (.lst xs) ∧ RpAll H ds xs from h)
    exact RpAll.ok ds xs h
  | .tuple ds, v, h => by
    obtain ⟨_, xs, _, _, h⟩ := (show ∃ a xs, v = .ref a ∧ H a = some (.tup xs) ∧ RpAll H ds xs from h)
    exact RpAll.ok ds xs h
  | .dict [], _, _ => ⟨rfl, rfl⟩
  | .dict (_ :: _), _, h => (show False from h).elim
theorem RpAll.ok {H : Hp} : ∀ (ds : List PyData) (xs : List V), RpAll H ds xs → PyData.showableAll ds = true ∧ PyData.leavesShortAll 1921 ds = true
  | [], _, _ => ⟨rfl, rfl⟩
  | d :: ds, xs, h => by
    obtain ⟨x, r, _, h1, h2⟩ := (show ∃ x r, xs = x :: r ∧ Rp H d x ∧ RpAll H ds r from h)
    obtain ⟨a1, a2⟩ := Rp.ok d x h1
    obtain ⟨b1, b2⟩ := RpAll.ok ds r h2
    exact ⟨by simp only [PyData.showableAll, a1, b1, Bool.and_self], by simp only [PyData.leavesShortAll, a2, b2, Bool.and_self]⟩
end
mutual
theorem Rp.keep {H H' : Hp} (s : Same H H') : ∀ (d : PyData) (v : V), Rp H d v → Rp H' d v
  | .none, _, h => h
  | .bool _, _, h => h
  | .int _, _, h => h
  | .str _, _, h => h
  | .list ds, v, h => by
    obtain ⟨a, xs, e, n, ha, h⟩ := (show ∃ a xs, v = .ref a ∧ a ≠ sysModules ∧ H a = some (.lst xs) ∧ RpAll H ds xs from h)
    exact ⟨a, xs, e, n, s _ _ ha, RpAll.keep s ds xs h⟩
  | .tuple ds, v, h => by
    obtain ⟨a, xs, e, ha, h⟩ := (show ∃ a xs, v = .ref a ∧ H a = some (.tup xs) ∧ RpAll H ds xs from h)
    exact ⟨a, xs, e, s _ _ ha, RpAll.keep s ds xs h⟩
  | .dict [], v, h => by
    obtain ⟨a, e, ha⟩ := (show ∃ a, v = .ref a ∧ H a = some (.dK []) from h)
    exact ⟨a, e, s _ _ ha⟩
  | .dict (_ :: _), _, h => (show False from h).elim
theorem RpAll.keep {H H' : Hp} (s : Same H H') : ∀ (ds : List PyData) (xs : List V), RpAll H ds xs → RpAll H' ds xs
  | [], _, h => h
  | d :: ds, xs, h => by
    obtain ⟨x, r, e, h1, h2⟩ := (show ∃ x r, xs = x :: r ∧ Rp H d x ∧ RpAll H ds r from h)
    exact ⟨x, r, e, Rp.keep s d x h1, RpAll.keep s ds r h2⟩
end
section
variable {X : Cx} {pins : List (Addr × Obj)} {σ : L2.St} {H : Hp} {s : Shared}
mutual
theorem Rp.reads (I : Inv X pins σ H s) : ∀ (d : PyData) (v : V) (u : Value), Rp H d v → RelV v u → ∃ as, Reads s.heap u d as ∧ sysModules ∉ as
  | .none, v, u, h, r => by
    obtain rfl := (show v = .non from h)
    cases r
    exact ⟨_, .none, by simp⟩
  | .bool b, v, u, h, r => by
    obtain rfl := (show v = .bl b from h)
    cases r
    exact ⟨_, .bool b, by simp⟩
  | .int i, v, u, h, r => by
    obtain ⟨rfl, _⟩ := (show v = .int i ∧ i.natAbs.log2 < 1920 from h)
    obtain ⟨t, rfl⟩ := r
    exact ⟨_, .int i t, by simp⟩
  | .str x, v, u, h, r => by
    obtain ⟨rfl, _⟩ := (show v = .str x ∧ ∀ c ∈ x.cps.toList, c < 16 ^ 8 from h)
    obtain ⟨t, rfl⟩ := r
    exact ⟨_, .str x t, by simp⟩
  | .list ds, v, u, h, r => by
    obtain ⟨a, xs, rfl, n, ha, h⟩ := (show ∃ a xs, v = .ref a ∧ a ≠ sysModules ∧ H a = some (.lst xs) ∧ RpAll H ds xs from h)
    cases r
    obtain ⟨_, its, m, rv, e⟩ := (show ObjOk X.prog X.w H s.heap a (.lst xs) from I.hok a _ ha)
    obtain ⟨as, ra, na⟩ := RpAll.reads I ds xs its h rv
    exact ⟨_, .list e rfl rfl ra, fun z => (List.mem_cons.mp z).elim (fun z => n z.symm) na⟩
  | .tuple ds, v, u, h, r => by
    obtain ⟨a, xs, rfl, ha, h⟩ := (show ∃ a xs, v = .ref a ∧ H a = some (.tup xs) ∧ RpAll H ds xs from h)
    cases r
    obtain ⟨_, its, rv, o, e, c, m, dd⟩ := (show ObjOk X.prog X.w H s.heap a (.tup xs) from I.hok a _ ha)
    obtain ⟨as, ra, na⟩ := RpAll.reads I ds xs its h rv
    exact ⟨_, .tuple e c dd ra, na⟩
  | .dict [], v, u, h, r => by
    obtain ⟨a, rfl, ha⟩ := (show ∃ a, v = .ref a ∧ H a = some (.dK []) from h)
    cases r
    obtain ⟨_, ns, vs, kv, dk⟩ := (show ObjOk X.prog X.w H s.heap a (.dK []) from I.hok a _ ha)
    cases kv
    obtain ⟨o, es, ep, e, ex, dd, _, hes, _⟩ := dk
    have e0 : es.toList = [] := by
      generalize es.toList = l at hes
      cases hes
      rfl
    refine ⟨_, .dict (kvs := []) e ex.1 dd (by rw [e0]; exact .nil) (by rw [e0]; exact .nil), fun z => ?_⟩
    have z' : sysModules = a := by simpa using z
    rw [← z'] at ns
    exact absurd ns (by decide)
  | .dict (_ :: _), _, _, h, _ => (show False from h).elim
theorem RpAll.reads (I : Inv X pins σ H s) : ∀ (ds : List PyData) (xs : List V) (us : List Value), RpAll H ds xs → Vals xs us → ∃ as, ReadsAll s.heap us ds as ∧ sysModules ∉ as
  | [], xs, us, h, r => by
    obtain rfl := (show xs = [] from h)
    cases r
    exact ⟨_, .nil, by simp⟩
  | d :: ds, xs, us, h, r => by
    obtain ⟨x, rr, rfl, h1, h2⟩ := (show ∃ x r, xs = x :: r ∧ Rp H d x ∧ RpAll H ds r from h)
    cases r with
    | cons q qs =>
      obtain ⟨as, ra, na⟩ := Rp.reads I d x _ h1 q
      obtain ⟨bs, rb, nb⟩ := RpAll.reads I ds rr _ h2 qs
      exact ⟨_, .cons ra rb, fun z => (List.mem_append.mp z).elim na nb⟩
end
end
/-- repr of a list, a tuple, a dict of data -/
def rRepr : List V → Hp → VK → Prop := fun vs H Q => ∃ (x : V) (d : PyData), vs = [x] ∧ Rp H d x ∧ d.bulk ≤ 8000 ∧ d.depth ≤ 60 ∧ Q (.str d.shown) H
theorem call_repr {X : Cx} (hq : Quiet X.A) (hu : X.A.units + 64 < cLine) : CallR X (.builtin "repr") rRepr := by
  intro pins s σ H xs us Q I r h
  obtain ⟨x, d, rfl, hd, hb, hdp, q⟩ := h
  obtain ⟨u, rfl, r1⟩ := vals1 r
  obtain ⟨k1, k2⟩ := Rp.ok d x hd
  have sz : d.shown.length ≤ sizeLine := by
    have z := PyData.shown_le_bulk 1921 (by decide) d k2
    have e : (1921 + 2) * d.bulk ≤ 1923 * 8000 := Nat.mul_le_mul_left _ hb
    rw [sizeLine_eq]
    omega
  obtain ⟨as, ra, na⟩ := Rp.reads I d x u hd r1
  have goal : ∀ a, u = .ref a → wpAny (model X.prog X.w) X.A (call (.builtin "repr") [u]) (EP X pins σ Q) X.xe s := by
    rintro a rfl
    exact repr_of_reads' ra k1 (fun _ => na) hq (by omega) (fun _ _ e => e) (fun h' t tk hk => ⟨.str d.shown, H, I.kept hk, ⟨_, rfl⟩, q⟩) sz
  match d, hd with
  | .none, hd =>
    obtain rfl := (show x = .non from hd)
    cases r1
    exact PySem.P.repr_of_none ⟨.str _, H, I.tok _, ⟨_, rfl⟩, q⟩
  | .bool b, hd =>
    obtain rfl := (show x = .bl b from hd)
    cases r1
    exact PySem.P.repr_of_bool ⟨.str _, H, I.tok _, ⟨_, rfl⟩, q⟩
  | .int i, hd =>
    obtain ⟨rfl, hi⟩ := (show x = .int i ∧ i.natAbs.log2 < 1920 from hd)
    obtain ⟨t, rfl⟩ := r1
    exact PySem.P.repr_of_int hi ⟨.str _, H, I.tok _, ⟨_, rfl⟩, q⟩
  | .str y, hd =>
    obtain ⟨rfl, _⟩ := (show x = .str y ∧ ∀ c ∈ y.cps.toList, c < 16 ^ 8 from hd)
    obtain ⟨t, rfl⟩ := r1
    exact PySem.P.repr_of_str ⟨.str _, H, I.tok _, ⟨_, rfl⟩, q⟩ sz
  | .list ds, hd =>
    obtain ⟨a, _, rfl, _⟩ := (show ∃ a xs, x = .ref a ∧ a ≠ sysModules ∧ H a = some (.lst xs) ∧ RpAll H ds xs from hd)
    exact goal a r1
  | .tuple ds, hd =>
    obtain ⟨a, _, rfl, _⟩ := (show ∃ a xs, x = .ref a ∧ H a = some (.tup xs) ∧ RpAll H ds xs from hd)
    exact goal a r1
  | .dict [], hd =>
    obtain ⟨a, rfl, _⟩ := (show ∃ a, x = .ref a ∧ H a = some (.dK []) from hd)
    exact goal a r1
  | .dict (_ :: _), hd => exact (show False from hd).elim
/-- a list display whose place is told not to be the modules' own -/
theorem pe_lstN {X : Cx} {es : List Expr} {t : TA} {pos : Pos} (h : PA X es t) : PE X (.List es pos) (fun σ H Q => t σ H fun xs H1 => xs.length ≤ sizeLine ∧ ∀ p, H1 p = none → p ≠ sysModules → Q (.ref p) (upd H1 p (.lst xs))) := by
  refine ⟨fun pins s σ H Q I hq => ?_⟩
  refine wpAny_List_spliced (thn (h.run pos pins s σ H _ I hq) fun us s1 hh => ?_)
  obtain ⟨xs, H1, I1, r, z, q⟩ := hh
  have big := I1.big
  refine ⟨by rw [← r.length]; exact z, ⟨.ref s1.heap.objs.size, _, I1.laid (t' := s1.toks) (o := .lst xs) (fun b u e => Heap.get?_push_of_some _ e) (Nat.le_refl _) ⟨z, us, 0, r, Heap.get?_push_size _ rfl⟩, rfl, q _ (I1.hok.fresh (Nat.le_refl _)) fun e => ?_⟩⟩
  rw [e] at big
  exact absurd big (Nat.lt_irrefl _)
end Ly
namespace Ly
open PySem PySem.Spec PyProof.Rows L2
/-! ### the same rules, said of the written part that a block shares with its def -/
section
variable {X : Cx} {K : PySem.W.Frag}
theorem ixL (h : X.K = K) : IxR X (rIxL K) := h ▸ ix_list
theorem ixT (h : X.K = K) : IxR X (rIxT K) := h ▸ ix_tup
theorem isiK (h : X.K = K) : CallR X (.builtin "isinstance") (rIsi K) := h ▸ call_isi
theorem inK (h : X.K = K) : OpR X (compareOp .In) (rIn K false) := h ▸ op_in_seq
theorem ninK (h : X.K = K) : OpR X (compareOp .NotIn) (rIn K true) := h ▸ op_notIn_seq
def rLenL (K : PySem.W.Frag) : List V → Hp → VK → Prop := fun xs H Q => ∃ p ys, xs = [.ref p] ∧ SqL K H p ys ∧ Q (.int ys.length) H
def rLenT (K : PySem.W.Frag) : List V → Hp → VK → Prop := fun xs H Q => ∃ p ys, xs = [.ref p] ∧ SqT K H p ys ∧ Q (.int ys.length) H
theorem lenLK (h : X.K = K) : CallR X (.builtin "len") (rLenL K) := h ▸ call_lenL
theorem lenTK (h : X.K = K) : CallR X (.builtin "len") (rLenT K) := h ▸ call_lenT
end
end Ly
namespace Ly
open PySem PySem.Spec PyProof.Rows L2
theorem sameT {K : PySem.W.Frag} {H H' : Hp} {a : Addr} {xs : List V} (e : Same H H') (h : SqT K H a xs) : SqT K H' a xs := by
  rcases h with (h | ⟨o, h⟩) | h
  · exact .inl (.inl (e _ _ h))
  · exact .inl (.inr ⟨o, e _ _ h⟩)
  · exact .inr h
/-- a loop's comprehension that maps a list's items, told at once: y = [e for x in xs] -/
theorem same_set {H H1 : Hp} {p : Addr} {o : HO} (s : Same H H1) (n : H p = none) : Same H (upd H1 p o) := fun b u e => by
  rw [upd_ne (ne_of_none e n)]
  exact s _ _ e
end Ly

set_option Elab.async false
set_option linter.all false
set_option maxRecDepth 100000
set_option maxHeartbeats 4000000
/-! cutters as plain functions: parts, what a part keeps of a row, what parts one after another keep -/
namespace Cut
inductive Part where
  | all
  | pat (f b : List Bool)
  deriving DecidableEq
/-- whether there is a plus at this index -/
def hp (l : List Bool) (i : Int) : Bool := decide (0 ≤ i) && decide (i < l.length) && l.getD i.toNat false
def kat (f b : List Bool) (n i : Nat) : Bool := hp f i || hp b ((i : Int) - ((n : Int) - b.length))
/-- the places that one part keeps of a row of n -/
def sel : Part → Nat → List Nat
  | .all, n => List.range n
  | .pat f b, n => (List.range n).filter (kat f b n)
def pick {α : Type} (p : Part) (xs : List α) : List α := (sel p xs.length).filterMap fun i => xs[i]?
def run {α : Type} (ps : List Part) (xs : List α) : List α := ps.foldl (fun l p => pick p l) xs
def places (ps : List Part) (n : Nat) : List Nat := run ps (List.range n)
def keepsAll (ps : List Part) : Bool := ps.all fun p => decide (p = .all)
def Ok : Part → Prop
  | .all => True
  | .pat f b => f.length ≤ 2 ∧ b.length ≤ 3
/-! ### rows -/
theorem get_range {α : Type} : ∀ xs : List α, (List.range xs.length).filterMap (fun i => xs[i]?) = xs
  | [] => rfl
  | x :: r => by
    rw [List.length_cons, List.range_succ_eq_map, List.filterMap_cons, List.filterMap_map]
    show x :: (List.range r.length).filterMap (fun i => r[i]?) = x :: r
    rw [get_range r]
theorem pick_all {α : Type} (xs : List α) : pick .all xs = xs := get_range xs
theorem pick_map {α β : Type} (p : Part) (g : α → β) (xs : List α) : pick p (xs.map g) = (pick p xs).map g := by
  unfold pick
  rw [List.length_map, List.map_filterMap]
  congr 1
  funext i
  rw [List.getElem?_map]
theorem run_map {α β : Type} (g : α → β) : ∀ (ps : List Part) (xs : List α), run ps (xs.map g) = (run ps xs).map g
  | [], _ => rfl
  | p :: ps, xs => by
    show run ps (pick p (xs.map g)) = (run ps (pick p xs)).map g
    rw [pick_map, run_map g ps]
theorem run_cons {α : Type} (p : Part) (ps : List Part) (xs : List α) : run (p :: ps) xs = run ps (pick p xs) := rfl
theorem run_append {α : Type} (ps qs : List Part) (xs : List α) : run (ps ++ qs) xs = run qs (run ps xs) := List.foldl_append
theorem sel_lt {p : Part} {n i : Nat} (h : i ∈ sel p n) : i < n := by
  cases p with
  | all => exact List.mem_range.mp h
  | pat f b => exact List.mem_range.mp (List.mem_filter.mp h).1
/-- the values kept are those at the kept places -/
theorem run_get {α : Type} (ps : List Part) (xs : List α) : run ps xs = (places ps xs.length).filterMap fun i => xs[i]? := by
  have key : ∀ (qs : List Part) (l : List Nat), (∀ i ∈ l, i < xs.length) → run qs (l.filterMap fun i => xs[i]?) = (run qs l).filterMap fun i => xs[i]? := by
    intro qs l hl
    cases xs with
    | nil =>
      cases l with
      | nil =>
        have e : ∀ rs : List Part, run rs ([] : List Nat) = [] := fun rs => by
          induction rs with
          | nil => rfl
          | cons p rs ih =>
            rw [run_cons]
            have e1 : pick p ([] : List Nat) = [] := by
              unfold pick
              cases p <;> rfl
            rw [e1, ih]
        have e' : ∀ rs : List Part, run rs ([] : List α) = [] := fun rs => by
          induction rs with
          | nil => rfl
          | cons p rs ih =>
            rw [run_cons]
            have e1 : pick p ([] : List α) = [] := by
              unfold pick
              cases p <;> rfl
            rw [e1, ih]
        show run qs ([] : List α) = (run qs ([] : List Nat)).filterMap fun i => ([] : List α)[i]?
        rw [e, e']
        rfl
      | cons a r => exact absurd (hl a List.mem_cons_self) (Nat.not_lt_zero _)
    | cons x r =>
      have e : ∀ l : List Nat, (∀ i ∈ l, i < (x :: r).length) → (l.filterMap fun i => (x :: r)[i]?) = l.map fun i => (x :: r).getD i x := by
        intro l
        induction l with
        | nil => intro _; rfl
        | cons a l ih =>
          intro h
          have ha := h a List.mem_cons_self
          rw [List.filterMap_cons, List.getElem?_eq_getElem ha, ih fun i hi => h i (List.mem_cons_of_mem _ hi), List.map_cons]
          rw [List.getD_eq_getElem?_getD, List.getElem?_eq_getElem ha]
          rfl
      rw [e l hl, run_map]
      refine (e _ fun i hi => ?_).symm
      -- what is kept is among what there was
      have sub : ∀ (qs : List Part) (l : List Nat), ∀ i ∈ run qs l, i ∈ l := by
        intro qs
        induction qs with
        | nil => exact fun l i h => h
        | cons p qs ih =>
          intro l i h
          have h1 := ih _ i h
          obtain ⟨j, hj, e⟩ := List.mem_filterMap.mp h1
          exact List.mem_of_getElem? e
      exact hl i (sub qs l i hi)
  have h := key ps (List.range xs.length) fun i hi => List.mem_range.mp hi
  rw [get_range] at h
  exact h
theorem run_sub {α : Type} : ∀ (ps : List Part) (xs : List α) (x : α), x ∈ run ps xs → x ∈ xs
  | [], _, _, h => h
  | p :: ps, xs, x, h => by
    have h1 := run_sub ps _ x h
    obtain ⟨j, _, e⟩ := List.mem_filterMap.mp h1
    exact List.mem_of_getElem? e
theorem places_lt {ps : List Part} {n i : Nat} (h : i ∈ places ps n) : i < n := List.mem_range.mp (run_sub ps _ i h)
theorem pick_len {α : Type} (p : Part) (xs : List α) : (pick p xs).length ≤ xs.length := by
  refine Nat.le_trans (List.length_filterMap_le _ _) ?_
  cases p with
  | all => exact Nat.le_of_eq List.length_range
  | pat f b => exact Nat.le_trans (List.length_filter_le _ _) (Nat.le_of_eq List.length_range)
theorem run_len {α : Type} : ∀ (ps : List Part) (xs : List α), (run ps xs).length ≤ xs.length
  | [], _ => Nat.le_refl _
  | p :: ps, xs => Nat.le_trans (run_len ps _) (pick_len p xs)
theorem places_len (ps : List Part) (n : Nat) : (places ps n).length ≤ n := Nat.le_trans (run_len ps _) (Nat.le_of_eq List.length_range)
theorem run_all {α : Type} : ∀ (ps : List Part) (xs : List α), keepsAll ps = true → run ps xs = xs
  | [], _, _ => rfl
  | p :: ps, xs, h => by
    have h' : (decide (p = .all) && keepsAll ps) = true := h
    rw [Bool.and_eq_true] at h'
    have e := of_decide_eq_true h'.1
    rw [e, run_cons, pick_all]
    exact run_all ps xs h'.2
/-! ### five and more places -/
/-- where the five places that patterns speak of stand in a row of n -/
def emb (n i : Nat) : Nat := if i < 2 then i else i + (n - 5)
theorem hp_neg {l : List Bool} {i : Int} (h : i < 0) : hp l i = false := by
  unfold hp
  rw [decide_eq_false (by omega)]
  rfl
theorem hp_out {l : List Bool} {i : Int} (h : (l.length : Int) ≤ i) : hp l i = false := by
  unfold hp
  rw [decide_eq_false (show ¬ i < (l.length : Int) by omega), Bool.and_false]
  rfl
theorem kat_mid {f b : List Bool} (hf : f.length ≤ 2) (hb : b.length ≤ 3) {n i : Nat} (h2 : 2 ≤ i) (h3 : i + 3 < n) : kat f b n i = false := by
  unfold kat
  rw [hp_out (by omega), hp_neg (by omega)]
  rfl
theorem kat_emb {f b : List Bool} (hf : f.length ≤ 2) (hb : b.length ≤ 3) {n i : Nat} (hn : 5 ≤ n) (hi : i < 5) : kat f b n (emb n i) = kat f b 5 i := by
  unfold kat emb
  by_cases h : i < 2
  · rw [if_pos h, hp_neg (l := b) (by omega), hp_neg (l := b) (by omega)]
  · rw [if_neg h, hp_out (l := f) (by omega), hp_out (l := f) (by omega)]
    congr 2
    omega
theorem range_five (m : Nat) : List.range (m + 5) = [0, 1] ++ ((List.range m).map (· + 2) ++ [m + 2, m + 3, m + 4]) := by
  rw [show m + 5 = 2 + (m + 3) by omega, List.range_add, List.range_add]
  congr 1
  rw [List.map_append]
  congr 1
  · exact List.map_congr_left fun i _ => Nat.add_comm 2 i
  · show [2 + (m + 0), 2 + (m + 1), 2 + (m + 2)] = _
    rw [show 2 + (m + 0) = m + 2 by omega, show 2 + (m + 1) = m + 3 by omega, show 2 + (m + 2) = m + 4 by omega]
theorem sel_five {f b : List Bool} (hf : f.length ≤ 2) (hb : b.length ≤ 3) {n : Nat} (hn : 5 ≤ n) : sel (.pat f b) n = (sel (.pat f b) 5).map (emb n) := by
  obtain ⟨m, rfl⟩ : ∃ m, n = m + 5 := ⟨n - 5, by omega⟩
  show (List.range (m + 5)).filter (kat f b (m + 5)) = ((List.range 5).filter (kat f b 5)).map (emb (m + 5))
  have mid : ((List.range m).map (· + 2)).filter (kat f b (m + 5)) = [] := by
    rw [List.filter_eq_nil_iff]
    intro i hi
    obtain ⟨j, hj, rfl⟩ := List.mem_map.mp hi
    have := List.mem_range.mp hj
    rw [kat_mid hf hb (by omega) (by omega)]
    exact Bool.false_ne_true
  rw [range_five, List.filter_append, List.filter_append, mid, List.nil_append, ← List.filter_append]
  have e : ([0, 1] ++ [m + 2, m + 3, m + 4] : List Nat) = (List.range 5).map (emb (m + 5)) := by
    show [0, 1, m + 2, m + 3, m + 4] = [emb (m + 5) 0, emb (m + 5) 1, emb (m + 5) 2, emb (m + 5) 3, emb (m + 5) 4]
    unfold emb
    rw [if_pos (by decide), if_pos (by decide), if_neg (by decide), if_neg (by decide), if_neg (by decide)]
    rw [show 2 + (m + 5 - 5) = m + 2 by omega, show 3 + (m + 5 - 5) = m + 3 by omega, show 4 + (m + 5 - 5) = m + 4 by omega]
  rw [e, List.filter_map]
  congr 1
  refine List.filter_congr fun i hi => ?_
  exact kat_emb hf hb hn (List.mem_range.mp hi)
theorem pick_five {f b : List Bool} (hf : f.length ≤ 2) (hb : b.length ≤ 3) {n : Nat} (hn : 5 ≤ n) : pick (.pat f b) (List.range n) = (pick (.pat f b) (List.range 5)).map (emb n) := by
  have e : ∀ k : Nat, pick (.pat f b) (List.range k) = sel (.pat f b) k := fun k => by
    unfold pick
    rw [List.length_range]
    have : ∀ l : List Nat, (∀ i ∈ l, i < k) → l.filterMap (fun i => (List.range k)[i]?) = l := by
      intro l
      induction l with
      | nil => intro _; rfl
      | cons a l ih =>
        intro h
        have ha := h a List.mem_cons_self
        rw [List.filterMap_cons, List.getElem?_eq_getElem (by rw [List.length_range]; exact ha), List.getElem_range, ih fun i hi => h i (List.mem_cons_of_mem _ hi)]
    exact this _ fun i hi => sel_lt hi
  rw [e, e, sel_five hf hb hn]
theorem places_five : ∀ (ps : List Part), (∀ p ∈ ps, Ok p) → keepsAll ps = false → ∀ n, 5 ≤ n → places ps n = (places ps 5).map (emb n)
  | [], _, h, _, _ => by cases h
  | .all :: ps, hok, h, n, hn => by
    show run ps (pick .all (List.range n)) = (run ps (pick .all (List.range 5))).map (emb n)
    rw [pick_all, pick_all]
    exact places_five ps (fun p hp => hok p (List.mem_cons_of_mem _ hp)) h n hn
  | .pat f b :: ps, hok, _, n, hn => by
    obtain ⟨hf, hb⟩ := (show f.length ≤ 2 ∧ b.length ≤ 3 from hok _ List.mem_cons_self)
    show run ps (pick (.pat f b) (List.range n)) = (run ps (pick (.pat f b) (List.range 5))).map (emb n)
    rw [pick_five hf hb hn, run_map]
theorem places_le5 {ps : List Part} (hok : ∀ p ∈ ps, Ok p) (h : keepsAll ps = false) (n : Nat) : (places ps n).length ≤ 5 := by
  by_cases hn : 5 ≤ n
  · rw [places_five ps hok h n hn, List.length_map]
    exact Nat.le_trans (run_len ps _) (Nat.le_of_eq List.length_range)
  · refine Nat.le_trans (run_len ps _) ?_
    rw [List.length_range]
    omega
end Cut

set_option Elab.async false
set_option linter.all false
set_option maxRecDepth 100000
set_option maxHeartbeats 4000000
/-! texts of parts -/
namespace Cut
open PySem PySem.Spec PyProof.Rows L2 Ly
def sgn (b : Bool) : Nat := if b then 43 else 45
def sT (l : List Bool) : Str := ⟨(l.map sgn).toArray⟩
def Part.text : Part → Str
  | .all => "all"
  | .pat f b => sT f ++ ".." ++ sT b
def fronts : List (List Bool) := [[], [true], [false], [true, true], [true, false], [false, true], [false, false]]
def backs : List (List Bool) := fronts ++ [[true, true, true], [true, true, false], [true, false, true], [true, false, false], [false, true, true], [false, true, false], [false, false, true], [false, false, false]]
theorem mem_fronts : ∀ f : List Bool, f.length ≤ 2 → f ∈ fronts
  | [], _ => by decide
  | [a], _ => by cases a <;> decide
  | [a, b], _ => by cases a <;> cases b <;> decide
  | _ :: _ :: _ :: r, h => by
    simp only [List.length_cons] at h
    omega
theorem mem_backs : ∀ f : List Bool, f.length ≤ 3 → f ∈ backs
  | [], _ => by decide
  | [a], _ => by cases a <;> decide
  | [a, b], _ => by cases a <;> cases b <;> decide
  | [a, b, c], _ => by cases a <;> cases b <;> cases c <;> decide
  | _ :: _ :: _ :: _ :: r, h => by
    simp only [List.length_cons] at h
    omega
def facts (f b : List Bool) : Bool :=
  decide (Txt.partition (Part.pat f b).text ".." = (sT f, (".." : Str), sT b)) && decide (Txt.split (Part.pat f b).text ".." = [sT f, sT b]) && !decide ((Part.pat f b).text = "all") && decide ((Part.pat f b).text.length ≤ 10) &&
  (Part.pat f b).text.cps.toList.all fun c => decide (c = 43 ∨ c = 45 ∨ c = 46)
theorem all_facts : (fronts.all fun f => backs.all fun b => facts f b) = true := by decide +kernel
structure Facts (f b : List Bool) : Prop where
  part : Txt.partition (Part.pat f b).text ".." = (sT f, (".." : Str), sT b)
  spl : Txt.split (Part.pat f b).text ".." = [sT f, sT b]
  ne : (Part.pat f b).text ≠ "all"
  len : (Part.pat f b).text.length ≤ 10
  cs : ∀ c ∈ (Part.pat f b).text.cps.toList, c = 43 ∨ c = 45 ∨ c = 46
theorem pat_facts {f b : List Bool} (h : Ok (.pat f b)) : Facts f b := by
  obtain ⟨hf, hb⟩ := (show f.length ≤ 2 ∧ b.length ≤ 3 from h)
  have z := List.all_eq_true.mp (List.all_eq_true.mp all_facts f (mem_fronts f hf)) b (mem_backs b hb)
  unfold facts at z
  simp only [Bool.and_eq_true, decide_eq_true_eq, Bool.not_eq_true', decide_eq_false_iff_not, List.all_eq_true] at z
  obtain ⟨⟨⟨⟨z1, z2⟩, z3⟩, z4⟩, z5⟩ := z
  exact ⟨z1, z2, z3, z4, z5⟩
theorem text_len {p : Part} (h : Ok p) : p.text.length ≤ 10 := by
  cases p with
  | all => decide +kernel
  | pat f b => exact (pat_facts h).len
theorem text_cs {p : Part} (h : Ok p) : ∀ c ∈ p.text.cps.toList, c < 16 ^ 8 := by
  cases p with
  | all => decide +kernel
  | pat f b =>
    intro c hc
    rcases (pat_facts h).cs c hc with e | e | e <;> rw [e] <;> decide
theorem text_all {p : Part} (h : Ok p) : decide (p.text = "all") = decide (p = .all) := by
  cases p with
  | all =>
    show decide ((Str.ofString "all" : Str) = Str.ofString "all") = decide (Part.all = Part.all)
    rw [decide_eq_true rfl, decide_eq_true rfl]
  | pat f b => rw [decide_eq_false (pat_facts h).ne, decide_eq_false (fun z => by cases z)]
theorem sT_len (l : List Bool) : (sT l).length = l.length := by
  show ((l.map sgn).toArray).size = l.length
  simp
theorem sT_get {l : List Bool} {i : Nat} (h : i < l.length) : (sT l).cps.toList[i]? = some (sgn (l.getD i false)) := by
  show ((l.map sgn).toArray).toList[i]? = _
  rw [List.getD_eq_getElem?_getD, List.getElem?_eq_getElem h]
  simp [h]
theorem sgn_plus (b : Bool) : decide ((⟨#[sgn b]⟩ : Str) = "+") = b := by cases b <;> decide +kernel
theorem sT_sign {l : List Bool} {c : Nat} (h : c ∈ (sT l).cps.toList) : c = 43 ∨ c = 45 := by
  have h' : c ∈ l.map sgn := by
    have e : (sT l).cps.toList = l.map sgn := by
      show ((l.map sgn).toArray).toList = _
      simp
    rw [e] at h
    exact h
  obtain ⟨b, _, rfl⟩ := List.mem_map.mp h'
  cases b
  · exact .inr rfl
  · exact .inl rfl
/-- list(range(n)) as values -/
def iV (l : List Nat) : List V := l.map fun (i : Nat) => V.int (i : Int)
theorem rgV_iV (n : Nat) : rgV 0 (n : Int) = iV (List.range n) := by
  unfold rgV iV
  rw [show ((n : Int) - 0).toNat = n by omega]
  exact List.map_congr_left fun i _ => by rw [Int.zero_add]
theorem iV_len (l : List Nat) : (iV l).length = l.length := List.length_map _
theorem iV_get {l : List Nat} {i x : Nat} (h : l[i]? = some x) : (iV l)[i]? = some (.int (x : Int)) := by
  unfold iV
  rw [List.getElem?_map, h]
  rfl
section
variable {X : Cx} {x : Str} {pos : Pos}
theorem pe_gI {n : Int} (hg : Gl X x) (h : ∃ t, X.mg x = some (.int n t)) (hd : (x == ("__debug__" : Str)) = false := by decide) : PE X (.Name x pos) (tC (.int n)) := by
  obtain ⟨t, h⟩ := h
  exact pe_glob hg h ⟨t, rfl⟩ hd
theorem pe_gS {z : Str} (hg : Gl X x) (h : ∃ t, X.mg x = some (.str z t)) (hd : (x == ("__debug__" : Str)) = false := by decide) : PE X (.Name x pos) (tC (.str z)) := by
  obtain ⟨t, h⟩ := h
  exact pe_glob hg h ⟨t, rfl⟩ hd
end
/-- the parts of a cutter as values -/
def pV (ps : List Part) : List V := ps.map fun p => V.str p.text
end Cut

set_option Elab.async false
set_option linter.all false
set_option maxRecDepth 100000
set_option maxHeartbeats 8000000
namespace K04
open PySem PySem.Spec PyProof.Rows L2 Ly Cut

def topS (i : Nat) : Stmt := PySem.Challenge.pw_namedabove_k04_cutters_one_after_another.main.body.getD i (.Pass ⟨0, 0, 0, 0⟩)
structure Zs (mg : Str → Option Value) : Prop where
  z_len : mg "len" = none
  z_int : mg "int" = none
  z_abs : mg "abs" = none
  z_max : mg "max" = none
  z_min : mg "min" = none
  z_range : mg "range" = none
  z_all : mg "all" = none
  z_isinstance : mg "isinstance" = none
  z_str : mg "str" = none
  z_repr : mg "repr" = none
  z_bool : mg "bool" = none
  z_list : mg "list" = none
  z_tuple : mg "tuple" = none
  z_enumerate : mg "enumerate" = none
  z_zip : mg "zip" = none
  z_dict : mg "dict" = none
  g_MAX_PARTS : ∃ t, mg "MAX_PARTS" = some (.int 4 t)
  g_MAX_ROW : ∃ t, mg "MAX_ROW" = some (.int 1000 t)
  g_KEEP_ALL : ∃ t, mg "KEEP_ALL" = some (.str "all" t)
  g_DOTS : ∃ t, mg "DOTS" = some (.str ".." t)
  g_MAX_FRONT : ∃ t, mg "MAX_FRONT" = some (.int 2 t)
  g_MAX_BACK : ∃ t, mg "MAX_BACK" = some (.int 3 t)
  g_REACH : ∃ t, mg "REACH" = some (.int 5 t)
abbrev s_has_plus : Stmt := topS 20
abbrev N_has_plus : List Str := ["signs", "at"]
abbrev P_has_plus : List Str := ["signs", "at"]
theorem sc_has_plus : FnScope N_has_plus P_has_plus (defScope s_has_plus) := ⟨rfl, rfl, rfl, by decide +kernel, rfl, by decide +kernel, by decide +kernel⟩

abbrev s_part_places : Stmt := topS 21
abbrev N_part_places : List Str := ["part", "many", "front", "_", "back", "ahead", "at"]
abbrev P_part_places : List Str := ["part", "many"]
theorem sc_part_places : FnScope N_part_places P_part_places (defScope s_part_places) := ⟨rfl, rfl, rfl, by decide +kernel, rfl, by decide +kernel, by decide +kernel⟩

abbrev s_kept_places : Stmt := topS 22
abbrev N_kept_places : List Str := ["parts", "many", "places", "part", "at"]
abbrev P_kept_places : List Str := ["parts", "many"]
theorem sc_kept_places : FnScope N_kept_places P_kept_places (defScope s_kept_places) := ⟨rfl, rfl, rfl, by decide +kernel, rfl, by decide +kernel, by decide +kernel⟩

abbrev s_table_of : Stmt := topS 24
abbrev N_table_of : List Str := ["parts", "many"]
abbrev P_table_of : List Str := ["parts"]
theorem sc_table_of : FnScope N_table_of P_table_of (defScope s_table_of) := ⟨rfl, rfl, rfl, by decide +kernel, rfl, by decide +kernel, by decide +kernel⟩

abbrev s_is_part : Stmt := topS 18
abbrev N_is_part : List Str := ["value", "front", "dots", "back", "sign"]
abbrev P_is_part : List Str := ["value"]
theorem sc_is_part : FnScope N_is_part P_is_part (defScope s_is_part) := ⟨rfl, rfl, rfl, by decide +kernel, rfl, by decide +kernel, by decide +kernel⟩

abbrev s_check_parts : Stmt := topS 19
abbrev N_check_parts : List Str := ["parts", "at", "part"]
abbrev P_check_parts : List Str := ["parts"]
theorem sc_check_parts : FnScope N_check_parts P_check_parts (defScope s_check_parts) := ⟨rfl, rfl, rfl, by decide +kernel, rfl, by decide +kernel, by decide +kernel⟩

section
variable {P : Program} {w : World} {K : PySem.W.Frag} {mg : Str → Option Value} {base : Heap} {f : Addr} {fd : FuncData}
def spPlus : Sp := fun vs H Q _ => ∃ (l : List Bool) (i : Int), vs = [.str (sT l), .int i] ∧ l.length ≤ 3 ∧ Q (.bl (hp l i)) H
def spPlaces : Sp := fun vs H Q _ => ∃ (p : Part) (n : Nat), vs = [.str p.text, .int n] ∧ Ok p ∧ n ≤ 1001 ∧ ∀ H' q, Same H H' → H q = none → H' q = some (.lst (iV (sel p n))) → Q (.ref q) H'
def spKept (K : PySem.W.Frag) : Sp := fun vs H Q _ => ∃ (a : Addr) (ps : List Part) (n : Nat), vs = [.ref a, .int n] ∧ SqT K H a (pV ps) ∧ (∀ p ∈ ps, Ok p) ∧ n ≤ 1001 ∧
  ∀ H' q, Same H H' → H q = none → H' q = some (.tup (iV (Cut.places ps n))) → Q (.ref q) H'
theorem ok_plus (Z : Zs mg) (D : Df K mg "has_plus" s_has_plus P_has_plus f fd) : FnOk P w K mg base CX0 1 f fd P_has_plus spPlus := by
  refine D.F.ok sc_has_plus (fun vs H Q E h => ?_) (fun cdv A outer s H vs Q E hr h => ?_)
  · obtain ⟨l, i, rfl, _⟩ := h
    rfl
  · obtain ⟨l, i, rfl, hl, q⟩ := h
    have nd := sc_has_plus.nd
    refine ⟨_,
    (pss_one
    (ps_ret (pe_and (pe_chain op_le op_lt pe_int (pv 1) (pe_callB call_len_str (by rfl) Z.z_len (by decide +kernel) (pa_cons (pv 0) pa_nil))) (pe_one (pe_cmpR op_eq (pe_ix ix_str (pv 0) (pv 1) (fun _ _ => rfl)) pe_str (nomark _)))))), ?_⟩
    have hz : (sT l).length ≤ sizeLine := by rw [sT_len]; exact sz1000 (by omega)
    refine ⟨_, rfl, _, _, rfl, rfl, _, rfl, ?_⟩
    by_cases h0 : 0 ≤ i
    · refine ifT (decide_eq_true h0) ⟨_, rfl, sT l, rfl, hz, _, _, rfl, rfl, _, rfl, ?_⟩
      rw [sT_len]
      by_cases h1 : i < (l.length : Int)
      · refine ifT (decide_eq_true h1) ⟨_, rfl, _, rfl, sT l, i, sgn (l.getD i.toNat false), rfl, rfl, hz, at_nat h0 (sT_get (by omega)), rfl, ?_⟩
        have e : hp l i = decide ((V.str ⟨#[sgn (l.getD i.toNat false)]⟩) = V.str "+") := by
          unfold hp
          rw [decide_eq_true h0, decide_eq_true h1, Bool.true_and, Bool.true_and]
          refine (sgn_plus (l.getD i.toNat false)).symm.trans ?_
          rw [decide_eq_decide]
          exact ⟨fun h => congrArg V.str h, fun h => V.str.inj h⟩
        rw [e] at q
        exact q
      · refine ifF (decide_eq_false h1) ?_
        rw [hp_out (by omega)] at q
        exact q
    · refine ifF (decide_eq_false h0) ⟨_, rfl, ?_⟩
      rw [hp_neg (by omega)] at q
      exact q

theorem ok_places (Z : Zs mg) (D : Df K mg "part_places" s_part_places P_part_places f fd) {fp : Addr} {dp : FuncData} (D_has_plus : Cl P w K mg base "has_plus" 1 fp dp P_has_plus spPlus) : FnOk P w K mg base CX0 2 f fd P_part_places spPlaces := by
  refine D.F.ok sc_part_places (fun vs H Q E h => ?_) (fun cdv A outer s H vs Q E hr h => ?_)
  · obtain ⟨p, n, rfl, _⟩ := h
    rfl
  · obtain ⟨p, n, rfl, hok, hn, q⟩ := h
    have nd := sc_part_places.nd
    refine ⟨_,
    (pss_cons
    (ps_if (pt_cmpR op_eq (pv 0) (pe_gS rfl Z.g_KEEP_ALL) (nomark _))
      (pss_one
      (ps_ret (pe_listRg rfl (by rfl) Z.z_list (prg_1 (by rfl) Z.z_range (pv 1)))))
      pss_nil)
    (pss_cons
    (ps_asg (pe_partition (pv 0) (pe_gS rfl Z.g_DOTS)) (pg_tup rfl (pgs_cons (pg_name (i := 2) nd rfl (Or.inr rfl)) (pgs_cons (pg_name (i := 3) nd rfl (Or.inl rfl)) (pgs_cons (pg_name (i := 4) nd rfl (Or.inr rfl)) pgs_nil)))))
    (pss_cons
    (ps_set (i := 5) nd rfl (Or.inr rfl) (pe_op op_sub (pv 1) (pe_callB call_len_str (by rfl) Z.z_len (by decide +kernel) (pa_cons (pv 4) pa_nil))))
    (pss_one
    (ps_ret (pe_lc (own := [("at", 6)]) (g := gName 6) rfl nd (pi_range1 (by rfl) Z.z_range (pa_cons (pv 1) pa_nil)) (blkOk_by (N := N_part_places) (sc := defScope s_part_places) (by decide +kernel)) (fun _ _ _ _ _ => (pg_name (i := 6) nd rfl (Or.inl rfl))) (fun _ _ _ _ _ => (pts_one (PW.pt (pw_or (pt_val (pe_call D_has_plus.ok (hr.mono (by decide)) (by rfl) D_has_plus.g D_has_plus.kp D_has_plus.b .nil pass0 (pa_cons (pv 2) (pa_cons (pv 6) pa_nil)))) (pw_or1 (pt_val (pe_call D_has_plus.ok (hr.mono (by decide)) (by rfl) D_has_plus.g D_has_plus.kp D_has_plus.b .nil pass0 (pa_cons (pv 4) (pa_cons (pe_op op_sub (pv 6) (pv 5)) pa_nil))))))))) (fun _ _ _ _ _ => (pv 6)))))))), ?_⟩
    refine ⟨_, rfl, rfl, _, rfl, ?_⟩
    cases p with
    | all =>
      refine ifT (decide_eq_true rfl) ⟨_, rfl, n, rfl, .of_le (by decide) (by omega) (by decide) (by omega), fun a na => ?_⟩
      refine q _ a (same_new na) na ?_
      rw [upd_same, rgV_iV]
      rfl
    | pat f b =>
      have F := pat_facts hok
      obtain ⟨hf, hb⟩ := (show f.length ≤ 2 ∧ b.length ≤ 3 from hok)
      refine ifF (decide_eq_false fun z => F.ne (V.str.inj z)) ?_
      dsimp only [tNext]
      refine ⟨_, rfl, ⟨_, rfl⟩, _, _, rfl, rfl, by decide +kernel, sz1000 (Nat.lt_of_le_of_lt F.len (by decide)), fun a na => ?_⟩
      rw [F.part]
      refine ⟨a, _, rfl, .of upd_same, rfl, _, _, rfl, _, _, rfl, _, _, rfl, rfl, ?_⟩
      refine ⟨_, rfl, _, rfl, sT b, rfl, by rw [sT_len]; exact sz1000 (by omega), _, _, rfl, rfl, ?_⟩
      rw [sT_len]
      have s1 := same_new (o := .tup [V.str (sT f), .str ".." , .str (sT b)]) na
      generalize upd H a _ = H1 at s1 ⊢
      refine ⟨_, rfl, n, rfl, by omega, by omega, fun D9 nD => ?_⟩
      refine lc_range (lo := 0) (n := (n : Int).toNat) (fun i H' => Same H1 H' ∧ H' D9 = some (.lst (iV ((List.range i).filter (kat f b n))))) ⟨same_new nD, upd_same⟩ (fun i H' hi hP => ?_) (fun H' hP => ?_)
      · obtain ⟨s2, hd⟩ := hP
        have hcond : hp f (0 + (i : Int)) = hp f i := by rw [Int.zero_add]
        have hcond2 : hp b (0 + (i : Int) - ((n : Int) - b.length)) = hp b ((i : Int) - ((n : Int) - b.length)) := by rw [Int.zero_add]
        have fin1 : kat f b n i = true → ∃ acc, H' D9 = some (.lst acc) ∧ acc.length < sizeLine ∧ Same H1 (upd H' D9 (.lst (acc ++ [.int (0 + (i : Int))]))) ∧ (upd H' D9 (.lst (acc ++ [.int (0 + (i : Int))]))) D9 = some (.lst (iV ((List.range (i + 1)).filter (kat f b n)))) := fun hc => by
          refine ⟨_, hd, ?_, fun p o e => ?_, ?_⟩
          · rw [iV_len]
            refine small1000 (Nat.le_trans (List.length_filter_le _ _) ?_)
            rw [List.length_range]
            omega
          · rw [upd_ne (ne_of_none e nD)]
            exact s2 _ _ e
          · rw [upd_same, List.range_succ, List.filter_append, Int.zero_add]
            have e1 : [i].filter (kat f b n) = [i] := by rw [List.filter_cons, hc]; rfl
            rw [e1]
            unfold iV
            rw [List.map_append]
            rfl
        have fin0 : kat f b n i = false → Same H1 H' ∧ H' D9 = some (.lst (iV ((List.range (i + 1)).filter (kat f b n)))) := fun hc => by
          refine ⟨s2, ?_⟩
          rw [List.range_succ, List.filter_append]
          have e1 : [i].filter (kat f b n) = [] := by rw [List.filter_cons, hc]; rfl
          rw [e1, List.append_nil]
          exact hd
        refine ⟨rfl, _, rfl, _, rfl, f, _, rfl, by omega, _, rfl, ?_⟩
        rw [hcond]
        by_cases h1 : hp f i = true
        · refine ifT h1 (ifT rfl ⟨_, rfl, fin1 ?_⟩)
          unfold kat
          rw [h1, Bool.true_or]
        · have h1' := eq_false_of_ne_true h1
          refine ifF h1' ⟨_, rfl, _, rfl, _, rfl, _, _, rfl, rfl, b, _, rfl, by omega, _, rfl, ?_⟩
          rw [hcond2]
          have ec : kat f b n i = hp b ((i : Int) - ((n : Int) - b.length)) := by
            unfold kat
            rw [h1', Bool.false_or]
          by_cases h2 : hp b ((i : Int) - ((n : Int) - b.length)) = true
          · exact ifT h2 ⟨_, rfl, fin1 (ec.trans h2)⟩
          · have h2' := eq_false_of_ne_true h2
            exact ifF h2' (fin0 (ec.trans h2'))
      · obtain ⟨s2, hd⟩ := hP
        refine q _ _ (s1.trans s2) (s1.free nD) ?_
        rw [hd]
        rfl

theorem ok_kept (Z : Zs mg) (D : Df K mg "kept_places" s_kept_places P_kept_places f fd) {fp : Addr} {dp : FuncData} (D_part_places : Cl P w K mg base "part_places" 2 fp dp P_part_places spPlaces) : FnOk P w K mg base CX0 3 f fd P_kept_places (spKept K) := by
  refine D.F.ok sc_kept_places (fun vs H Q E h => ?_) (fun cdv A outer s H vs Q E hr h => ?_)
  · obtain ⟨a, ps, n, rfl, _⟩ := h
    rfl
  · obtain ⟨a, ps, n, rfl, hS, hok, hn, q⟩ := h
    have nd := sc_kept_places.nd
    refine ⟨_,
    (pss_cons
    (ps_set (i := 2) nd rfl (Or.inr rfl) (pe_listRg rfl (by rfl) Z.z_list (prg_1 (by rfl) Z.z_range (pv 1))))
    (pss_cons
    (ps_for PassesOwn.never rfl (pi_tup (pv 0)) (pg_name (i := 3) nd rfl (Or.inl rfl))
      (pss_one
      (ps_set (i := 2) nd rfl (Or.inr rfl) (pe_lc (own := [("at", 4)]) (g := gName 4) (tt := tYes) rfl nd (pi_list (pe_call D_part_places.ok (hr.mono (by decide)) (by rfl) D_part_places.g D_part_places.kp D_part_places.b .nil pass0 (pa_cons (pv 3) (pa_cons (pe_callB call_lenL (by rfl) Z.z_len (by decide +kernel) (pa_cons (pv 2) pa_nil)) pa_nil)))) (blkOk_by (N := N_kept_places) (sc := defScope s_kept_places) (by decide +kernel)) (fun _ _ _ _ _ => (pg_name (i := 4) nd rfl (Or.inl rfl))) (fun _ _ _ _ _ => pts_nil) (fun _ _ _ _ _ => (pe_ix (ixL (K := K) rfl) (pv 2) (pv 4) (fun _ _ => rfl)))))))
    (pss_one
    (ps_ret (pe_callTy call_tuple_of (by rfl) Z.z_tuple (by decide +kernel) (pa_cons (pv 2) pa_nil)))))), ?_⟩
    refine ⟨_, rfl, n, rfl, .of_le (by decide) (by omega) (by decide) (by omega), fun p np => ?_⟩
    rw [rgV_iV]
    have s1 := same_new (o := .lst (iV (List.range n))) np
    refine ⟨_, rfl, a, rfl, ⟨_, sameT s1 hS⟩, ?_⟩
    refine for_tup (xs := pV ps) (fun i σ' H' => Same H H' ∧ ∃ (l : Addr) (x3 x4 : Option V), σ' = [some (.ref a), some (.int n), some (.ref l), x3, x4] ∧ H l = none ∧ H' l = some (.lst (iV (run (ps.take i) (List.range n)))))
      ⟨s1, p, none, none, rfl, np, upd_same⟩ (fun i σ' H' _ hP => sameT hP.1 hS) (fun i x σ' H1 hx hP => ?_) (fun σ' H1 hP => ?_)
    · obtain ⟨s2, l, x3, x4, rfl, nl, hl⟩ := hP
      obtain ⟨pt, hpt, rfl⟩ : ∃ pt, ps[i]? = some pt ∧ x = V.str pt.text := by
        have hx' : (ps.map fun p => V.str p.text)[i]? = some x := hx
        rw [List.getElem?_map] at hx'
        cases e : ps[i]? with
        | none => rw [e] at hx'; cases hx'
        | some pt =>
          rw [e] at hx'
          exact ⟨pt, rfl, (Option.some.inj hx').symm⟩
      have hokp := hok pt (List.mem_of_getElem? hpt)
      generalize hrow : run (ps.take i) (List.range n) = row at hl
      have hrl : row.length ≤ n := by
        rw [← hrow]
        exact Nat.le_trans (run_len _ _) (Nat.le_of_eq List.length_range)
      have hnext : run (ps.take (i + 1)) (List.range n) = pick pt row := by
        rw [List.take_add_one, hpt, ← hrow]
        exact run_append _ _ _
      refine ⟨_, rfl, _, rfl, l, _, rfl, .of hl, pt, (iV row).length, rfl, hokp, by rw [iV_len]; omega, fun H2 q2 s3 nq hq2 => ?_⟩
      rw [iV_len] at hq2
      refine ⟨q2, rfl, ⟨_, .of hq2⟩, fun D9 nD => ?_⟩
      have hl2 := s3 _ _ hl
      have selt : ∀ j ∈ sel pt row.length, j < row.length := fun j hj => sel_lt hj
      refine lc_list (xs := iV (sel pt row.length)) (fun j H' => Same H2 H' ∧ H' D9 = some (.lst (iV (((sel pt row.length).take j).filterMap fun i => row[i]?))))
        ⟨same_new nD, upd_same⟩ (fun j H' _ hQ => .of (hQ.1 _ _ hq2)) (fun j y H' hy hQ => ?_) (fun H' hQ => ?_)
      · obtain ⟨s4, hd⟩ := hQ
        obtain ⟨m, hm, rfl⟩ : ∃ m, (sel pt row.length)[j]? = some m ∧ y = V.int (m : Int) := by
          have hy' : ((sel pt row.length).map fun (i : Nat) => V.int (i : Int))[j]? = some y := hy
          rw [List.getElem?_map] at hy'
          cases e : (sel pt row.length)[j]? with
          | none => rw [e] at hy'; cases hy'
          | some m =>
            rw [e] at hy'
            exact ⟨m, rfl, (Option.some.inj hy').symm⟩
        have hm2 := selt m (List.mem_of_getElem? hm)
        refine ⟨rfl, _, rfl, _, rfl, l, iV row, (m : Int), .int (row[m] : Int), rfl, rfl, .of (s4 _ _ hl2), atI_nat (iV_get (List.getElem?_eq_getElem hm2)), _, hd, ?_, same_set s4 nD, ?_⟩
        · rw [iV_len]
          refine small1000 (Nat.le_trans (List.length_filterMap_le _ _) ?_)
          rw [List.length_take]
          have h1 := List.getElem?_eq_some_iff.mp hm
          obtain ⟨h1, _⟩ := h1
          have : (sel pt row.length).length ≤ row.length := by
            cases pt with
            | all => exact Nat.le_of_eq List.length_range
            | pat f b => exact Nat.le_trans (List.length_filter_le _ _) (Nat.le_of_eq List.length_range)
          omega
        · rw [upd_same, List.take_add_one, hm, List.filterMap_append]
          have e1 : (some m).toList.filterMap (fun i => row[i]?) = [row[m]] := by
            show [m].filterMap (fun i => row[i]?) = [row[m]]
            rw [List.filterMap_cons, List.getElem?_eq_getElem hm2]
            rfl
          rw [e1]
          unfold iV
          rw [List.map_append]
          rfl
      · obtain ⟨s4, hd⟩ := hQ
        rw [List.take_of_length_le (by rw [iV_len]; exact Nat.le_refl _)] at hd
        refine ⟨((s2.trans s3).trans s4), D9, _, _, rfl, (s2.trans s3).free nD, ?_⟩
        rw [hnext]
        exact hd
    · obtain ⟨s2, l, x3, x4, rfl, nl, hl⟩ := hP
      have e1 : ps.take (pV ps).length = ps := List.take_of_length_le (by unfold pV; rw [List.length_map]; exact Nat.le_refl _)
      rw [e1] at hl
      refine ⟨_, rfl, l, _, rfl, .inl ⟨.of hl, fun t nt => q _ t (s2.trans (same_new nt)) (s2.free nt) upd_same⟩⟩

def spTable (K : PySem.W.Frag) : Sp := fun vs H Q _ => ∃ (a : Addr) (ps : List Part), vs = [.ref a] ∧ SqT K H a (pV ps) ∧ (∀ p ∈ ps, Ok p) ∧
  ∀ H' t ts, Same H H' → H t = none → H' t = some (.tup ts) → ts.length = 7 → (∀ j, j < 7 → ∃ q, ts[j]? = some (.ref q) ∧ H' q = some (.tup (iV (places ps j)))) → Q (.ref t) H'
theorem ok_table (Z : Zs mg) (D : Df K mg "table_of" s_table_of P_table_of f fd) {fp : Addr} {dp : FuncData} (D_kept_places : Cl P w K mg base "kept_places" 3 fp dp P_kept_places (spKept K)) : FnOk P w K mg base CX0 4 f fd P_table_of (spTable K) := by
  refine D.F.ok sc_table_of (fun vs H Q E h => ?_) (fun cdv A outer s H vs Q E hr h => ?_)
  · obtain ⟨a, ps, rfl, _⟩ := h
    rfl
  · obtain ⟨p, ps, rfl, hp, hok, q⟩ := h
    have nd := sc_table_of.nd
    refine ⟨_,
    (pss_one
    (ps_ret (pe_callTy call_tuple_of (by rfl) Z.z_tuple (by decide +kernel) (pa_cons (pe_lc (own := [("many", 1)]) (g := gName 1) (tt := tYes) rfl nd (pi_range1 (by rfl) Z.z_range (pa_cons (pe_op op_add (pe_gI rfl Z.g_REACH) pe_int) pa_nil)) (blkOk_by (N := N_table_of) (sc := defScope s_table_of) (by decide +kernel)) (fun _ _ _ _ _ => (pg_name (i := 1) nd rfl (Or.inl rfl))) (fun _ _ _ _ _ => pts_nil) (fun _ _ _ _ _ => (pe_call D_kept_places.ok (hr.mono (by decide)) (by rfl) D_kept_places.g D_kept_places.kp D_kept_places.b .nil pass0 (pa_cons (pv 0) (pa_cons (pv 1) pa_nil))))) pa_nil)))), ?_⟩
    refine ⟨_, _, rfl, rfl, 7, rfl, by decide, by decide, fun D9 nD => ?_⟩
    refine lc_range (lo := 0) (n := 7) (fun i H' => Same H H' ∧ ∃ ts : List V, H' D9 = some (.lst ts) ∧ ts.length = i ∧ ∀ j, j < i → ∃ q, ts[j]? = some (.ref q) ∧ H' q = some (.tup (iV (places ps j)))) ⟨same_new nD, [], upd_same, rfl, fun j hj => absurd hj (Nat.not_lt_zero _)⟩ (fun i H' hi hP => ?_) (fun H' hP => ?_)
    · obtain ⟨s2, ts, hd, hlen, hts⟩ := hP
      refine ⟨rfl, _, rfl, _, rfl, p, ps, i, by rw [Int.zero_add]; rfl, sameT s2 hp, hok, by omega, fun H3 r s3 nr hr3 => ⟨ts, s3 _ _ hd, by rw [hlen]; exact small1000 (by omega), same_set (s2.trans s3) nD, ts ++ [.ref r], upd_same, by rw [List.length_append, hlen]; rfl, fun j hj => ?_⟩⟩
      have hrD : r ≠ D9 := fun e => by rw [e, hd] at nr; cases nr
      by_cases e : j < i
      · obtain ⟨r', e1, e2⟩ := hts j e
        have hne2 : r' ≠ D9 := fun e => by rw [e, hd] at e2; cases e2
        refine ⟨r', ?_, ?_⟩
        · rw [List.getElem?_append_left (by omega)]
          exact e1
        · rw [upd_ne hne2]
          exact s3 _ _ e2
      · have e' : j = i := by omega
        subst e'
        refine ⟨r, ?_, ?_⟩
        · rw [← hlen, List.getElem?_append_right (Nat.le_refl _), Nat.sub_self]
          rfl
        · rw [upd_ne hrD]
          exact hr3
    · obtain ⟨s2, ts, hd, hlen, hts⟩ := hP
      refine ⟨D9, ts, rfl, .inl ⟨.of hd, fun t nt => ?_⟩⟩
      have s3 := same_new (o := .tup ts) nt
      exact q _ t ts (s2.trans s3) (s2.free nt) upd_same hlen fun j hj => by
        obtain ⟨r, e1, e2⟩ := hts j hj
        exact ⟨r, e1, s3 _ _ e2⟩

end
end K04
set_option Elab.async false
set_option linter.all false
set_option maxRecDepth 100000
set_option maxHeartbeats 4000000
/-! own layer: enumerate over a tuple -/
namespace PySem
open Sem (wp)
set_option maxHeartbeats 1000000 in
theorem ly_enum_new {v : Value} {o : Obj} {H : Heap → Prop} (B : Begins v o H) :
    Meets (Builtin.«enumerate.__new__» ⟨[.type "enumerate", v], []⟩) (fun _ R s => H s.heap ∧
      R (.ok (.ret (.ref (s.heap.push o).objs.size))) { s with heap := (s.heap.push o).push ({ cls := .type "enumerate", data := .fields #[.none, .bool false, .ref s.heap.objs.size, rawInt 0, .none, .none] } : Obj) }) :=
  .of_wp fun prog w A R s h => by
    obtain ⟨hp, gs, dr, tk, os⟩ := s
    obtain ⟨h1, h⟩ := h
    have sub := sub_enumerate
    have begin_ : ∀ {A' : Around} {E : Value → Shared → Prop} {Q : Value → Shared → Prop}, Q (.ref hp.objs.size) ⟨hp.push o, gs, dr, tk, os⟩ → wpAny (model prog w) A' (pyIter v) Q E ⟨hp, gs, dr, tk, os⟩ := fun q => B.iter prog w _ _ _ _ h1 q
    wp_walk using begin_
    refine wpAny_stack_any fun st => wpAny_pure ?_
    split
    · rename_i c _ _ _ _ _
      cases (c == Value.type "enumerate") <;> (wp_walk using begin_; exact ⟨_, rfl, h⟩)
    · wp_walk using begin_
      exact ⟨_, rfl, h⟩
theorem ly_enum_call {prog : Program} {w : World} {A : Around} {E : Value → Shared → Prop} {s : Shared} {v : Value} {o : Obj} {H : Heap → Prop} {Q : Value → Shared → Prop} (B : Begins v o H) (h1 : H s.heap)
    (h : ∀ h', IsEnum h' (s.heap.objs.size + 1) s.heap.objs.size 0 .none → h'.get? s.heap.objs.size = some o → (∀ b x, s.heap.get? b = some x → h'.get? b = some x) → Q (.ref (s.heap.objs.size + 1)) { s with heap := h' }) :
    wpAny (model prog w) A (call (.type "enumerate") [v]) Q E s := by
  refine callType_new F.called_enumerate (by decide) (F.typeCall_enumerate_1 _) (F.newCall_enumerate_1 _) (fun obj => F.args_object_init_2 obj _) F.entry_enumerate_new (ly_enum_new B) ⟨h1, ?_⟩
  have hz : (s.heap.push o).objs.size = s.heap.objs.size + 1 := Heap.size_push ..
  show _ ∧ _
  rw [hz]
  have he : IsEnum ((s.heap.push o).push { cls := .type "enumerate", data := .fields #[.none, .bool false, .ref s.heap.objs.size, rawInt 0, .none, .none] }) (s.heap.objs.size + 1) s.heap.objs.size 0 .none := by
    have k := Heap.get?_push_size (s.heap.push o) (o := { cls := .type "enumerate", data := .fields #[.none, .bool false, .ref s.heap.objs.size, rawInt 0, .none, .none] }) rfl
    rwa [hz] at k
  exact ⟨⟨_, he, rfl⟩, h _ he (Heap.get?_push_of_some _ (Heap.get?_push_size _ B.free)) fun b x q => Heap.get?_push_of_some _ (Heap.get?_push_of_some _ q)⟩
end PySem
namespace Ly
open PySem PySem.Spec PyProof.Rows L2
/-- the tuple at a, its items in new pairs with their places -/
def IteT (K : PySem.W.Frag) (a : Addr) : It :=
  ⟨fun i H => ∃ (xs : List V) (x : V), SqT K H a xs ∧ xs[i]? = some x, fun i H v H' => ∃ T x, v = .ref T ∧ H T = none ∧ H' = upd H T (.tup [.int (i : Nat), x]) ∧ ∀ xs, SqT K H a xs → xs[i]? = some x, fun i H => ∃ xs : List V, SqT K H a xs ∧ xs.length = i⟩
theorem turn_enumT {P : Program} {w : World} {K : PySem.W.Frag} {elts : List Expr} {kk : Nat} {tpos : Pos} (a e it : Addr) (hat : a ≠ it) (hae : e ≠ a) :
    Turn P w K (.Tuple elts kk tpos) (IteT K a) [e, it] e (fun i h => (∃ old, IsEnum h e it ((i : Nat) : Int) old) ∧ h.IsTupleIter it a i ∧ e ≠ it) where
  mem := List.mem_cons_self
  obj := fun i h st b hb => by
    obtain ⟨⟨old, he⟩, ⟨o, ho, hc, hd⟩, _⟩ := st
    rcases List.mem_cons.mp hb with z | z
    · rw [z]; exact ⟨_, he, fun v q => nomatch q⟩
    · rw [List.mem_singleton] at z
      exact ⟨o, z ▸ ho, fun v q => by rw [hd] at q; cases q⟩
  keep := fun i h h' st k => by
    obtain ⟨⟨old, he⟩, hi, hne⟩ := st
    exact ⟨⟨old, k e (by simp) _ he⟩, hi.at fun o q => k it (by simp) o q, hne⟩
  item := by
    intro X hP hw hK hc i pins s σ H E I hf st hg
    subst hP hw hK
    obtain ⟨⟨old, he⟩, hit, hne⟩ := st
    obtain ⟨xs, x, hq, hx⟩ := hg
    obtain ⟨its, rv, p, hz⟩ := I.tuple hq
    obtain ⟨u, hu, ru⟩ := rv.get hx
    have hel : e < s.heap.objs.size := Heap.lt_size he
    have hil : it < s.heap.objs.size := by
      obtain ⟨_, q, _⟩ := hit
      exact Heap.lt_size q
    have hin : i < its.toArray.size := by
      rw [List.size_toArray]
      exact (List.getElem?_eq_some_iff.mp hu).1
    refine wpAny_pyNext_enum_itemD (Draws.tuple (A := X.A.in1) (show X.A.in1.handled = none from I.ok.hd hc) it a hat its.toArray) he ⟨hit, p⟩ hin hne (by simp [hne, hae]) fun y h' tk hy ho st' hT hsz hk => ?_
    obtain ⟨hit', _⟩ := st'
    have ey : y = u := by
      have h2 : its[i]? = some y := by simpa using hy
      exact Option.some.inj (h2.symm.trans hu)
    subst ey
    refine ⟨_, rfl, wpAny_letOwnedTupleGo_enum (s := { s with heap := h', toks := tk + 1 }) ho fun h'' he' sb => ?_⟩
    have hT2 : h''.get? s.heap.objs.size = some { cls := .type "tuple", data := .seq #[.int i tk, y] } := (sb.2 _ (Nat.ne_of_gt hel)).trans hT
    have new : ObjOk X.prog X.w (upd H s.heap.objs.size (.tup [.int (i : Nat), x])) h'' s.heap.objs.size (.tup [.int (i : Nat), x]) :=
      ⟨by show 2 ≤ sizeLine; decide, [.int i tk, y], .cons ⟨_, rfl⟩ (.cons ru .nil), ⟨_, hT2, rfl, _, rfl⟩⟩
    have I1 : Inv X pins σ (upd H s.heap.objs.size (.tup [.int (i : Nat), x])) { s with heap := h'', toks := tk + 1 } :=
      I.turnedNew (ch := [e, it]) (fun b ob hb q => (sb.2 b (fun z => hb (by simp [z]))).trans (hk b ob (fun z => hb (by simp [z])) (fun z => hb (by simp [z])) q)) hf (Nat.le_refl _) new
    have e1 : ((i + 1 : Nat) : Int) = (i : Int) + 1 := by omega
    refine ⟨.ref s.heap.objs.size, _, I1, rfl, ⟨_, x, rfl, I.hok.fresh (Nat.le_refl _), rfl, fun ys hy' => by rw [I.tuple_inj hy' hq]; exact hx⟩, ⟨⟨y, by rw [e1]; exact he'⟩, hit'.at fun o q => (sb.2 it (Ne.symm hne)).trans q, hne⟩, fun b hb => ?_⟩
    have hb' : b < s.heap.objs.size := by
      rcases List.mem_cons.mp hb with z | z
      · rw [z]
        exact hel
      · rw [List.mem_singleton.mp z]
        exact hil
    rw [upd_ne (Nat.ne_of_lt hb')]
    exact (hf b hb).1
  done := by
    intro X hP hw hK hc i pins s σ H E I hf st hg
    subst hP hw hK
    obtain ⟨⟨old, he⟩, hit, hne⟩ := st
    obtain ⟨xs, hq, hx⟩ := hg
    obtain ⟨its, rv, p, hz⟩ := I.tuple hq
    obtain ⟨f0, f1, f2, f3, f4, f5⟩ := hf it (by simp)
    have hl : its.toArray.size = i := by
      rw [List.size_toArray, ← rv.length]
      exact hx
    have hit2 : s.heap.IsTupleIter it a its.toArray.size := by
      rw [hl]
      exact hit
    exact wpAny_pyNext_enum_endD (Draws.tuple (A := X.A.in1) (show X.A.in1.handled = none from I.ok.hd hc) it a hat its.toArray) he ⟨hit2, p⟩ fun h' eb => ⟨rfl, I.turned (t' := s.toks) (fun b o hb q => eb b o hb q) f0 f1 f3 f4 f5⟩
  self := fun A i s Q E st h => by
    obtain ⟨⟨_, he⟩, _⟩ := st
    exact wpAny_pyIter_enum he h
def iEnumT (K : PySem.W.Frag) (ta : TA) : TI := fun σ H R => ta σ H fun vs H1 => ∃ a xs, vs = [.ref a] ∧ SqT K H1 a xs ∧ R (IteT K a) H1
theorem pi_enumT {X : Cx} {e : Expr} {ta : TA} {p pos tpos : Pos} {elts : List Expr} {kk : Nat} (hg : Gl X "enumerate") (hm : X.mg "enumerate" = none) (ha : PA X [e] ta) (hs : starEach [e] X.env = [(false, eval e X.env)] := by rfl) :
    PI X (.Tuple elts kk tpos) (.Call (.Name "enumerate" p) [e] [] pos) (iEnumT X.K ta) := by
  refine ⟨fun pins s σ H R I h => ?_⟩
  refine Call_ (ld_blt I hg hm boot_enumerate (PyProof.Rows.callWith_type1 (thn (ha.run pos pins s σ H _ I h) fun us s1 hh => ?_) hs rfl))
  obtain ⟨vs, H1, I1, r1, a, xs, ex, hq, q⟩ := hh
  subst ex
  obtain ⟨u, rfl, ru⟩ := vals1 r1
  obtain rfl : u = Value.ref a := ru
  obtain ⟨its, rv, p', hz⟩ := I1.tuple hq
  have hal : a < s1.heap.objs.size := p'.lt
  refine ly_enum_call (begins_tuple a its.toArray) p' fun h' he hit hk => wpAny_pyIter_enum he ?_
  refine ⟨s1.heap.objs.size + 1, [s1.heap.objs.size + 1, s1.heap.objs.size], _, _, H1, rfl, I1.kept (t' := s1.toks) hk, turn_enumT a (s1.heap.objs.size + 1) s1.heap.objs.size (Nat.ne_of_lt hal) (Nat.ne_of_gt (Nat.lt_succ_of_lt hal)), ⟨⟨.none, he⟩, ⟨_, hit, rfl, rfl⟩, Nat.succ_ne_self _⟩, fun b hb => ?_, q⟩
  have hle : s1.heap.objs.size ≤ b := by
    rcases List.mem_cons.mp hb with z | z
    · rw [z]
      exact Nat.le_succ _
    · rw [List.mem_singleton.mp z]
      exact Nat.le_refl _
  exact I1.fpOk hle (I1.hok.fresh hle)
/-- the loop over it -/
theorem for_enumT {K : PySem.W.Frag} {a : Addr} {xs : List V} {g : TG} {tb : TS} {D : Ends} {σ : L2.St} {H : Hp} (Pv : Nat → L2.St → Hp → Prop) (h0 : Pv 0 σ H) (hl : ∀ i σ H, i ≤ xs.length → Pv i σ H → SqT K H a xs)
    (hs : ∀ i x σ H T, xs[i]? = some x → Pv i σ H → H T = none → g (.ref T) σ (upd H T (.tup [.int (i : Nat), x])) fun σ2 H2 => tb { D with nx := Pv (i + 1), ct := Pv (i + 1), bk := D.nx } σ2 H2) (hd : ∀ σ H, Pv xs.length σ H → D.nx σ H) :
    ∃ W : Nat → Nat → L2.St → Hp → Prop, (∃ m, W 0 m σ H) ∧ ∀ i m σ H, W i m σ H → ((IteT K a).stop i H ∧ D.nx σ H) ∨ ((IteT K a).go i H ∧ ∃ N : L2.St → Hp → Prop, (∀ σ' H', N σ' H' → ∃ m', m' < m ∧ W (i + 1) m' σ' H') ∧
      ∀ x H', (IteT K a).yld i H x H' → g x σ H' fun σ2 H2 => tb { D with nx := N, ct := N, bk := D.nx } σ2 H2) := by
  refine ⟨fun i m σ H => m + i = xs.length ∧ Pv i σ H, ⟨xs.length, by omega, h0⟩, ?_⟩
  rintro i m σ H ⟨em, p⟩
  have q := hl i σ H (by omega) p
  by_cases hlt : i < xs.length
  · refine .inr ⟨⟨xs, xs[i], q, List.getElem?_eq_getElem hlt⟩, Pv (i + 1), fun σ' H' p' => ⟨m - 1, by omega, by omega, p'⟩, fun v H' y => ?_⟩
    obtain ⟨T, x, rfl, nT, rfl, hx⟩ := y
    exact hs i x σ H T (hx xs q) p nT
  · have e : i = xs.length := by omega
    subst e
    exact .inl ⟨⟨xs, q, rfl⟩, hd σ H p⟩
end Ly

set_option Elab.async false
set_option linter.all false
set_option maxRecDepth 100000
set_option maxHeartbeats 4000000
/-! own classes: len, str, ==, != by their own defs; classes held by a variable, called with a star; made without arguments -/
namespace Ly
open PySem PySem.Spec PyProof.Rows L2
section
variable {X : Cx} {CX : CXT} {k : Nat} {f g C : Addr} {sp : Sp} {E : XK} {Q : VK} {us : List Value} {vs : List V} {A : Around} {pins : List (Addr × Obj)} {σ : L2.St} {H : Hp} {s : Shared}
theorem run_fnRA (F : FnR X.prog X.w X.K X.mg X.base CX k f sp) (hr : Room k A) (hf : A.frames = X.A.frames) (hx : Passes CX X E) (I : Inv X pins σ H s) (r : Vals vs us) (h : sp vs H Q E) :
    wpAny (model X.prog X.w) A (call (.ref f) us) (EP X pins σ Q) X.xe s := by
  have e := I.env0
  have e0 : Env0 X.prog X.w X.K X.mg X.base A X.stack s H := ⟨by rw [hf]; exact e.frames, e.mod, e.bs, e.bsz, e.funs, e.frf, e.hok, e.bare⟩
  refine wpAny_call (codeAny_mono (F A X.stack s H us vs Q E hr e0 r h) fun r s' hq => ?_)
  cases r with
  | error e => exact hx pins σ H s e s' I hq
  | ok fl =>
    cases fl with
    | ret u => exact I.after hq
    | next => exact False.elim hq
    | brk => exact False.elim hq
    | cont => exact False.elim hq
/-- the class at C has the def at g as its special m -/
structure Sp1 (K : PySem.W.Frag) (C g : Addr) (m : Str) : Prop where
  at_ : PySem.W.findIn K (.ref C) m = some (some (.ref g))
  fn : PySem.W.isFn K (.ref g) = true
theorem ins_inst {a C dx : Addr} {fs : List (Str × V)} (I : Inv X pins σ H s) (ea : H a = some (.ins C dx fs)) : ∃ ox od, PySem.W.InstAt s.heap a ox C od := by
  obtain ⟨mA, O, _⟩ := ins_get I.hok ea
  obtain ⟨od, J, _⟩ := O.look
  exact ⟨_, _, J⟩
def rLenO (C : Addr) (sp : Sp) (E : XK) : List V → Hp → VK → Prop := fun xs H Q => ∃ a dx fs, xs = [.ref a] ∧ H a = some (.ins C dx fs) ∧ sp [.ref a] H (fun v H' => ∃ n : Nat, v = .int n ∧ n < 2 ^ 62 ∧ Q (.int n) H') E
theorem call_lenO (c : Sp1 X.K C g "__len__") (F : FnR X.prog X.w X.K X.mg X.base CX k g sp) (hr : Room (k + 1) X.A) (hx : Passes CX X E) : CallR X (.builtin "len") (rLenO C sp E) := by
  intro pins s σ H xs us Q I r h
  obtain ⟨a, dx, fs, rfl, ea, q⟩ := h
  obtain ⟨u, rfl, r1⟩ := vals1 r
  obtain rfl : u = Value.ref a := r1
  obtain ⟨ox, od, J⟩ := ins_inst I ea
  obtain ⟨m, hF⟩ := I.fr
  refine PySem.W.len_K hF I.ok.mod.kin J c.at_ c.fn (wpAny_mono (run_fnRA (us := [.ref a]) (vs := [.ref a]) F hr.in1 rfl hx I (.cons rfl .nil) q) (fun v s' z => ?_) fun _ _ z => z)
  obtain ⟨w, H', I', rw_, n, rfl, hn, q'⟩ := z
  obtain ⟨t, rfl⟩ := (show ∃ t, v = Value.int (n : Int) t from rw_)
  have hn' : (n : Int) < 2 ^ 62 := by exact_mod_cast hn
  exact ⟨⟨Int.natCast_nonneg _, Int.lt_trans hn' (by decide)⟩, .int n, H', I'.tok _, ⟨_, rfl⟩, q'⟩
def rStrO (C : Addr) (sp : Sp) (E : XK) : List V → Hp → VK → Prop := fun xs H Q => ∃ a dx fs, xs = [.ref a] ∧ H a = some (.ins C dx fs) ∧ sp [.ref a] H (fun v H' => ∃ x : Str, v = .str x ∧ Q (.str x) H') E
theorem call_strO (c : Sp1 X.K C g "__str__") (F : FnR X.prog X.w X.K X.mg X.base CX k g sp) (hr : Room (k + 2) X.A) (hx : Passes CX X E) : CallR X (.type "str") (rStrO C sp E) := by
  intro pins s σ H xs us Q I r h
  obtain ⟨a, dx, fs, rfl, ea, q⟩ := h
  obtain ⟨u, rfl, r1⟩ := vals1 r
  obtain rfl : u = Value.ref a := r1
  obtain ⟨ox, od, J⟩ := ins_inst I ea
  refine PySem.W.kso_call hr.in1.in1.units0 I.kIn J c.at_ c.fn (wpAny_mono (run_fnRA (us := [.ref a]) (vs := [.ref a]) F hr.in1.in1 rfl hx I (.cons rfl .nil) q) (fun v s' z => ?_) fun _ _ z => z)
  obtain ⟨w, H', I', rw_, x, rfl, q'⟩ := z
  obtain ⟨t, rfl⟩ := (show ∃ t, v = Value.str x t from rw_)
  exact ⟨.str x, H', I', ⟨_, rfl⟩, q'⟩
/-! ### == and != of two instances of a class -/
def rEqO (C : Addr) (sp : Sp) (E : XK) (neg : Bool) : R2 := fun x y H Q => ∃ a b dx dy fs gs, x = .ref a ∧ y = .ref b ∧ H a = some (.ins C dx fs) ∧ H b = some (.ins C dy gs) ∧
  sp [.ref a, .ref b] H (fun v H' => ∃ t : Bool, v = .bl t ∧ Q (.bl (t != neg)) H') E
theorem op_eqO (c : Sp1 X.K C g "__eq__") (F : FnR X.prog X.w X.K X.mg X.base CX k g sp) (hr : Room k X.A) (hx : Passes CX X E) : OpR X (compareOp .Eq) (rEqO C sp E false) := by
  intro pins s σ H x y u v Q I rx ry h
  obtain ⟨a, b, dx, dy, fs, gs, rfl, rfl, ea, eb, q⟩ := h
  obtain rfl : u = Value.ref a := rx
  obtain rfl : v = Value.ref b := ry
  obtain ⟨ox, od, J⟩ := ins_inst I ea
  obtain ⟨oy, od', J'⟩ := ins_inst I eb
  obtain ⟨m, hF⟩ := I.fr
  refine PySem.W.cmp_ofEq (PySem.W.cmp_K (op := .Eq) (tb := .ref C) hr.units0 hF I.ok.mod.kin J J'.type (by simp [PySem.W.notFirst]) c.at_ c.fn ?_)
  refine wpAny_mono (run_fnRA (us := [.ref a, .ref b]) (vs := [.ref a, .ref b]) F hr rfl hx I (.cons rfl (.cons rfl .nil)) q) (fun v s' z => ?_) fun _ _ z => z
  obtain ⟨w, H', I', rw_, t, rfl, q'⟩ := z
  obtain rfl : v = Value.bool t := rw_
  refine ⟨.bl t, H', I', rfl, ?_⟩
  rw [Bool.bne_false] at q'
  exact q'
theorem ifBound_objNe {M : Model} {K : PySem.W.Frag} {A : Around} {E : Value → Shared → Prop} {s : Shared} {x C : Addr} {ox : Obj} {od : Option Obj} {args : List Value} {Q : Option Value → Shared → Prop} (X : K.In s.heap) (I : PySem.W.InstAt s.heap x ox C od)
    (hs : PySem.W.findIn K (.ref C) "__ne__" = some (some (.builtin "object.__ne__")))
    (h : wpAny M A (call (.builtin "object.__ne__") (.ref x :: args)) (fun v => Q (some v)) E s) : wpAny M A (callSpecialIfBound? (.ref x) "__ne__" args) Q E s := by
  simp only [callSpecialIfBound?, bindSpecialIfBound?]
  refine wpAny_holding (wpAny_bind (wpAny_bind (wpAny_bind (I.type.here ((PySem.W.looks_findIn X hs).here ?_)))))
  refine wpAny_bind (wpAny_askSetting (wpAny_ite ?_))
  have fin : wpAny M A (call (.builtin "object.__ne__") ([.ref x] ++ args) >>= fun v => pure (some v)) Q E s := wpAny_bind (wpAny_mono h (fun v s' h' => wpAny_pure h') fun _ _ h' => h')
  split
  · exact wpAny_bind (wpAny_of_eq (F.cmp_object.ne.bind _) (wpAny_pure (by exact fin)))
  · exact wpAny_tryCatch (wpAny_bind (wpAny_of_eq (F.cmp_object.ne.bind _) (wpAny_pure (by exact fin))))
theorem rc_ne {prog : Program} {w : World} {K : PySem.W.Frag} {A : Around} {E : Value → Shared → Prop} {s : Shared} {x C f : Addr} {ox : Obj} {od : Option Obj} {b tb : Value} {Q : Value → Shared → Prop} (hu : A.units + 1 < cLine) (X : K.In s.heap) (I : PySem.W.InstAt s.heap x ox C od)
    (hb : PySem.W.Looks (model prog w) s.heap (typeOf b) tb) (hn : PySem.W.notFirst K C tb = true) (hm : PySem.W.mroIn K C (.type "object") = some true) (hs : PySem.W.findIn K (.ref C) "__ne__" = some (some (.builtin "object.__ne__")))
    (he : PySem.W.findIn K (.ref C) "__eq__" = some (some (.ref f))) (hf : PySem.W.isFn K (.ref f) = true)
    (h : wpAny (model prog w) A.in1 (call (.ref f) [.ref x, b]) (fun v s' => ∃ t, v = .bool t ∧ Q (.bool (!t)) s') E s) : wpAny (model prog w) A (richCompare .NotEq (.ref x) b) Q E s := by
  have one : wpAny (model prog w) A (tryCompare (.ref x) "__ne__" b) (fun r s' => ∃ v, r = some v ∧ Q v s') E s := by
    unfold tryCompare
    refine wpAny_bind (ifBound_objNe X I hs (wpAny_call (codeAny_call_builtin F.cmp_object.ne.plain F.cmpEntry_ne (PySem.W.check_slot F.cmpKind_ne F.cmpSplit_ne (I.type.andThen (PySem.W.looks_mroIn X hm)) (F.cmpArgs_ne _ _) ?_))))
    unfold Builtin.«object.__ne__»
    refine wpAny_bind (wpAny_pure ?_)
    refine wpAny_bind (wpAny_cRoomFor hu ?_)
    refine wpAny_bind (m := callSpecialIfBound? (.ref x) (Str.ofString "__eq__") [b]) (PySem.W.ifBound_K X I he hf (wpAny_mono h (fun v s' hv => ?_) fun _ _ e => e))
    obtain ⟨t, rfl, q⟩ := hv
    refine wpAny_bind (wpAny_truthy_bool ?_)
    exact wpAny_pure (by exact wpAny_pure ⟨_, rfl, q⟩)
  unfold richCompare
  simp only [oneThing_ref, cmpInfo_NotEq]
  refine wpAny_holding (wpAny_bind (wpAny_cRoomFor (Nat.lt_of_succ_lt hu) ?_))
  refine wpAny_bind (I.type.here (wpAny_bind (hb.here ?_)))
  split
  · rename_i q
    have e : PySem.W.subIn K tb (.ref C) = some false := by
      rcases Bool.or_eq_true_iff.mp hn with e | e
      · rw [beq_iff_eq.mp e] at q; simp at q
      · exact beq_iff_eq.mp e
    refine wpAny_bind ((PySem.W.looks_subIn X e).here ?_)
    simp only [Bool.false_eq_true, if_false]
    refine wpAny_bind (wpAny_mono one (fun r s' z => ?_) fun _ _ e => e)
    obtain ⟨v, rfl, hq⟩ := z
    exact wpAny_pure hq
  · refine wpAny_bind (wpAny_pure ?_)
    simp only [Bool.false_eq_true, if_false]
    refine wpAny_bind (wpAny_mono one (fun r s' z => ?_) fun _ _ e => e)
    obtain ⟨v, rfl, hq⟩ := z
    exact wpAny_pure hq
/-- the class keeps object's own != -/
structure NeO (K : PySem.W.Frag) (C : Addr) : Prop where
  at_ : PySem.W.findIn K (.ref C) "__ne__" = some (some (.builtin "object.__ne__"))
  mro : PySem.W.mroIn K C (.type "object") = some true
theorem op_neO (c : Sp1 X.K C g "__eq__") (n : NeO X.K C) (F : FnR X.prog X.w X.K X.mg X.base CX k g sp) (hr : Room (k + 1) X.A) (hx : Passes CX X E) : OpR X (compareOp .NotEq) (rEqO C sp E true) := by
  intro pins s σ H x y u v Q I rx ry h
  obtain ⟨a, b, dx, dy, fs, gs, rfl, rfl, ea, eb, q⟩ := h
  obtain rfl : u = Value.ref a := rx
  obtain rfl : v = Value.ref b := ry
  obtain ⟨ox, od, J⟩ := ins_inst I ea
  obtain ⟨oy, od', J'⟩ := ins_inst I eb
  have hu : X.A.units + 1 < cLine := by have := hr.un; omega
  refine PySem.W.cmp_ofNotEq (rc_ne hu I.kIn J J'.type (by simp [PySem.W.notFirst]) n.mro n.at_ c.at_ c.fn ?_)
  refine wpAny_mono (run_fnRA (us := [.ref a, .ref b]) (vs := [.ref a, .ref b]) F hr.in1 rfl hx I (.cons rfl (.cons rfl .nil)) q) (fun v s' z => ?_) fun _ _ z => z
  obtain ⟨w, H', I', rw_, t, rfl, q'⟩ := z
  obtain rfl : v = Value.bool t := rw_
  refine ⟨t, rfl, .bl (!t), H', I', rfl, ?_⟩
  rw [Bool.bne_true] at q'
  exact q'
end
/-! ### making -/
section
variable {X : Cx} {CX : CXT} {k i : Nat} {f C : Addr} {sp : Sp} {E : XK} {x : Str} {e : Expr} {te : TE} {p pos sp_ : Pos}
theorem pe_makeR0 (M : Mk X.K C f) (F : FnR X.prog X.w X.K X.mg X.base CX k f sp) (hr : Room (k + 1) X.A) (hg : Gl X x) (hm : X.mg x = some (.ref C)) (hx : Passes CX X E) (hdb : (x == ("__debug__" : Str)) = false := by decide) :
    PE X (.Call (.Name x p) [] [] pos) (StX.tMakeR C sp E tNil) := by
  refine ⟨fun pins s σ H Q I h => ?_⟩
  refine wpAny_Call_Name_kw (ld_glob I hg hm ?_ hdb)
  exact PySem.W.callWith_K0 I.kIn M.kp (StX.run_makeR (us := []) M F hr hx I .nil h)
/-- x(*e), x a variable that holds the class at C -/
def tMakeVS (K : PySem.W.Frag) (C : Addr) (sp : Sp) (E : XK) (tx te : TE) : TE := fun σ H Q => tx σ H fun c H0 => c = .ref C ∧ te σ H0 fun y H1 => ∃ a xs, y = .ref a ∧ (SqT K H1 a xs ∨ SqL K H1 a xs) ∧
  ∀ x dx, H1 x = none → H1 dx = none → dx ≠ x → sp (V.ref x :: xs) (upd (upd H1 dx (.own x)) x (.ins C dx [])) (fun v H2 => v = .non ∧ Q (.ref x) H2) E
theorem pe_makeVS {tx : TE} (M : Mk X.K C f) (F : FnR X.prog X.w X.K X.mg X.base CX k f sp) (hr : Room (k + 1) X.A) (hx : Passes CX X E) (hv : PE X (.Name x p) tx) (he : PE X e te)
    (hst : starEach [.Starred e sp_] X.env = [(true, eval e X.env)] := by rfl) : PE X (.Call (.Name x p) [.Starred e sp_] [] pos) (tMakeVS X.K C sp E tx te) := by
  refine ⟨fun pins s σ H Q I h => ?_⟩
  refine wpAny_Call_Name_kw (thn (hv.run pins s σ H _ I h) fun u s1 ⟨c, H0, I0, rc, ec, q⟩ => ?_)
  subst ec
  obtain rfl : u = Value.ref C := rc
  refine PySem.W.callWith_S (h₀ := X.base) I.ok.mod.kin M.kp (thn (he.run pins s1 σ H0 _ I0 q) fun v s2 ⟨y, H1, I1, ry, a, xs, ey, hxs, q1⟩ => ?_) hst
  subst ey
  obtain rfl : v = Value.ref a := ry
  exact StX.star_any I1 hxs fun us s3 I3 rv => ⟨I3.kIn, StX.run_makeR M F hr hx I3 rv q1⟩
/-- C(*e), C a class of the module -/
theorem pe_makeS (M : Mk X.K C f) (F : FnR X.prog X.w X.K X.mg X.base CX k f sp) (hr : Room (k + 1) X.A) (hg : Gl X x) (hm : X.mg x = some (.ref C)) (hx : Passes CX X E) (he : PE X e te) (hdb : (x == ("__debug__" : Str)) = false := by decide)
    (hst : starEach [.Starred e sp_] X.env = [(true, eval e X.env)] := by rfl) : PE X (.Call (.Name x p) [.Starred e sp_] [] pos) (tMakeVS X.K C sp E (tC (.ref C)) te) :=
  pe_makeVS M F hr hx (pe_glob (v := .ref C) hg hm rfl hdb) he hst
end
end Ly

namespace Ly
open PySem PySem.Spec PyProof.Rows L2
section
variable {P : Program} {w : World} {K : PySem.W.Frag} {mg : Str → Option Value} {base : Heap} {k : Nat} {f : Addr} {fd : FuncData} {x qual : Str} {st : Stmt} {N ps : List Str} {pv : Str} {sp : Sp}
/-- a def whose last parameter takes what is left -/
theorem fun_star (F : Fun K x qual st f fd) (S : FnScope N (ps ++ [pv]) (defScope st))
    (hb : ∀ (kV doc pm : Value) (an : Option Addr) (cdv ct : Value) (us rest : List Value), us.length = ps.length → bindArgs (PySem.W.fnOf x qual (defArgs st) (defBody st) (defScope st) .none kV doc pm an cdv ct) ⟨us ++ rest, []⟩ = (newTuple rest >>= fun t => pure (ps.zip us ++ [(pv, t)])))
    (hbody : ∀ (cdv : Value) (A : Around) (outer : List Env) (s : Shared) (H : Hp) (vs : List V) (Q : VK) (E : XK), Room k (A.deeper (envOfC qual (defScope st) s.heap.objs.size f cdv)) → sp vs H Q E →
      ∃ t, PSs (cxOf CX0 P w K mg base N qual (defScope st) f cdv A outer s H E).nox (defBody st) t ∧ t { nx := fun _ H' => Q .non H', rt := Q } (start N vs) H) :
    FnR P w K mg base CX0 (k + 1) f (fun vs H Q E => ∃ ws rest, vs = ws ++ rest ∧ ws.length = ps.length ∧ rest.length ≤ sizeLine ∧ ∀ p, H p = none → sp (ws ++ [V.ref p]) (upd H p (.tup rest)) Q E) := by
  obtain ⟨oc, od, kV, doc, pm, an, cdv, ct, osl, rfl, lk, hcd⟩ := F.ex
  refine StX.fn_star lk hcd S StX.cxUp_none (fun us rest h => hb kV doc pm an cdv ct us rest h) fun A outer s H vs Q E hr hsp => ?_
  obtain ⟨t, h, q⟩ := hbody cdv A outer s H vs Q E hr hsp
  exact ⟨t, h.nox, q⟩
/-- a def of a class -/
structure Dm (K : PySem.W.Frag) (x qual : Str) (st : Stmt) (ps : List Str) (f : Addr) (fd : FuncData) : Prop where
  F : Fun K x qual st f fd
  b : Binds K fd ps []
theorem Dm.raw {CX : CXT} {x qual : Str} {st : Stmt} (D : Dm K x qual st ps f fd) (o : FnOk P w K mg base CX k f fd ps sp) : FnR P w K mg base CX k f sp := by
  have z := o.raw D.b .nil
  exact z.imp fun vs H Q E h => by rw [List.append_nil]; exact h
end
end Ly
namespace Ly
open PySem PySem.Spec PyProof.Rows L2
/-- a comprehension over things that stay: what is kept is told by f -/
theorem lc_fm {J : It} {g : TG} {tt : TT} {te : TE} {vs : List Nat} {σ : L2.St} {H1 : Hp} {D : Addr} {Qd : Hp → Prop} (xs : List V) (f : V → Option V) (nD : H1 D = none) (hz : xs.length ≤ sizeLine)
    (hgo : ∀ (i : Nat) (H : Hp), i < xs.length → Same H1 H → J.go i H) (hst : ∀ H, Same H1 H → J.stop xs.length H) (hy : ∀ (i : Nat) (x : V) (H H' : Hp), Same H1 H → J.yld i H x H' → H' = H ∧ xs[i]? = some x)
    (hs : ∀ (i : Nat) (x : V) (H : Hp) (Q : VK) (N : Hp → Prop), xs[i]? = some x → Same H1 H → (∀ y H4, f x = some y → Same H H4 → Q y H4) → (f x = none → ∀ H4, Same H H4 → N H4) →
      g x (wipe σ vs) H fun σ2 H2 => wipe σ2 vs = wipe σ vs ∧ tt σ2 H2 fun b H3 => if b = true then te σ2 H3 Q else N H3)
    (hd : ∀ H', Same H1 H' → H' D = some (.lst (xs.filterMap f)) → Qd H') : LcW J g tt te vs σ H1 D Qd := by
  refine lc_gen (n := xs.length) (fun i H => Same H1 H ∧ H D = some (.lst ((xs.take i).filterMap f))) ⟨same_new nD, upd_same⟩ (fun i H hi p => hgo i H hi p.1) (fun H p => hst H p.1) (fun i x H H' hi p y => ?_) (fun H p => ?_)
  · obtain ⟨s, hd'⟩ := p
    obtain ⟨rfl, hx⟩ := hy i x H H' s y
    have hstep : ∀ o : Option V, f x = o → (xs.take (i + 1)).filterMap f = (xs.take i).filterMap f ++ o.toList := fun o e => by
      rw [List.take_add_one, hx, List.filterMap_append]
      show _ ++ [x].filterMap f = _
      rw [List.filterMap_cons, e]
      cases o <;> rfl
    refine hs i x H' _ _ hx s (fun y H4 e s4 => ⟨_, s4 _ _ hd', ?_, same_set (s.trans s4) nD, ?_⟩) fun e H4 s4 => ⟨s.trans s4, ?_⟩
    · refine Nat.lt_of_le_of_lt (List.length_filterMap_le _ _) ?_
      rw [List.length_take]
      omega
    · rw [upd_same, hstep _ e]
      rfl
    · rw [hstep _ e, s4 _ _ hd']
      show _ = some (HO.lst (_ ++ []))
      rw [List.append_nil]
  · obtain ⟨s, hd'⟩ := p
    rw [List.take_of_length_le (Nat.le_refl _)] at hd'
    exact hd H s hd'
theorem filterMap_some {α β : Type} (f : α → β) : ∀ xs : List α, xs.filterMap (fun x => some (f x)) = xs.map f
  | [] => rfl
  | x :: xs => by
    rw [List.filterMap_cons, filterMap_some f xs]
    rfl
/-- .. over a tuple, all of it -/
theorem lc_mapT {K : PySem.W.Frag} {a : Addr} {g : TG} {tt : TT} {te : TE} {vs : List Nat} {σ : L2.St} {H1 : Hp} {D : Addr} {Qd : Hp → Prop} (xs : List V) (f : V → V) (hS : SqT K H1 a xs) (nD : H1 D = none) (hz : xs.length ≤ sizeLine)
    (hs : ∀ (i : Nat) (x : V) (H : Hp) (Q : VK) (N : Hp → Prop), xs[i]? = some x → Same H1 H → (∀ H4, Same H H4 → Q (f x) H4) → g x (wipe σ vs) H fun σ2 H2 => wipe σ2 vs = wipe σ vs ∧ tt σ2 H2 fun b H3 => if b = true then te σ2 H3 Q else N H3)
    (hd : ∀ H', Same H1 H' → H' D = some (.lst (xs.map f)) → Qd H') : LcW (Itt K a) g tt te vs σ H1 D Qd := by
  refine lc_tup (xs := xs) (fun i H => Same H1 H ∧ H D = some (.lst ((xs.take i).map f))) ⟨same_new nD, upd_same⟩ (fun i H _ p => sameT p.1 hS) (fun i x H hx p => ?_) (fun H p => ?_)
  · obtain ⟨s, hd'⟩ := p
    refine hs i x H _ _ hx s fun H4 s4 => ⟨_, s4 _ _ hd', ?_, same_set (s.trans s4) nD, ?_⟩
    · rw [List.length_map, List.length_take]
      have := (List.getElem?_eq_some_iff.mp hx).1
      omega
    · rw [upd_same, List.take_add_one, hx, List.map_append]
      rfl
  · obtain ⟨s, hd'⟩ := p
    rw [List.take_of_length_le (Nat.le_refl _)] at hd'
    exact hd H s hd'
/-- .. over a list -/
theorem lc_mapL {K : PySem.W.Frag} {a : Addr} {g : TG} {tt : TT} {te : TE} {vs : List Nat} {σ : L2.St} {H1 : Hp} {D : Addr} {Qd : Hp → Prop} (xs : List V) (f : V → Option V) (hS : SqL K H1 a xs) (nD : H1 D = none) (hz : xs.length ≤ sizeLine)
    (hs : ∀ (i : Nat) (x : V) (H : Hp) (Q : VK) (N : Hp → Prop), xs[i]? = some x → Same H1 H → (∀ y H4, f x = some y → Same H H4 → Q y H4) → (f x = none → ∀ H4, Same H H4 → N H4) →
      g x (wipe σ vs) H fun σ2 H2 => wipe σ2 vs = wipe σ vs ∧ tt σ2 H2 fun b H3 => if b = true then te σ2 H3 Q else N H3)
    (hd : ∀ H', Same H1 H' → H' D = some (.lst (xs.filterMap f)) → Qd H') : LcW (Itl K a) g tt te vs σ H1 D Qd := by
  have hS' : ∀ H, Same H1 H → SqL K H a xs := fun H s => by
    rcases hS with (h | ⟨o, h⟩) | h
    · exact .inl (.inl (s _ _ h))
    · exact .inl (.inr ⟨o, s _ _ h⟩)
    · exact .inr h
  refine lc_list (xs := xs) (fun i H => Same H1 H ∧ H D = some (.lst ((xs.take i).filterMap f))) ⟨same_new nD, upd_same⟩ (fun i H _ p => hS' H p.1) (fun i x H hx p => ?_) (fun H p => ?_)
  · obtain ⟨s, hd'⟩ := p
    have hi := (List.getElem?_eq_some_iff.mp hx).1
    have hstep : ∀ o : Option V, f x = o → (xs.take (i + 1)).filterMap f = (xs.take i).filterMap f ++ o.toList := fun o e => by
      rw [List.take_add_one, hx, List.filterMap_append]
      show _ ++ [x].filterMap f = _
      rw [List.filterMap_cons, e]
      cases o <;> rfl
    refine hs i x H _ _ hx s (fun y H4 e s4 => ⟨_, s4 _ _ hd', ?_, same_set (s.trans s4) nD, ?_⟩) fun e H4 s4 => ⟨s.trans s4, ?_⟩
    · refine Nat.lt_of_le_of_lt (List.length_filterMap_le _ _) ?_
      rw [List.length_take]
      omega
    · rw [upd_same, hstep _ e]
      rfl
    · rw [hstep _ e, s4 _ _ hd']
      show _ = some (HO.lst (_ ++ []))
      rw [List.append_nil]
  · obtain ⟨s, hd'⟩ := p
    rw [List.take_of_length_le (Nat.le_refl _)] at hd'
    exact hd H s hd'
end Ly

set_option Elab.async false
set_option linter.all false
set_option maxRecDepth 100000
set_option maxHeartbeats 8000000
namespace K04
open PySem PySem.Spec PyProof.Rows L2 Ly Cut

abbrev s_init : Stmt := inClass (topS 25) 0
abbrev N_init : List Str := ["self", "parts"]
abbrev P_init : List Str := ["self", "parts"]
theorem sc_init : FnScope N_init P_init (defScope s_init) := ⟨rfl, rfl, rfl, by decide +kernel, rfl, by decide +kernel, by decide +kernel⟩

section
variable {P : Program} {w : World} {K : PySem.W.Frag} {mg : Str → Option Value} {base : Heap} {f : Addr} {fd : FuncData}
def spIsPart : Sp := fun vs H Q _ => ∃ p : Part, vs = [.str p.text] ∧ Ok p ∧ ∀ H', Same H H' → Q (.bl true) H'
def spCheck (K : PySem.W.Frag) : Sp := fun vs H Q _ => ∃ (a : Addr) (ps : List Part), vs = [.ref a] ∧ SqT K H a (pV ps) ∧ (∀ p ∈ ps, Ok p) ∧ ps.length ≤ 4 ∧ ∀ H', Same H H' → Q .non H'
theorem ok_is_part (Z : Zs mg) (D : Df K mg "is_part" s_is_part P_is_part f fd) : FnOk P w K mg base CX0 1 f fd P_is_part spIsPart := by
  refine D.F.ok sc_is_part (fun vs H Q E h => ?_) (fun cdv A outer s H vs Q E hr h => ?_)
  · obtain ⟨p, rfl, _⟩ := h
    rfl
  · obtain ⟨p, rfl, hok, q⟩ := h
    have nd := sc_is_part.nd
    refine ⟨_,
    (pss_cons
    (ps_if (pt_not (pt_val (pe_callB call_isi (by rfl) Z.z_isinstance (by decide +kernel) (pa_cons (pv 0) (pa_cons (pe_bltn (v := .ty "str") (by rfl) Z.z_str (by decide +kernel) rfl) pa_nil)))))
      (pss_one
      (ps_ret pe_bl))
      pss_nil)
    (pss_cons
    (ps_if (pt_cmpR op_eq (pv 0) (pe_gS rfl Z.g_KEEP_ALL) (nomark _))
      (pss_one
      (ps_ret pe_bl))
      pss_nil)
    (pss_cons
    (ps_asg (pe_partition (pv 0) (pe_gS rfl Z.g_DOTS)) (pg_tup rfl (pgs_cons (pg_name (i := 1) nd rfl (Or.inl rfl)) (pgs_cons (pg_name (i := 2) nd rfl (Or.inl rfl)) (pgs_cons (pg_name (i := 3) nd rfl (Or.inl rfl)) pgs_nil)))))
    (pss_cons
    (ps_if (PW.pt (pw_or (pt_cmpR op_ne (pv 2) (pe_gS rfl Z.g_DOTS) (nomark _)) (pw_or (pt_cmpR op_gt (pe_callB call_len_str (by rfl) Z.z_len (by decide +kernel) (pa_cons (pv 1) pa_nil)) (pe_gI rfl Z.g_MAX_FRONT) (nomark _)) (pw_or1 (pt_cmpR op_gt (pe_callB call_len_str (by rfl) Z.z_len (by decide +kernel) (pa_cons (pv 3) pa_nil)) (pe_gI rfl Z.g_MAX_BACK) (nomark _))))))
      (pss_one
      (ps_ret pe_bl))
      pss_nil)
    (pss_one
    (ps_ret (pe_callB (cr_all rfl) (by rfl) Z.z_all (by decide +kernel) (pa_cons (pe_lc (own := [("sign", 4)]) (g := gName 4) (tt := tYes) rfl nd (pi_str (pe_op op_add_str (pv 1) (pv 3))) (blkOk_by (N := N_is_part) (sc := defScope s_is_part) (by decide +kernel)) (fun _ _ _ _ _ => (pg_name (i := 4) nd rfl (Or.inl rfl))) (fun _ _ _ _ _ => pts_nil) (fun _ _ _ _ _ => (pe_cmpR (inK (K := K) rfl) (pv 4) (pe_tup (pa_cons pe_str (pa_cons pe_str pa_nil))) (by rfl)))) pa_nil)))))))), ?_⟩
    refine ⟨_, rfl, .str p.text, .ty "str", _, _, true, rfl, .ty _, .base (.str p.text), kit_ty (by decide +kernel), true, rfl, ?_⟩
    refine ⟨_, rfl, rfl, _, rfl, ?_⟩
    cases p with
    | all => exact ifT (decide_eq_true rfl) (q H (Same.refl H))
    | pat f b =>
      have F := pat_facts hok
      obtain ⟨hf, hb⟩ := (show f.length ≤ 2 ∧ b.length ≤ 3 from hok)
      refine ifF (decide_eq_false fun z => F.ne (V.str.inj z)) ?_
      dsimp only [tNext]
      refine ⟨_, rfl, ⟨_, rfl⟩, _, _, rfl, rfl, by decide +kernel, sz1000 (Nat.lt_of_le_of_lt F.len (by decide)), fun a na => ?_⟩
      rw [F.part]
      refine ⟨a, _, rfl, .of upd_same, rfl, _, _, rfl, _, _, rfl, _, _, rfl, rfl, ?_⟩
      have s1 := same_new (o := .tup [V.str (sT f), .str ".." , .str (sT b)]) na
      generalize upd H a _ = H1 at s1 ⊢
      refine ⟨_, rfl, rfl, _, rfl, ifF rfl ?_⟩
      refine ⟨_, rfl, sT f, rfl, by rw [sT_len]; exact sz1000 (by omega), _, _, rfl, rfl, _, rfl, ?_⟩
      rw [sT_len]
      refine ifF (decide_eq_false (by omega)) ?_
      refine ⟨_, rfl, sT b, rfl, by rw [sT_len]; exact sz1000 (by omega), _, _, rfl, rfl, _, rfl, ?_⟩
      rw [sT_len]
      refine ifF (decide_eq_false (by omega)) ?_
      dsimp only [tNext]
      refine ⟨_, rfl, _, rfl, sT f, sT b, rfl, rfl, by rw [sT_len, sT_len]; exact sz1000 (by omega), sT f ++ sT b, rfl, fun D9 nD => ?_⟩
      have hall : ∀ c ∈ (sT f ++ sT b).cps.toList, c = 43 ∨ c = 45 := fun c hc => by
        rw [app_cps] at hc
        rcases List.mem_append.mp hc with h | h
        · exact sT_sign h
        · exact sT_sign h
      have hlen : (sT f ++ sT b).cps.toList.length ≤ 5 := by
        rw [app_cps, List.length_append, str_len, str_len, sT_len, sT_len]
        omega
      generalize sT f ++ sT b = z at hall hlen ⊢
      refine lc_gen (n := z.cps.size) (fun i H' => Same H1 H' ∧ H' D9 = some (.lst ((List.replicate i true).map V.bl))) ⟨same_new nD, upd_same⟩ (fun i H' hi _ => hi) (fun H' _ => Nat.le_refl _) ?_ ?_
      · intro i x H2 H' hi hP y
        obtain ⟨rfl, c, hc, rfl⟩ := y
        obtain ⟨s2, hd⟩ := hP
        have hl : z.cps.size = z.cps.toList.length := by simp
        have hc' : c = 43 ∨ c = 45 := hall c (List.mem_of_getElem? (by simpa using hc))
        refine ⟨rfl, _, rfl, by show 2 ≤ sizeLine; decide, fun t nt => ⟨t, _, rfl, .inr (.of upd_same), rfl, rfl, _, same_new nt _ _ hd, ?_, ?_, ?_⟩⟩
        · rw [List.length_map, List.length_replicate]
          exact small1000 (by omega)
        · refine same_set (s2.trans (same_new nt)) ?_
          exact nD
        · rw [upd_same]
          have e1 : (if false = true then !inV (V.str ⟨#[c]⟩) [V.str "+", V.str "-"] else inV (V.str ⟨#[c]⟩) [V.str "+", V.str "-"]) = true := by
            rcases hc' with e | e <;> rw [e] <;> decide +kernel
          rw [e1, List.replicate_succ', List.map_append]
          rfl
      · intro H' hP
        obtain ⟨s2, hd⟩ := hP
        refine ⟨D9, _, rfl, .of hd, ?_⟩
        have e1 : (List.replicate z.cps.size true).all id = true := by
          rw [List.all_eq_true]
          intro x hx
          rw [(List.mem_replicate.mp hx).2]
          rfl
        rw [e1]
        exact q H' (s1.trans s2)

theorem ok_check (Z : Zs mg) (D : Df K mg "check_parts" s_check_parts P_check_parts f fd) {fp : Addr} {dp : FuncData} (D_is_part : Cl P w K mg base "is_part" 1 fp dp P_is_part spIsPart) : FnOk P w K mg base CX0 2 f fd P_check_parts (spCheck K) := by
  refine D.F.ok sc_check_parts (fun vs H Q E h => ?_) (fun cdv A outer s H vs Q E hr h => ?_)
  · obtain ⟨a, ps, rfl, _⟩ := h
    rfl
  · obtain ⟨a, ps, rfl, hS, hok, hl, q⟩ := h
    have nd := sc_check_parts.nd
    refine ⟨_,
    (pss_one
    (ps_for PassesOwn.never rfl (pi_enumT (by rfl) Z.z_enumerate (pa_cons (pv 0) pa_nil)) (pg_tup rfl (pgs_cons (pg_name (i := 1) nd rfl (Or.inl rfl)) (pgs_cons (pg_name (i := 2) nd rfl (Or.inl rfl)) pgs_nil)))
      (pss_cons
      (ps_if (pt_cmpR op_ge (pv 1) (pe_gI rfl Z.g_MAX_PARTS) (nomark _))
        (pss_one
        ps_never)
        pss_nil)
      (pss_one
      (ps_if (pt_not (pt_val (pe_call D_is_part.ok (hr.mono (by decide)) (by rfl) D_is_part.g D_is_part.kp D_is_part.b .nil pass0 (pa_cons (pv 2) pa_nil))))
        (pss_one
        ps_never)
        pss_nil))))), ?_⟩
    refine ⟨_, rfl, a, _, rfl, hS, ?_⟩
    refine for_enumT (xs := pV ps) (fun i σ' H' => Same H H' ∧ ∃ x1 x2, σ' = [some (.ref a), x1, x2]) ⟨Same.refl H, none, none, rfl⟩ (fun i σ' H' _ hP => sameT hP.1 hS) (fun i x σ' H1 T hx hP nT => ?_) (fun σ' H1 hP => ?_)
    · obtain ⟨s1, x1, x2, rfl⟩ := hP
      obtain ⟨pt, hpt, rfl⟩ : ∃ pt, ps[i]? = some pt ∧ x = V.str pt.text := by
        have hx' : (ps.map fun p => V.str p.text)[i]? = some x := hx
        rw [List.getElem?_map] at hx'
        cases e : ps[i]? with
        | none => rw [e] at hx'; cases hx'
        | some pt =>
          rw [e] at hx'
          exact ⟨pt, rfl, (Option.some.inj hx').symm⟩
      have hi := (List.getElem?_eq_some_iff.mp hpt).1
      refine ⟨T, _, rfl, .of upd_same, rfl, _, _, rfl, _, _, rfl, rfl, ?_⟩
      refine ⟨_, rfl, _, _, rfl, rfl, _, rfl, ifF (decide_eq_false (by omega)) ?_⟩
      dsimp only [tNext]
      refine ⟨_, rfl, pt, rfl, hok pt (List.mem_of_getElem? hpt), fun H2 s2 => ⟨true, rfl, ifF rfl ?_⟩⟩
      exact ⟨(s1.trans (same_new nT)).trans s2, _, _, rfl⟩
    · obtain ⟨s1, x1, x2, rfl⟩ := hP
      exact q H1 s1

end
end K04
set_option Elab.async false
set_option linter.all false
set_option maxRecDepth 100000
set_option maxHeartbeats 4000000
/-! cutters as objects -/
namespace Cut
open PySem PySem.Spec PyProof.Rows L2 Ly
theorem pV_len (ps : List Part) : (pV ps).length = ps.length := List.length_map _
theorem pV_get {ps : List Part} {i : Nat} {x : V} (hx : (pV ps)[i]? = some x) : ∃ pt, ps[i]? = some pt ∧ x = V.str pt.text := by
  have hx' : (ps.map fun p => V.str p.text)[i]? = some x := hx
  rw [List.getElem?_map] at hx'
  cases e : ps[i]? with
  | none => rw [e] at hx'; cases hx'
  | some pt =>
    rw [e] at hx'
    exact ⟨pt, rfl, (Option.some.inj hx').symm⟩
/-- the value at a place -/
def atV (xs : List V) : V → V
  | .int i => xs.getD i.toNat .non
  | _ => .non
theorem map_atV (ps : List Part) (xs : List V) : (iV (places ps xs.length)).map (atV xs) = run ps xs := by
  rw [run_get]
  have h : ∀ l : List Nat, (∀ i ∈ l, i < xs.length) → (iV l).map (atV xs) = l.filterMap fun i => xs[i]? := by
    intro l
    induction l with
    | nil => intro _; rfl
    | cons a l ih =>
      intro h
      have ha := h a List.mem_cons_self
      rw [List.filterMap_cons, List.getElem?_eq_getElem ha, ← ih fun i hi => h i (List.mem_cons_of_mem _ hi)]
      show xs.getD (a : Int).toNat .non :: _ = _
      rw [Int.toNat_natCast, List.getD_eq_getElem?_getD, List.getElem?_eq_getElem ha]
      rfl
  exact h _ fun i hi => places_lt hi
/-- where the five places stand in a longer row, as values -/
def embV (n : Nat) : V → V
  | .int i => .int (if i < 2 then i else i + ((n : Int) - 5))
  | _ => .non
theorem map_embV {ps : List Part} (hok : ∀ p ∈ ps, Ok p) (h : keepsAll ps = false) {n : Nat} (hn : 5 ≤ n) : (iV (places ps 5)).map (embV n) = iV (places ps n) := by
  rw [places_five ps hok h n hn]
  unfold iV
  rw [List.map_map, List.map_map]
  refine List.map_congr_left fun i _ => ?_
  show V.int (if (i : Int) < 2 then (i : Int) else (i : Int) + ((n : Int) - 5)) = V.int ((emb n i : Nat) : Int)
  unfold emb
  by_cases h2 : i < 2
  · rw [if_pos h2, if_pos (by omega)]
  · rw [if_neg h2, if_neg (by omega)]
    refine congrArg V.int ?_
    omega
theorem iV_getI {l : List Nat} {i : Nat} {x : V} (hx : (iV l)[i]? = some x) : ∃ m : Nat, l[i]? = some m ∧ x = .int (m : Int) := by
  have hx' : (l.map fun (i : Nat) => V.int (i : Int))[i]? = some x := hx
  rw [List.getElem?_map] at hx'
  cases e : l[i]? with
  | none => rw [e] at hx'; cases hx'
  | some m =>
    rw [e] at hx'
    exact ⟨m, rfl, (Option.some.inj hx').symm⟩
/-- a cutter with these parts stands at x -/
structure CutAt (C : Addr) (H : Hp) (x : Addr) (ps : List Part) : Prop where
  ok : ∀ p ∈ ps, Ok p
  le : ps.length ≤ 4
  ex : ∃ (dx p t : Addr) (ts : List V), H x = some (.ins C dx [("_parts", .ref p), ("_table", .ref t), ("_keeps_all", .bl (keepsAll ps))]) ∧ H p = some (.tup (pV ps)) ∧ H t = some (.tup ts) ∧ ts.length = 7 ∧ ∀ i, i < 7 → ∃ q, ts[i]? = some (.ref q) ∧ H q = some (.tup (iV (places ps i)))
theorem CutAt.mono {C x : Addr} {H H' : Hp} {ps : List Part} (c : CutAt C H x ps) (k : ∀ b o, (∀ xs, o ≠ .lst xs) → H b = some o → H' b = some o) : CutAt C H' x ps := by
  obtain ⟨dx, p, t, ts, h1, h2, h3, hl, h4⟩ := c.ex
  refine ⟨c.ok, c.le, dx, p, t, ts, k _ _ (fun _ z => nomatch z) h1, k _ _ (fun _ z => nomatch z) h2, k _ _ (fun _ z => nomatch z) h3, hl, fun i hi => ?_⟩
  obtain ⟨q, e, hq⟩ := h4 i hi
  exact ⟨q, e, k _ _ (fun _ z => nomatch z) hq⟩
theorem CutAt.same {C x : Addr} {H H' : Hp} {ps : List Part} (c : CutAt C H x ps) (s : Same H H') : CutAt C H' x ps := c.mono fun b o _ h => s b o h
theorem CutAt.chg {C x d : Addr} {H H' : Hp} {ps : List Part} {xs : List V} (c : CutAt C H x ps) (s : Chg d H H') (hd : H d = some (.lst xs)) : CutAt C H' x ps :=
  c.mono fun b o n h => s b o (fun e => n xs (by rw [e, hd] at h; exact (Option.some.inj h).symm)) h
/-- what the class must have -/
structure CK (K : PySem.W.Frag) (C : Addr) : Prop where
  cls : Cls K C
  np : NoAttr K C "_parts"
  nt : NoAttr K C "_table"
  nk : NoAttr K C "_keeps_all"
  cc : PySem.W.findIn K (.ref C) "__class__" = some (some (.builtin "object.__class__"))
  cg : PySem.W.specialIn K (.builtin "object.__class__") "__get__" = some (some (.builtin "getset_descriptor.__get__"))
  ct : PySem.W.takesIn K (.builtin "object.__class__") = some true
  cm : PySem.W.mroIn K C (.type "object") = some true
  kit : PySem.W.kitOne K (.ref C) (.ref C) = some true
theorem CK.ty {K : PySem.W.Frag} {C : Addr} (c : CK K C) {H : Hp} {a dx : Addr} {fs : List (Str × V)} (e : H a = some (.ins C dx fs)) : TyX K H (.ref a) (.ref C) := .base (.ins e c.cls c.cc c.cg c.ct c.cm)
/-! ### tables as data -/
def dI (l : List Nat) : PyData := .tuple (l.map fun (i : Nat) => PyData.int (i : Int))
def dT (ps : List Part) : PyData := .tuple ((List.range 7).map fun i => dI (places ps i))
/-- the two keep the same of up to six places -/
def alike (ps qs : List Part) : Bool := (List.range 7).all fun i => decide (places ps i = places qs i)
theorem dpAll_iV {K : PySem.W.Frag} {H : Hp} : ∀ l : List Nat, DpAll K H (iV l) (l.map fun (i : Nat) => PyData.int (i : Int))
  | [] => .nil
  | i :: l => .cons (.int _) (dpAll_iV l)
theorem dp_iV {K : PySem.W.Frag} {H : Hp} {q : Addr} {l : List Nat} (h : H q = some (.tup (iV l))) : Dp K H (.ref q) (dI l) := .tup (.of h) (dpAll_iV l)
theorem dpAll_of {K : PySem.W.Frag} {H : Hp} {α : Type} (d : α → PyData) : ∀ (l : List α) (ts : List V), ts.length = l.length → (∀ (i : Nat) (x : α), l[i]? = some x → ∃ v, ts[i]? = some v ∧ Dp K H v (d x)) → DpAll K H ts (l.map d)
  | [], [], _, _ => .nil
  | [], _ :: _, h, _ => by cases h
  | _ :: _, [], h, _ => by cases h
  | x :: l, t :: ts, h, k => by
    obtain ⟨v, e, hv⟩ := k 0 x rfl
    cases e
    exact .cons hv (dpAll_of d l ts (Nat.succ.inj h) fun i y hy => k (i + 1) y hy)
theorem dp_table {K : PySem.W.Frag} {H : Hp} {t : Addr} {ts : List V} {ps : List Part} (h : H t = some (.tup ts)) (hl : ts.length = 7) (k : ∀ i, i < 7 → ∃ q, ts[i]? = some (.ref q) ∧ H q = some (.tup (iV (places ps i)))) : Dp K H (.ref t) (dT ps) := by
  refine .tup (.of h) (dpAll_of (fun i => dI (places ps i)) _ _ (by rw [hl, List.length_range]) fun i x hx => ?_)
  obtain ⟨hi, e⟩ := List.getElem?_eq_some_iff.mp hx
  rw [List.length_range] at hi
  rw [List.getElem_range] at e
  subst e
  obtain ⟨q, e1, e2⟩ := k i hi
  exact ⟨_, e1, dp_iV e2⟩
theorem eqvAll_ints : ∀ a b : List Nat, PyData.eqvAll (a.map fun (i : Nat) => PyData.int (i : Int)) (b.map fun (i : Nat) => PyData.int (i : Int)) = decide (a = b)
  | [], [] => rfl
  | [], _ :: _ => rfl
  | _ :: _, [] => rfl
  | x :: a, y :: b => by
    show (((x : Int) == (y : Int)) && PyData.eqvAll (a.map fun (i : Nat) => PyData.int (i : Int)) (b.map fun (i : Nat) => PyData.int (i : Int))) = _
    rw [eqvAll_ints a b]
    by_cases h : x = y
    · subst h
      rw [beq_self_eq_true, Bool.true_and, decide_eq_decide]
      exact ⟨fun h => by rw [h], fun h => (List.cons.inj h).2⟩
    · rw [show ((x : Int) == (y : Int)) = false from beq_eq_false_iff_ne.mpr (by omega), Bool.false_and]
      exact (decide_eq_false fun z => h (List.cons.inj z).1).symm
theorem eqv_dI (a b : List Nat) : PyData.eqv (dI a) (dI b) = decide (a = b) := eqvAll_ints a b
theorem eqvAll_map {α : Type} (f g : α → List Nat) : ∀ l : List α, PyData.eqvAll (l.map fun i => dI (f i)) (l.map fun i => dI (g i)) = l.all fun i => decide (f i = g i)
  | [] => rfl
  | x :: l => by
    show (PyData.eqv (dI (f x)) (dI (g x)) && PyData.eqvAll (l.map fun i => dI (f i)) (l.map fun i => dI (g i))) = _
    rw [eqv_dI, eqvAll_map f g l, List.all_cons]
theorem eqv_dT (ps qs : List Part) : PyData.eqv (dT ps) (dT qs) = alike ps qs := eqvAll_map _ _ _
theorem shp_ints : ∀ l : List Nat, PyData.canLayAll0 (l.map fun (i : Nat) => PyData.int (i : Int)) = true ∧ PyData.depthAll (l.map fun (i : Nat) => PyData.int (i : Int)) = 0
  | [] => ⟨rfl, rfl⟩
  | x :: l => by
    obtain ⟨h1, h2⟩ := shp_ints l
    exact ⟨h1, by show max 0 _ = 0; rw [h2]; rfl⟩
theorem shp_dI (l : List Nat) : SeqAt.shaped (dI l) = true := by
  obtain ⟨h1, h2⟩ := shp_ints l
  show (PyData.canLayAll0 (l.map fun (i : Nat) => PyData.int (i : Int)) && decide (PyData.depthAll (l.map fun (i : Nat) => PyData.int (i : Int)) + 1 ≤ 64)) = true
  rw [h1, h2]
  rfl
theorem shp_map {α : Type} (f : α → List Nat) : ∀ l : List α, PyData.canLayAll0 (l.map fun i => dI (f i)) = true ∧ PyData.depthAll (l.map fun i => dI (f i)) ≤ 1
  | [] => ⟨rfl, Nat.zero_le _⟩
  | x :: l => by
    obtain ⟨h1, h2⟩ := shp_map f l
    obtain ⟨h3, h4⟩ := shp_ints (f x)
    refine ⟨?_, ?_⟩
    · show (PyData.canLayAll0 ((f x).map fun (i : Nat) => PyData.int (i : Int)) && PyData.canLayAll0 (l.map fun i => dI (f i))) = true
      rw [h3, h1]
      rfl
    · show max (PyData.depthAll ((f x).map fun (i : Nat) => PyData.int (i : Int)) + 1) (PyData.depthAll (l.map fun i => dI (f i))) ≤ 1
      rw [h4]
      omega
theorem shp_dT (ps : List Part) : SeqAt.shaped (dT ps) = true := by
  obtain ⟨h1, h2⟩ := shp_map (fun i => places ps i) (List.range 7)
  show (PyData.canLayAll0 ((List.range 7).map fun i => dI (places ps i)) && decide (PyData.depthAll ((List.range 7).map fun i => dI (places ps i)) + 1 ≤ 64)) = true
  rw [h1]
  show decide _ = true
  exact decide_eq_true (by omega)
/-! ### what its defs promise -/
def cutText (ps : List Part) : Str := if ps = [] then "all" else Txt.join " > " (ps.map Part.text)
def spParts (C : Addr) : Sp := fun vs H Q _ => ∃ (x : Addr) (ps : List Part), vs = [.ref x] ∧ CutAt C H x ps ∧ ∀ p, H p = some (.tup (pV ps)) → Q (.ref p) H
def spKeeps (C : Addr) : Sp := fun vs H Q _ => ∃ (x : Addr) (ps : List Part), vs = [.ref x] ∧ CutAt C H x ps ∧ ∀ H', Same H H' → Q (.bl (keepsAll ps)) H'
def spCutLen (C : Addr) : Sp := fun vs H Q _ => ∃ (x : Addr) (ps : List Part), vs = [.ref x] ∧ CutAt C H x ps ∧ Q (.int ps.length) H
def spCutStr (C : Addr) : Sp := fun vs H Q _ => ∃ (x : Addr) (ps : List Part), vs = [.ref x] ∧ CutAt C H x ps ∧ ∀ H', Same H H' → Q (.str (cutText ps)) H'
def spCutEq (C : Addr) : Sp := fun vs H Q _ => ∃ (x y : Addr) (ps qs : List Part), vs = [.ref x, .ref y] ∧ CutAt C H x ps ∧ CutAt C H y qs ∧ Q (.bl (alike ps qs)) H
def spCutPlaces (C : Addr) : Sp := fun vs H Q _ => ∃ (x : Addr) (ps : List Part) (n : Nat), vs = [.ref x, .int n] ∧ CutAt C H x ps ∧ n ≤ 1000 ∧ ∀ H' q, Same H H' → H' q = some (.tup (iV (places ps n))) → Q (.ref q) H'
def spCutCall (C : Addr) : Sp := fun vs H Q _ => ∃ (x r : Addr) (ps : List Part) (xs : List V), vs = [.ref x, .ref r] ∧ CutAt C H x ps ∧ H r = some (.tup xs) ∧ xs.length ≤ 1000 ∧ ∀ H' q, Same H H' → H q = none → H' q = some (.tup (run ps xs)) → Q (.ref q) H'
def spCutOf (C : Addr) : Sp := fun vs H Q _ => ∃ (a : Addr) (ps : List Part), vs = [.ref C, .ref a] ∧ H a = some (.tup (pV ps)) ∧ (∀ p ∈ ps, Ok p) ∧ ps.length ≤ 4 ∧ ∀ H' x, Same H H' → H x = none → CutAt C H' x ps → Q (.ref x) H'
end Cut

set_option Elab.async false
set_option linter.all false
set_option maxRecDepth 100000
set_option maxHeartbeats 8000000
namespace K04
open PySem PySem.Spec PyProof.Rows L2 Ly Cut

abbrev s_of : Stmt := inClass (topS 25) 1
abbrev N_of : List Str := ["cls", "parts"]
abbrev P_of : List Str := ["cls", "parts"]
theorem sc_of : FnScope N_of P_of (defScope s_of) := ⟨rfl, rfl, rfl, by decide +kernel, rfl, by decide +kernel, by decide +kernel⟩

abbrev s_parts : Stmt := inClass (topS 25) 3
abbrev N_parts : List Str := ["self"]
abbrev P_parts : List Str := ["self"]
theorem sc_parts : FnScope N_parts P_parts (defScope s_parts) := ⟨rfl, rfl, rfl, by decide +kernel, rfl, by decide +kernel, by decide +kernel⟩

abbrev s_keeps_all : Stmt := inClass (topS 25) 4
abbrev N_keeps_all : List Str := ["self"]
abbrev P_keeps_all : List Str := ["self"]
theorem sc_keeps_all : FnScope N_keeps_all P_keeps_all (defScope s_keeps_all) := ⟨rfl, rfl, rfl, by decide +kernel, rfl, by decide +kernel, by decide +kernel⟩

abbrev s_callc : Stmt := inClass (topS 25) 5
abbrev N_callc : List Str := ["self", "row", "at"]
abbrev P_callc : List Str := ["self", "row"]
theorem sc_callc : FnScope N_callc P_callc (defScope s_callc) := ⟨rfl, rfl, rfl, by decide +kernel, rfl, by decide +kernel, by decide +kernel⟩

abbrev s_places : Stmt := inClass (topS 25) 6
abbrev N_places : List Str := ["self", "many", "between", "at"]
abbrev P_places : List Str := ["self", "many"]
theorem sc_places : FnScope N_places P_places (defScope s_places) := ⟨rfl, rfl, rfl, by decide +kernel, rfl, by decide +kernel, by decide +kernel⟩

abbrev s_lenc : Stmt := inClass (topS 25) 11
abbrev N_lenc : List Str := ["self"]
abbrev P_lenc : List Str := ["self"]
theorem sc_lenc : FnScope N_lenc P_lenc (defScope s_lenc) := ⟨rfl, rfl, rfl, by decide +kernel, rfl, by decide +kernel, by decide +kernel⟩

abbrev s_eqc : Stmt := inClass (topS 25) 12
abbrev N_eqc : List Str := ["self", "other"]
abbrev P_eqc : List Str := ["self", "other"]
theorem sc_eqc : FnScope N_eqc P_eqc (defScope s_eqc) := ⟨rfl, rfl, rfl, by decide +kernel, rfl, by decide +kernel, by decide +kernel⟩

abbrev s_strc : Stmt := inClass (topS 25) 13
abbrev N_strc : List Str := ["self"]
abbrev P_strc : List Str := ["self"]
theorem sc_strc : FnScope N_strc P_strc (defScope s_strc) := ⟨rfl, rfl, rfl, by decide +kernel, rfl, by decide +kernel, by decide +kernel⟩

abbrev s_keep_all : Stmt := topS 23
abbrev N_keep_all : List Str := ["parts", "part"]
abbrev P_keep_all : List Str := ["parts"]
theorem sc_keep_all : FnScope N_keep_all P_keep_all (defScope s_keep_all) := ⟨rfl, rfl, rfl, by decide +kernel, rfl, by decide +kernel, by decide +kernel⟩

section
variable {P : Program} {w : World} {K : PySem.W.Frag} {mg : Str → Option Value} {base : Heap} {f C : Addr} {fd : FuncData}
def spInitB (C : Addr) : Sp := fun vs H Q _ => ∃ (x dx p : Addr) (ps : List Part), vs = [.ref x, .ref p] ∧ H x = some (.ins C dx []) ∧ H p = some (.tup (pV ps)) ∧ (∀ p ∈ ps, Ok p) ∧ ps.length ≤ 4 ∧ ∀ H', Chg x H H' → CutAt C H' x ps → Q .non H'
def spKeepAll (K : PySem.W.Frag) : Sp := fun vs H Q _ => ∃ (a : Addr) (ps : List Part), vs = [.ref a] ∧ SqT K H a (pV ps) ∧ (∀ p ∈ ps, Ok p) ∧ ps.length ≤ 4 ∧ ∀ H', Same H H' → Q (.bl (keepsAll ps)) H'
theorem ok_keep_all (Z : Zs mg) (D : Df K mg "keep_all" s_keep_all P_keep_all f fd) : FnOk P w K mg base CX0 1 f fd P_keep_all (spKeepAll K) := by
  refine D.F.ok sc_keep_all (fun vs H Q E h => ?_) (fun cdv A outer s H vs Q E hr h => ?_)
  · obtain ⟨a, ps, rfl, _⟩ := h
    rfl
  · obtain ⟨a, ps, rfl, hS, hok, hl, q⟩ := h
    have nd := sc_keep_all.nd
    refine ⟨_,
    (pss_one
    (ps_ret (pe_callB (cr_all rfl) (by rfl) Z.z_all (by decide +kernel) (pa_cons (pe_lc (own := [("part", 1)]) (g := gName 1) (tt := tYes) rfl nd (pi_tup (pv 0)) (blkOk_by (N := N_keep_all) (sc := defScope s_keep_all) (by decide +kernel)) (fun _ _ _ _ _ => (pg_name (i := 1) nd rfl (Or.inl rfl))) (fun _ _ _ _ _ => pts_nil) (fun _ _ _ _ _ => (pe_cmpR op_eq (pv 1) (pe_gS rfl Z.g_KEEP_ALL) (nomark _)))) pa_nil)))), ?_⟩
    refine ⟨_, rfl, a, rfl, ⟨_, hS⟩, fun D9 nD => ?_⟩
    refine lc_mapT (pV ps) (fun v => .bl (decide (v = V.str "all"))) hS nD (by rw [pV_len]; exact sz1000 (by omega)) (fun i v H1 Q' N hv s1 k => ?_) (fun H1 s1 hd => ?_)
    · obtain ⟨pt, _, rfl⟩ := pV_get hv
      exact ⟨rfl, _, rfl, rfl, k H1 (Same.refl H1)⟩
    · refine ⟨D9, ps.map fun p => decide (p = .all), rfl, .of ?_, ?_⟩
      · rw [hd]
        unfold pV
        rw [List.map_map, List.map_map]
        refine congrArg (fun l => some (HO.lst l)) (List.map_congr_left fun pt hpt => ?_)
        show V.bl (decide (V.str pt.text = V.str "all")) = V.bl (decide (pt = .all))
        rw [← text_all (hok pt hpt)]
        refine congrArg V.bl ?_
        rw [decide_eq_decide]
        exact ⟨fun h => V.str.inj h, fun h => congrArg V.str h⟩
      · rw [List.all_map]
        exact q H1 s1
/-- a cutter is made of these parts -/
def spInit (C : Addr) : Sp := fun vs H Q _ => ∃ (x dx : Addr) (ps : List Part), vs = .ref x :: pV ps ∧ H x = some (.ins C dx []) ∧ (∀ p ∈ ps, Ok p) ∧ ps.length ≤ 4 ∧ ∀ H', Chg x H H' → CutAt C H' x ps → Q .non H'
theorem ok_init (Z : Zs mg) (F : Fun K "__init__" "Cutter.__init__" s_init f fd) (c : CK K C) {f1 f2 : Addr} {d1 d2 : FuncData} (D_check_parts : Cl P w K mg base "check_parts" 2 f1 d1 P_check_parts (spCheck K))
    (D_table_of : Cl P w K mg base "table_of" 4 f2 d2 P_table_of (spTable K)) {f3 : Addr} {d3 : FuncData} (D_keep_all : Cl P w K mg base "keep_all" 1 f3 d3 P_keep_all (spKeepAll K)) : FnR P w K mg base CX0 5 f (spInit C) := by
  have main : FnR P w K mg base CX0 5 f (fun vs H Q E => ∃ ws rest, vs = ws ++ rest ∧ ws.length = ["self"].length ∧ rest.length ≤ sizeLine ∧ ∀ p, H p = none → spInitB C (ws ++ [V.ref p]) (upd H p (.tup rest)) Q E) := by
    refine fun_star (ps := ["self"]) (pv := "parts") (N := N_init) F sc_init (fun kV doc pm an cdv ct => StX.bind_star1 (B := fun l => bindArgs (PySem.W.fnOf "__init__" "Cutter.__init__" (defArgs s_init) (defBody s_init) (defScope s_init) .none kV doc pm an cdv ct) ⟨l, []⟩) (fun a => rfl) (fun a r rs => rfl)) (fun cdv A outer s H vs Q E hr h => ?_)
    obtain ⟨x, dx, p, ps, rfl, hx, hp, hok, hl, q⟩ := h
    have nd := sc_init.nd
    refine ⟨_,
    (pss_cons
    (ps_expr (pe_call D_check_parts.ok (hr.mono (by decide)) (by rfl) D_check_parts.g D_check_parts.kp D_check_parts.b .nil pass0 (pa_cons (pv 1) pa_nil)))
    (pss_cons
    (ps_fld (pv 0) (pv 1) rfl)
    (pss_cons
    (ps_fld (pv 0) (pe_call D_table_of.ok (hr.mono (by decide)) (by rfl) D_table_of.g D_table_of.kp D_table_of.b .nil pass0 (pa_cons (pv 1) pa_nil)) rfl)
    (pss_one
    (ps_fld (pv 0) (pe_call D_keep_all.ok (hr.mono (by decide)) (by rfl) D_keep_all.g D_keep_all.kp D_keep_all.b .nil pass0 (pa_cons (pv 1) pa_nil)) rfl))))), ?_⟩
    refine ⟨_, rfl, p, ps, rfl, .of hp, hok, hl, fun H1 s1 => ?_⟩
    have hx1 := s1 _ _ hx
    have hp1 := s1 _ _ hp
    refine ⟨_, rfl, _, rfl, x, C, dx, [], rfl, hx1, c.cls, c.np, by decide, ?_⟩
    have c1 : Chg x H (upd H1 x (.ins C dx [("_parts", .ref p)])) := (Chg.of s1).upd
    have hne : p ≠ x := fun e => by rw [e, hx] at hp; cases hp
    have hp2 : (upd H1 x (.ins C dx [("_parts", .ref p)])) p = some (.tup (pV ps)) := by rw [upd_ne hne]; exact hp1
    have hx2 : (upd H1 x (.ins C dx [("_parts", .ref p)])) x = some (.ins C dx [("_parts", .ref p)]) := upd_same
    dsimp only [putF] at *
    generalize upd H1 x (.ins C dx [("_parts", .ref p)]) = H2 at c1 hp2 hx2 ⊢
    refine ⟨_, rfl, p, ps, rfl, .of hp2, hok, fun H3 t ts s4 nt ht hlen hts => ?_⟩
    refine ⟨_, rfl, x, C, dx, [("_parts", .ref p)], rfl, s4 _ _ hx2, c.cls, c.nt, by show 1 < 1000; decide, ?_⟩
    have ntx : t ≠ x := fun e => by rw [e, hx2] at nt; cases nt
    have c4 := (c1.trans (Chg.of s4)).upd (d := x) (o := HO.ins C dx [("_parts", .ref p), ("_table", .ref t)])
    have hp4 : (upd H3 x (.ins C dx [("_parts", .ref p), ("_table", .ref t)])) p = some (.tup (pV ps)) := by rw [upd_ne hne]; exact s4 _ _ hp2
    have ht4 : (upd H3 x (.ins C dx [("_parts", .ref p), ("_table", .ref t)])) t = some (.tup ts) := by rw [upd_ne ntx]; exact ht
    have hx4 : (upd H3 x (.ins C dx [("_parts", .ref p), ("_table", .ref t)])) x = some (.ins C dx [("_parts", .ref p), ("_table", .ref t)]) := upd_same
    have hq4 : ∀ j, j < 7 → ∃ q, ts[j]? = some (.ref q) ∧ (upd H3 x (.ins C dx [("_parts", .ref p), ("_table", .ref t)])) q = some (.tup (iV (places ps j))) := fun j hj => by
      obtain ⟨r, e1, e2⟩ := hts j hj
      have nrx : r ≠ x := fun e => by rw [e, s4 _ _ hx2] at e2; cases e2
      exact ⟨r, e1, by rw [upd_ne nrx]; exact e2⟩
    rw [show putF "_table" (V.ref t) [("_parts", V.ref p)] = [((("_parts" : Str)), V.ref p), ((("_table" : Str)), V.ref t)] from rfl]
    generalize upd H3 x (.ins C dx [("_parts", .ref p), ("_table", .ref t)]) = H4 at c4 hp4 ht4 hx4 hq4 ⊢
    refine ⟨_, rfl, p, ps, rfl, .of hp4, hok, hl, fun H5 s5 => ?_⟩
    refine ⟨_, rfl, x, C, dx, [("_parts", .ref p), ("_table", .ref t)], rfl, s5 _ _ hx4, c.cls, c.nk, by show 2 < 1000; decide, ?_⟩
    refine q _ ((c4.trans (Chg.of s5)).upd) ⟨hok, hl, dx, p, t, ts, upd_same, ?_, ?_, hlen, fun j hj => ?_⟩
    · rw [upd_ne hne]
      exact s5 _ _ hp4
    · rw [upd_ne ntx]
      exact s5 _ _ ht4
    · obtain ⟨r, e1, e2⟩ := hq4 j hj
      have nrx : r ≠ x := fun e => by rw [e, hx4] at e2; cases e2
      exact ⟨r, e1, by rw [upd_ne nrx]; exact s5 _ _ e2⟩
  refine main.imp fun vs H Q E h => ?_
  obtain ⟨x, dx, ps, rfl, hx, hok, hl, q⟩ := h
  refine ⟨[.ref x], pV ps, rfl, rfl, ?_, fun p np => ⟨x, dx, p, ps, rfl, ?_, upd_same, hok, hl, fun H' c' k => q H' (fun b o hb e => c' b o hb (same_new np b o e)) k⟩⟩
  · unfold pV
    rw [List.length_map]
    exact sz1000 (by omega)
  · exact same_new np _ _ hx

abbrev s_is_whole : Stmt := topS 2
abbrev N_is_whole : List Str := ["value"]
abbrev P_is_whole : List Str := ["value"]
theorem sc_is_whole : FnScope N_is_whole P_is_whole (defScope s_is_whole) := ⟨rfl, rfl, rfl, by decide +kernel, rfl, by decide +kernel, by decide +kernel⟩

def spWhole (K : PySem.W.Frag) : Sp := fun vs H Q _ => ∃ (x : V) (t : String) (b1 b2 : Bool), vs = [x] ∧ Ly.TyB K H x t ∧ kitB t "int" = some b1 ∧ (b1 = true → kitB t "bool" = some b2) ∧ Q (.bl (b1 && !b2)) H
theorem ok_whole (Z : Zs mg) (D : Df K mg "is_whole" s_is_whole P_is_whole f fd) : FnOk P w K mg base CX0 1 f fd P_is_whole (spWhole K) := by
  refine D.F.ok sc_is_whole (fun vs H Q E h => ?_) (fun cdv A outer s H vs Q E hr h => ?_)
  · obtain ⟨x, t, _, _, rfl, _⟩ := h
    rfl
  · obtain ⟨x, t, b1, b2, rfl, ht, k1, k2, q⟩ := h
    have nd := sc_is_whole.nd
    refine ⟨_,
    (pss_one
    (ps_ret (pe_and (pe_callB call_isi (by rfl) Z.z_isinstance (by decide +kernel) (pa_cons (pv 0) (pa_cons (pe_bltn (v := .ty "int") (by rfl) Z.z_int (by decide +kernel) rfl) pa_nil))) (pe_one (pe_not (pe_callB call_isi (by rfl) Z.z_isinstance (by decide +kernel) (pa_cons (pv 0) (pa_cons (pe_bltn (v := .ty "bool") (by rfl) Z.z_bool (by decide +kernel) rfl) pa_nil)))))))), ?_⟩
    refine ⟨_, rfl, x, .ty "int", _, _, b1, rfl, .ty _, ht, kit_ty k1, b1, rfl, ?_⟩
    cases b1 with
    | false => exact q
    | true => exact ⟨_, rfl, x, .ty "bool", _, _, b2, rfl, .ty _, ht, kit_ty (k2 rfl), b2, rfl, q⟩
/-- a def of a class, called -/
structure Cm (P : Program) (w : World) (K : PySem.W.Frag) (mg : Str → Option Value) (base : Heap) (k : Nat) (f : Addr) (fd : FuncData) (ps : List Str) (sp : Sp) : Prop where
  ok : FnOk P w K mg base CX0 k f fd ps sp
  b : Binds K fd ps []

theorem okm_parts (Z : Zs mg) (D : Dm K "parts" "Cutter.parts" s_parts P_parts f fd) (c : CK K C)  : FnOk P w K mg base CX0 1 f fd P_parts (spParts C) := by
  refine D.F.ok sc_parts (fun vs H Q E h => ?_) (fun cdv A outer s H vs Q E hr h => ?_)
  · obtain ⟨x, ps, rfl, _⟩ := h
    rfl
  · obtain ⟨x, ps, rfl, hcx, q⟩ := h
    have nd := sc_parts.nd
    have hu : (A.deeper (envOfC "Cutter.parts" (defScope s_parts) s.heap.objs.size f cdv)).units + 64 < cLine := by
      have := hr.un
      omega
    obtain ⟨dx, p, t, ts, hx, hp, ht, hlen, hts⟩ := hcx.ex
    refine ⟨_,
    (pss_one
    (ps_ret (pe_fld (pv 0) rfl))), ?_⟩
    exact ⟨_, rfl, x, C, dx, _, .ref p, rfl, hx, c.cls, c.np, rfl, q p hp⟩

theorem okm_keeps_all (Z : Zs mg) (D : Dm K "keeps_all" "Cutter.keeps_all" s_keeps_all P_keeps_all f fd) (c : CK K C)  : FnOk P w K mg base CX0 1 f fd P_keeps_all (spKeeps C) := by
  refine D.F.ok sc_keeps_all (fun vs H Q E h => ?_) (fun cdv A outer s H vs Q E hr h => ?_)
  · obtain ⟨x, ps, rfl, _⟩ := h
    rfl
  · obtain ⟨x, ps, rfl, hcx, q⟩ := h
    have nd := sc_keeps_all.nd
    have hu : (A.deeper (envOfC "Cutter.keeps_all" (defScope s_keeps_all) s.heap.objs.size f cdv)).units + 64 < cLine := by
      have := hr.un
      omega
    obtain ⟨dx, p, t, ts, hx, hp, ht, hlen, hts⟩ := hcx.ex
    refine ⟨_,
    (pss_one
    (ps_ret (pe_fld (pv 0) rfl))), ?_⟩
    exact ⟨_, rfl, x, C, dx, _, .bl (keepsAll ps), rfl, hx, c.cls, c.nk, rfl, q H (Same.refl H)⟩

theorem okm_lenc (Z : Zs mg) (D : Dm K "__len__" "Cutter.__len__" s_lenc P_lenc f fd) (c : CK K C)  : FnOk P w K mg base CX0 1 f fd P_lenc (spCutLen C) := by
  refine D.F.ok sc_lenc (fun vs H Q E h => ?_) (fun cdv A outer s H vs Q E hr h => ?_)
  · obtain ⟨x, ps, rfl, _⟩ := h
    rfl
  · obtain ⟨x, ps, rfl, hcx, q⟩ := h
    have nd := sc_lenc.nd
    have hu : (A.deeper (envOfC "Cutter.__len__" (defScope s_lenc) s.heap.objs.size f cdv)).units + 64 < cLine := by
      have := hr.un
      omega
    obtain ⟨dx, p, t, ts, hx, hp, ht, hlen, hts⟩ := hcx.ex
    refine ⟨_,
    (pss_one
    (ps_ret (pe_callB call_lenT (by rfl) Z.z_len (by decide +kernel) (pa_cons (pe_fld (pv 0) rfl) pa_nil)))), ?_⟩
    refine ⟨_, rfl, x, C, dx, _, .ref p, rfl, hx, c.cls, c.np, rfl, p, pV ps, rfl, .of hp, ?_⟩
    rw [pV_len]
    exact q

theorem okm_strc (Z : Zs mg) (D : Dm K "__str__" "Cutter.__str__" s_strc P_strc f fd) (c : CK K C)  : FnOk P w K mg base CX0 1 f fd P_strc (spCutStr C) := by
  refine D.F.ok sc_strc (fun vs H Q E h => ?_) (fun cdv A outer s H vs Q E hr h => ?_)
  · obtain ⟨x, ps, rfl, _⟩ := h
    rfl
  · obtain ⟨x, ps, rfl, hcx, q⟩ := h
    have nd := sc_strc.nd
    have hu : (A.deeper (envOfC "Cutter.__str__" (defScope s_strc) s.heap.objs.size f cdv)).units + 64 < cLine := by
      have := hr.un
      omega
    obtain ⟨dx, p, t, ts, hx, hp, ht, hlen, hts⟩ := hcx.ex
    refine ⟨_,
    (pss_one
    (ps_ret (pe_join pe_str (pe_orT (pe_fld (pv 0) rfl) (pe_one (pe_tup (pa_cons (pe_gS rfl Z.g_KEEP_ALL) pa_nil))))))), ?_⟩
    refine ⟨⟨_, rfl⟩, _, rfl, x, C, dx, _, .ref p, rfl, hx, c.cls, c.np, rfl, !(pV ps).isEmpty, .inr (.inl ⟨_, .of hp, rfl⟩), ?_⟩
    cases ps with
    | nil =>
      refine ifF rfl ⟨by show 1 ≤ sizeLine; decide, fun t nt => ⟨_, t, [Part.text .all], rfl, rfl, .inr (.of upd_same), by decide +kernel, q _ (same_new nt)⟩⟩
    | cons pt r =>
      refine ifT rfl ⟨_, p, (pt :: r).map Part.text, rfl, rfl, .inr (.of ?_), ?_, q H (Same.refl H)⟩
      · rw [hp]
        unfold pV
        rw [List.map_map]
        rfl
      · have hb : ∀ l : List Part, (∀ p ∈ l, Ok p) → (l.map fun p => p.text.length).sum ≤ 10 * l.length := by
          intro l
          induction l with
          | nil => intro _; exact Nat.le_refl _
          | cons a l ih =>
            intro h
            have h1 := text_len (h a List.mem_cons_self)
            have h2 := ih fun p hp => h p (List.mem_cons_of_mem _ hp)
            rw [List.map_cons, List.sum_cons, List.length_cons]
            omega
        have h1 := hb (pt :: r) hcx.ok
        have h2 := hcx.le
        rw [List.map_map, List.length_map]
        have e3 : (Str.ofString " > ").length = 3 := by decide +kernel
        show ((pt :: r).map fun p => p.text.length).sum + (pt :: r).length * (Str.ofString " > ").length ≤ 16777216
        rw [e3]
        omega

theorem okm_eqc (Z : Zs mg) (D : Dm K "__eq__" "Cutter.__eq__" s_eqc P_eqc f fd) (c : CK K C) (hC : mg "Cutter" = some (.ref C)) : FnOk P w K mg base CX0 1 f fd P_eqc (spCutEq C) := by
  refine D.F.ok sc_eqc (fun vs H Q E h => ?_) (fun cdv A outer s H vs Q E hr h => ?_)
  · obtain ⟨x, y, ps, qs, rfl, _⟩ := h
    rfl
  · obtain ⟨x, y, ps, qs, rfl, hcx, q⟩ := h
    have nd := sc_eqc.nd
    have hu : (A.deeper (envOfC "Cutter.__eq__" (defScope s_eqc) s.heap.objs.size f cdv)).units + 64 < cLine := by
      have := hr.un
      omega
    obtain ⟨dx, p, t, ts, hx, hp, ht, hlen, hts⟩ := hcx.ex
    refine ⟨_,
    (pss_one
    (ps_ret (pe_and (pe_callB call_isi (by rfl) Z.z_isinstance (by decide +kernel) (pa_cons (pv 1) (pa_cons (pe_glob (v := .ref C) rfl hC rfl) pa_nil))) (pe_one (pe_cmpR (op_eqD hu) (pe_fld (pv 0) rfl) (pe_fld (pv 1) rfl) (nomark _)))))), ?_⟩
    obtain ⟨hcy, q⟩ := q
    obtain ⟨dy, p', t', ts', hy, hp', ht', hlen', hts'⟩ := hcy.ex
    refine ⟨_, rfl, .ref y, .ref C, _, _, true, rfl, .own C, c.ty hy, c.kit, true, rfl, ?_⟩
    refine ⟨_, rfl, x, C, dx, _, .ref t, rfl, hx, c.cls, c.nt, rfl, _, rfl, y, C, dy, _, .ref t', rfl, hy, c.cls, c.nt, rfl, dT ps, dT qs, dp_table ht hlen hts, dp_table ht' hlen' hts', shp_dT _, shp_dT _, ?_⟩
    rw [eqv_dT]
    exact q

theorem okm_places (Z : Zs mg) (D : Dm K "places" "Cutter.places" s_places P_places f fd) (c : CK K C) {f1 f2 p2 : Addr} {d1 d2 : FuncData} (D_is_whole : Cl P w K mg base "is_whole" 1 f1 d1 P_is_whole (spWhole K)) (pr_keeps_all : PropOf K C "keeps_all" p2 f2) (M_keeps_all : Cm P w K mg base 1 f2 d2 P_keeps_all (spKeeps C)) : FnOk P w K mg base CX0 3 f fd P_places (spCutPlaces C) := by
  refine D.F.ok sc_places (fun vs H Q E h => ?_) (fun cdv A outer s H vs Q E hr h => ?_)
  · obtain ⟨x, ps, n, rfl, _⟩ := h
    rfl
  · obtain ⟨x, ps, n, rfl, hcx, q⟩ := h
    have nd := sc_places.nd
    have hu : (A.deeper (envOfC "Cutter.places" (defScope s_places) s.heap.objs.size f cdv)).units + 64 < cLine := by
      have := hr.un
      omega
    obtain ⟨dx, p, t, ts, hx, hp, ht, hlen, hts⟩ := hcx.ex
    refine ⟨_,
    (pss_cons
    (ps_if (PW.pt (pw_or (pt_not (pt_truth (pe_call D_is_whole.ok (hr.mono (by decide)) (by rfl) D_is_whole.g D_is_whole.kp D_is_whole.b .nil pass0 (pa_cons (pv 1) pa_nil)) (by intro _; rfl))) (pw_or1 (pt_not (pt_chain op_le op_le pe_int (pv 1) (pe_gI rfl Z.g_MAX_ROW))))))
      (pss_one
      ps_never)
      pss_nil)
    (pss_cons
    (ps_if (pt_cmpR op_le (pv 1) (pe_gI rfl Z.g_REACH) (nomark _))
      (pss_one
      (ps_ret (pe_ix ix_tup (pe_fld (pv 0) rfl) (pv 1) (fun _ _ => rfl))))
      pss_nil)
    (pss_cons
    (ps_if (pt_val (pe_prop (pv 0) c.cls pr_keeps_all M_keeps_all.ok (hr.mono (by decide)) M_keeps_all.b .nil pass0 rfl))
      (pss_one
      (ps_ret (pe_tupRg rfl (by rfl) Z.z_tuple (prg_1 (by rfl) Z.z_range (pv 1)))))
      pss_nil)
    (pss_cons
    (ps_set (i := 2) nd rfl (Or.inr rfl) (pe_op op_sub (pv 1) (pe_gI rfl Z.g_REACH)))
    (pss_one
    (ps_ret (pe_callTy call_tuple_of (by rfl) Z.z_tuple (by decide +kernel) (pa_cons (pe_lc (own := [("at", 3)]) (g := gName 3) (tt := tYes) rfl nd (pi_tup (pe_ix ix_tup (pe_fld (pv 0) rfl) (pe_gI rfl Z.g_REACH) (fun _ _ => rfl))) (blkOk_by (N := N_places) (sc := defScope s_places) (by decide +kernel)) (fun _ _ _ _ _ => (pg_name (i := 3) nd rfl (Or.inl rfl))) (fun _ _ _ _ _ => pts_nil) (fun _ _ _ _ _ => (pe_ifExp (pt_cmpR op_lt (pv 3) (pe_gI rfl Z.g_MAX_FRONT) (nomark _)) (pv 3) (pe_op op_add (pv 3) (pv 2))))) pa_nil)))))))), ?_⟩
    obtain ⟨hn, q⟩ := q
    refine ⟨_, rfl, .int n, "int", true, false, rfl, .base (.int _), by decide +kernel, fun _ => by decide +kernel, ⟨true, rfl, ifF rfl ?_⟩⟩
    refine ⟨_, rfl, _, _, rfl, rfl, _, rfl, ifT (decide_eq_true (by omega)) ⟨_, _, rfl, rfl, _, rfl, ?_⟩⟩
    refine ifF (by rw [decide_eq_true (show (n : Int) ≤ 1000 by omega)]; rfl) ?_
    dsimp only [tNext]
    refine ⟨_, rfl, _, _, rfl, rfl, _, rfl, ?_⟩
    by_cases h5 : (n : Int) ≤ 5
    · obtain ⟨r, e1, e2⟩ := hts n (by omega)
      exact ifT (decide_eq_true h5) ⟨_, rfl, x, C, dx, _, .ref t, rfl, hx, c.cls, c.nt, rfl, _, rfl, t, ts, n, .ref r, rfl, rfl, .of ht, atI_nat e1, q H r (Same.refl H) e2⟩
    refine ifF (decide_eq_false h5) ?_
    dsimp only [tNext]
    refine ⟨_, rfl, x, dx, _, rfl, hx, x, ps, rfl, hcx, fun H1 s1 => ⟨keepsAll ps, rfl, ?_⟩⟩
    by_cases hk : keepsAll ps = true
    · refine ifT hk ⟨_, rfl, n, rfl, .of_le (by decide) (by omega) (by decide) (by omega), fun r nr => ?_⟩
      refine q _ r (s1.trans (same_new nr)) ?_
      rw [upd_same, rgV_iV]
      show _ = some (HO.tup (iV (run ps (List.range n))))
      rw [run_all ps _ hk]
    refine ifF (eq_false_of_ne_true hk) ?_
    dsimp only [tNext]
    refine ⟨_, rfl, _, _, rfl, rfl, ?_⟩
    obtain ⟨r, e1, e2⟩ := hts 5 (by omega)
    refine ⟨_, rfl, x, C, dx, _, .ref t, rfl, s1 _ _ hx, c.cls, c.nt, rfl, t, ts, (5 : Nat), .ref r, rfl, rfl, .of (s1 _ _ ht), atI_nat e1, ?_⟩
    have e2' := s1 _ _ e2
    refine ⟨r, rfl, ⟨_, .of e2'⟩, fun D9 nD => ?_⟩
    refine lc_mapT (iV (places ps 5)) (embV n) (.of e2') nD (by rw [iV_len]; exact sz1000 (by have := places_len ps 5; omega)) (fun i v H2 Q' N hv s2 k => ?_) (fun H2 s2 hd => ?_)
    · obtain ⟨m, _, rfl⟩ := iV_getI hv
      have k' := k H2 (Same.refl H2)
      refine ⟨rfl, _, rfl, _, _, rfl, rfl, _, rfl, ?_⟩
      have e : embV n (.int (m : Int)) = .int (if (m : Int) < 2 then (m : Int) else (m : Int) + ((n : Int) - 5)) := rfl
      rw [e] at k'
      by_cases h2 : (m : Int) < 2
      · rw [if_pos h2] at k'
        exact ifT (decide_eq_true h2) ⟨_, rfl, k'⟩
      · rw [if_neg h2] at k'
        exact ifF (decide_eq_false h2) ⟨_, rfl, _, rfl, _, _, rfl, rfl, k'⟩
    · refine ⟨D9, _, rfl, .inl ⟨.of hd, fun r2 nr2 => q _ r2 ((s1.trans s2).trans (same_new nr2)) ?_⟩⟩
      rw [upd_same, map_embV hcx.ok (eq_false_of_ne_true hk) (by omega)]

theorem okm_callc (Z : Zs mg) (D : Dm K "__call__" "Cutter.__call__" s_callc P_callc f fd) (c : CK K C) {f1 : Addr} {d1 : FuncData} (me_places : Meth K C "places" f1) (M_places : Cm P w K mg base 3 f1 d1 P_places (spCutPlaces C)) : FnOk P w K mg base CX0 4 f fd P_callc (spCutCall C) := by
  refine D.F.ok sc_callc (fun vs H Q E h => ?_) (fun cdv A outer s H vs Q E hr h => ?_)
  · obtain ⟨x, r, ps, xs, rfl, _⟩ := h
    rfl
  · obtain ⟨x, r, ps, xs, rfl, hcx, q⟩ := h
    have nd := sc_callc.nd
    have hu : (A.deeper (envOfC "Cutter.__call__" (defScope s_callc) s.heap.objs.size f cdv)).units + 64 < cLine := by
      have := hr.un
      omega
    obtain ⟨dx, p, t, ts, hx, hp, ht, hlen, hts⟩ := hcx.ex
    refine ⟨_,
    (pss_cons
    (ps_if (PW.pt (pw_or (pt_not (pt_val (pe_callB call_isi (by rfl) Z.z_isinstance (by decide +kernel) (pa_cons (pv 1) (pa_cons (pe_bltn (v := .ty "tuple") (by rfl) Z.z_tuple (by decide +kernel) rfl) pa_nil))))) (pw_or1 (pt_cmpR op_gt (pe_callB call_lenT (by rfl) Z.z_len (by decide +kernel) (pa_cons (pv 1) pa_nil)) (pe_gI rfl Z.g_MAX_ROW) (nomark _)))))
      (pss_one
      ps_never)
      pss_nil)
    (pss_one
    (ps_ret (pe_callTy call_tuple_of (by rfl) Z.z_tuple (by decide +kernel) (pa_cons (pe_lc (own := [("at", 2)]) (g := gName 2) (tt := tYes) rfl nd (pi_tup (pe_meth (pv 0) c.cls me_places M_places.ok (hr.mono (by decide)) M_places.b .nil pass0 (pa_cons (pe_callB call_lenT (by rfl) Z.z_len (by decide +kernel) (pa_cons (pv 1) pa_nil)) pa_nil))) (blkOk_by (N := N_callc) (sc := defScope s_callc) (by decide +kernel)) (fun _ _ _ _ _ => (pg_name (i := 2) nd rfl (Or.inl rfl))) (fun _ _ _ _ _ => pts_nil) (fun _ _ _ _ _ => (pe_ix (ixT (K := K) rfl) (pv 1) (pv 2) (fun _ _ => rfl)))) pa_nil))))), ?_⟩
    obtain ⟨hr2, hxs, q⟩ := q
    refine ⟨_, rfl, .ref r, .ty "tuple", _, _, true, rfl, .ty _, .base (.tup hr2), kit_ty (by decide +kernel), true, rfl, ifF rfl ?_⟩
    refine ⟨_, rfl, r, xs, rfl, .of hr2, _, _, rfl, rfl, _, rfl, ifF (decide_eq_false (by omega)) ?_⟩
    dsimp only [tNext]
    refine ⟨_, rfl, x, dx, _, rfl, hx, rfl, _, rfl, r, xs, rfl, .of hr2, x, ps, xs.length, rfl, hcx, hxs, fun H1 r1 s1 hr1 => ?_⟩
    refine ⟨r1, rfl, ⟨_, .of hr1⟩, fun D9 nD => ?_⟩
    refine lc_mapT (iV (places ps xs.length)) (atV xs) (.of hr1) nD (by rw [iV_len]; exact Nat.le_of_lt (small1000 (Nat.le_trans (places_len ps xs.length) hxs))) (fun i v H2 Q' N hv s2 k => ?_) (fun H2 s2 hd => ?_)
    · obtain ⟨m, hm, rfl⟩ := iV_getI hv
      have hml : m < xs.length := places_lt (List.mem_of_getElem? hm)
      have k' := k H2 (Same.refl H2)
      have e : atV xs (.int (m : Int)) = xs[m] := by
        show xs.getD (m : Int).toNat .non = _
        rw [Int.toNat_natCast, List.getD_eq_getElem?_getD, List.getElem?_eq_getElem hml]
        rfl
      rw [e] at k'
      exact ⟨rfl, _, rfl, _, rfl, r, xs, (m : Int), xs[m], rfl, rfl, .of ((s1.trans s2) _ _ hr2), atI_nat (List.getElem?_eq_getElem hml), k'⟩
    · refine ⟨D9, _, rfl, .inl ⟨.of hd, fun r2 nr2 => q _ r2 ((s1.trans s2).trans (same_new nr2)) ((s1.trans s2).free nr2) ?_⟩⟩
      rw [upd_same, map_atV]

theorem okm_of (Z : Zs mg) (D : Dm K "of" "Cutter.of" s_of P_of f fd) {fi : Addr} (M : Mk K C fi) (FI : FnR P w K mg base CX0 5 fi (spInit C)) : FnOk P w K mg base CX0 7 f fd P_of (spCutOf C) := by
  refine D.F.ok sc_of (fun vs H Q E h => ?_) (fun cdv A outer s H vs Q E hr h => ?_)
  · obtain ⟨a, ps, rfl, _⟩ := h
    rfl
  · obtain ⟨a, ps, rfl, ha, hok, hl, q⟩ := h
    have nd := sc_of.nd
    refine ⟨_,
    (pss_cons
    (ps_if (pt_not (pt_val (pe_callB call_isi (by rfl) Z.z_isinstance (by decide +kernel) (pa_cons (pv 1) (pa_cons (pe_bltn (v := .ty "tuple") (by rfl) Z.z_tuple (by decide +kernel) rfl) pa_nil)))))
      (pss_one
      ps_never)
      pss_nil)
    (pss_one
    (ps_ret (pe_makeVS M FI (hr.mono (by decide)) pass0 (pv 0) (pv 1))))), ?_⟩
    refine ⟨_, rfl, .ref a, .ty "tuple", _, _, true, rfl, .ty _, .base (.tup ha), kit_ty (by decide +kernel), true, rfl, ifF rfl ?_⟩
    dsimp only [tNext]
    refine ⟨_, rfl, rfl, _, rfl, a, pV ps, rfl, .inl (.of ha), fun x dx nx ndx hne => ⟨x, dx, ps, rfl, upd_same, hok, hl, fun H' c' k => ⟨rfl, q H' x (fun b o e => ?_) nx k⟩⟩⟩
    refine c' b o (ne_of_none e nx) ?_
    rw [upd_ne (ne_of_none e nx), upd_ne (ne_of_none e ndx)]
    exact e

end
end K04
set_option Elab.async false
set_option linter.all false
set_option maxRecDepth 100000
set_option maxHeartbeats 8000000
namespace K04
open PySem PySem.Spec PyProof.Rows L2 Ly Cut

abbrev s_dice : Stmt := topS 28
abbrev N_dice : List Str := ["_law_script", "_law_at", "_law_cell", "_law_great", "_law_mixed"]
abbrev P_dice : List Str := ["_law_script", "_law_at"]
theorem sc_dice : FnScope N_dice P_dice (defScope s_dice) := ⟨rfl, rfl, rfl, by decide +kernel, rfl, by decide +kernel, by decide +kernel⟩

abbrev s_roll : Stmt := topS 29
abbrev N_roll : List Str := ["_law_dice_here", "_law_total", "_law_found", "_law_one", "_law_two"]
abbrev P_roll : List Str := ["_law_dice_here", "_law_total"]
theorem sc_roll : FnScope N_roll P_roll (defScope s_roll) := ⟨rfl, rfl, rfl, by decide +kernel, rfl, by decide +kernel, by decide +kernel⟩

abbrev s_one_of : Stmt := topS 30
abbrev N_one_of : List Str := ["_law_dice_here", "_law_items"]
abbrev P_one_of : List Str := ["_law_dice_here", "_law_items"]
theorem sc_one_of : FnScope N_one_of P_one_of (defScope s_one_of) := ⟨rfl, rfl, rfl, by decide +kernel, rfl, by decide +kernel, by decide +kernel⟩

abbrev s_signs : Stmt := topS 31
abbrev N_signs : List Str := ["_law_dice_here", "_law_much", "_law_turn"]
abbrev P_signs : List Str := ["_law_dice_here", "_law_much"]
theorem sc_signs : FnScope N_signs P_signs (defScope s_signs) := ⟨rfl, rfl, rfl, by decide +kernel, rfl, by decide +kernel, by decide +kernel⟩

abbrev s_part : Stmt := topS 32
abbrev N_part : List Str := ["_law_dice_here", "_law_common"]
abbrev P_part : List Str := ["_law_dice_here"]
theorem sc_part : FnScope N_part P_part (defScope s_part) := ⟨rfl, rfl, rfl, by decide +kernel, rfl, by decide +kernel, by decide +kernel⟩

abbrev s_lparts : Stmt := topS 33
abbrev N_lparts : List Str := ["_law_dice_here", "_law_much", "_law_turn"]
abbrev P_lparts : List Str := ["_law_dice_here", "_law_much"]
theorem sc_lparts : FnScope N_lparts P_lparts (defScope s_lparts) := ⟨rfl, rfl, rfl, by decide +kernel, rfl, by decide +kernel, by decide +kernel⟩

section
variable {P : Program} {w : World} {K : PySem.W.Frag} {mg : Str → Option Value} {base : Heap} {f C : Addr} {fd : FuncData}
theorem ok_dice (Z : Zs mg) (D : Df K mg "_law_dice" s_dice P_dice f fd) : FnOk P w K mg base CX0 1 f fd P_dice (spDice K) := by
  refine D.F.ok sc_dice (fun vs H Q E h => ?_) (fun cdv A outer s H vs Q E hr h => ?_)
  · obtain ⟨a, ns, k, rfl, _⟩ := h
    rfl
  · obtain ⟨a, ns, k, rfl, hS, h63, hk, q⟩ := h
    have nd := sc_dice.nd
    refine ⟨_,
    (pss_cons
    (ps_set (i := 2) nd rfl (Or.inl rfl) (pe_ifExp (pt_cmpR op_lt (pv 1) (pe_callB call_lenL (by rfl) Z.z_len (by decide +kernel) (pa_cons (pv 0) pa_nil)) (nomark _)) (pe_ix ix_list (pv 0) (pv 1) (fun _ _ => rfl)) (pe_op op_add (pe_op op_mul pe_int (pv 1)) pe_int)))
    (pss_cons
    (ps_set (i := 3) nd rfl (Or.inl rfl) (pe_op op_mod (pe_callTy call_intI (by rfl) Z.z_int (by decide +kernel) (pa_cons (pe_callB call_abs (by rfl) Z.z_abs (by decide +kernel) (pa_cons (pv 2) pa_nil)) pa_nil)) (pe_op op_powW (pe_op op_powW pe_int pe_int) pe_int)))
    (pss_cons
    (ps_set (i := 4) nd rfl (Or.inl rfl) (pe_op op_add (pe_op op_add (pe_op op_add (pe_op op_mul (pe_op op_mod (pe_callTy call_intI (by rfl) Z.z_int (by decide +kernel) (pa_cons (pv 3) pa_nil)) pe_int) pe_int) (pe_op op_mul pe_int (pv 1))) (pe_op op_mul pe_int (pe_callTy call_intB (by rfl) Z.z_int (by decide +kernel) (pa_cons (pe_cmpR op_lt (pv 2) pe_int (nomark _)) pa_nil)))) pe_int))
    (pss_one
    (ps_ret (pe_lst (pa_cons (pe_callB (call_max2 rfl) (by rfl) Z.z_max (by decide +kernel) (pa_cons pe_int (pa_cons (pe_op op_sub (pv 3) (pe_op op_powW pe_int pe_int)) pa_nil))) (pa_cons (pe_op op_mod (pe_callTy call_intI (by rfl) Z.z_int (by decide +kernel) (pa_cons (pv 4) pa_nil)) pe_int) (pa_cons pe_int pa_nil))))))))), ?_⟩
    refine asgS (fun v H1 => H1 = H ∧ ∃ x : Int, v = .int x) (fun Q' q' => ?_) (fun v H' hv => ?_)
    · refine ⟨.int k, rfl, .ref a, rfl, a, _, rfl, hS, _, _, rfl, rfl, _, rfl, ite2 (fun e => ?_) (fun e => ?_)⟩
      · have e1 := of_decide_eq_true e
        rw [List.length_map] at e1
        have e2 : k < ns.length := by omega
        refine ⟨_, rfl, _, rfl, a, _, _, .int ns[k], rfl, rfl, hS, atI_nat ?_, q' _ _ ⟨rfl, _, rfl⟩⟩
        rw [List.getElem?_map, List.getElem?_eq_getElem e2]
        rfl
      · exact ⟨_, rfl, _, _, rfl, rfl, .inl ⟨by decide, by decide⟩, _, _, rfl, rfl, q' _ _ ⟨rfl, _, rfl⟩⟩
    · obtain ⟨rfl, x, rfl⟩ := hv
      have p60 : CPw 10 60 := ⟨by decide, by decide +kernel⟩
      have p600 : CPw ((10 : Int) ^ (60 : Int).toNat) 10 := ⟨by decide, by decide +kernel⟩
      have pos : (0 : Int) < ((10 : Int) ^ (60 : Int).toNat) ^ (10 : Int).toNat := by decide +kernel
      refine asgS (fun v H1 => H1 = H' ∧ ∃ gr : Int, v = .int gr ∧ 0 ≤ gr ∧ gr.natAbs < 2 ^ 2000) (fun Q' q' => ?_) (fun v H1 hv => ?_)
      · refine ⟨_, rfl, _, rfl, _, rfl, _, _, rfl, rfl, p60, _, _, rfl, rfl, p600, _, _, rfl, rfl, pos, q' _ _ ⟨rfl, _, rfl, great_ok _⟩⟩
      obtain ⟨rfl, gr, rfl, g0, gB⟩ := hv
      have cm : ∀ y : Int, CMul (y % 2147483399) 60013 := fun y => .inr ⟨by decide, by decide⟩
      refine ⟨_, rfl, _, rfl, _, _, rfl, rfl, by change (0 : Int) < _; decide, _, _, rfl, rfl, cm _, _, rfl, _, _, rfl, rfl, .inl ⟨by decide, by decide⟩, _, _, rfl, rfl, _, rfl, _, _, rfl, rfl, _, rfl, _, _, rfl, rfl, .inl ⟨by decide, by decide⟩, _, _, rfl, rfl, _, _, rfl, rfl, ?_⟩
      refine ⟨_, rfl, _, _, rfl, rfl, ⟨by decide, by decide +kernel⟩, _, _, rfl, rfl, _, _, rfl, _, rfl, _, rfl, _, _, rfl, rfl, by change (0 : Int) < _; decide, ?_⟩
      refine ⟨by show 3 ≤ sizeLine; decide, fun p hp => q _ p (same_new hp) hp ⟨_, _, _, upd_same, ?_⟩⟩
      refine ⟨?_, ?_, Int.emod_nonneg _ (by decide), Int.lt_trans (Int.emod_lt_of_pos _ (by decide)) (by decide), Int.le_refl _⟩
      · split <;> omega
      · refine less_ok g0 gB (by split <;> omega) ?_
        have t : (0 : Int) ≤ 10 ^ (18 : Int).toNat := by decide +kernel
        split <;> omega

theorem ok_roll (Z : Zs mg) (D : Df K mg "_law_roll" s_roll P_roll f fd) : FnOk P w K mg base CX0 1 f fd P_roll spRoll := by
  refine D.F.ok sc_roll (fun vs H Q E h => ?_) (fun cdv A outer s H vs Q E hr h => ?_)
  · obtain ⟨d, n, rfl, _⟩ := h
    rfl
  · obtain ⟨d, n, rfl, ⟨a, b, c, hd, B⟩, n0, n1, q⟩ := h
    have nd := sc_roll.nd
    refine ⟨_,
    (pss_cons
    (ps_if (pt_cmpR op_gt (pe_ix ix_list (pv 0) pe_int (fun _ _ => rfl)) pe_int (nomark _))
      (pss_cons
      (ps_set (i := 2) nd rfl (Or.inl rfl) (pe_op op_mod (pe_callTy call_intI (by rfl) Z.z_int (by decide +kernel) (pa_cons (pe_ix ix_list (pv 0) pe_int (fun _ _ => rfl)) pa_nil)) (pv 1)))
      (pss_cons
      (ps_asg (pe_op op_fdivW (pe_ix ix_list (pv 0) pe_int (fun _ _ => rfl)) (pv 1)) (pg_sub (pv 0) pe_int set_list))
      (pss_one
      (ps_ret (pv 2)))))
      pss_nil)
    (pss_cons
    (ps_asg (pe_op op_add (pe_ix ix_list (pv 0) pe_int (fun _ _ => rfl)) pe_int) (pg_sub (pv 0) pe_int set_list))
    (pss_cons
    (ps_set (i := 3) nd rfl (Or.inl rfl) (pe_op op_mod (pe_callTy call_intI (by rfl) Z.z_int (by decide +kernel) (pa_cons (pe_op op_add (pe_ix ix_list (pv 0) pe_int (fun _ _ => rfl)) (pe_op op_mul pe_int (pe_ix ix_list (pv 0) pe_int (fun _ _ => rfl)))) pa_nil)) pe_int))
    (pss_cons
    (ps_set (i := 4) nd rfl (Or.inl rfl) (pe_op op_add (pe_op op_mul (pe_op op_mod (pe_callTy call_intI (by rfl) Z.z_int (by decide +kernel) (pa_cons (pe_op op_mul (pv 3) (pv 3)) pa_nil)) pe_int) (pv 3)) (pe_op op_mul pe_int (pe_ix ix_list (pv 0) pe_int (fun _ _ => rfl)))))
    (pss_cons
    (ps_set (i := 4) nd rfl (Or.inl rfl) (pe_op op_mod (pe_callTy call_intI (by rfl) Z.z_int (by decide +kernel) (pa_cons (pv 4) pa_nil)) pe_int))
    (pss_one
    (ps_ret (pe_op op_mod (pe_callTy call_intI (by rfl) Z.z_int (by decide +kernel) (pa_cons (pe_op op_fdiv (pv 4) pe_int) pa_nil)) (pv 1))))))))), ?_⟩
    have nB : n.natAbs < 2 ^ 200 := by
      have e : (2 : Int) ^ 200 = ((2 ^ 200 : Nat) : Int) := by decide +kernel
      rw [e] at n1
      generalize (2 ^ 200 : Nat) = m at *
      omega
    refine ⟨_, rfl, d, _, 0, _, rfl, rfl, .of hd, rfl, a, 0, rfl, rfl, _, rfl, ite2 (fun e => ?_) (fun e => ?_)⟩
    · refine ⟨_, rfl, d, _, 0, _, rfl, rfl, .of hd, rfl, _, rfl, _, rfl, _, _, rfl, rfl, n0, ?_⟩
      refine ⟨_, rfl, d, _, 0, _, rfl, rfl, .of hd, rfl, _, rfl, _, _, rfl, rfl, wide_div n0 nB (by decide) (by decide), _, rfl, d, _, 0, 0, rfl, rfl, hd, rfl, ?_⟩
      refine ⟨_, rfl, q _ _ ((Chg.refl d H).upd) ⟨_, _, _, upd_same, ?_⟩ (Int.emod_nonneg _ (by omega)) (Int.emod_lt_of_pos _ n0)⟩
      have h1 : a / n ≤ a := Int.ediv_le_self _ B.a0
      have h2 : 0 ≤ a / n := Int.ediv_nonneg B.a0 (by omega)
      exact ⟨h2, less_ok B.a0 B.aB h2 h1, B.b0, B.b1, B.c0⟩
    · refine ⟨_, rfl, d, _, 2, _, rfl, rfl, .of hd, rfl, _, _, rfl, rfl, _, rfl, d, _, 2, 2, rfl, rfl, hd, rfl, ?_⟩
      have hd1 : (upd H d (.lst [.int a, .int b, .int (c + 1)])) d = some (.lst [.int a, .int b, .int (c + 1)]) := upd_same
      dsimp only
      refine asgS (fun v H' => H' = upd H d (.lst [.int a, .int b, .int (c + 1)]) ∧ ∃ x : Int, v = .int x ∧ 0 ≤ x ∧ x < 2305843009213693951) (fun Q' q' => ?_) (fun v H' hv => ?_)
      · refine ⟨_, rfl, d, _, 1, _, rfl, rfl, .of hd1, rfl, _, rfl, d, _, 2, _, rfl, rfl, .of hd1, rfl, _, _, rfl, rfl, .inl ⟨by decide, by decide⟩, _, _, rfl, rfl, _, rfl, _, _, rfl, rfl, by change (0 : Int) < _; decide, q' _ _ ⟨rfl, _, rfl, Int.emod_nonneg _ (by decide), Int.emod_lt_of_pos _ (by decide)⟩⟩
      obtain ⟨rfl, x, rfl, x0, x1⟩ := hv
      have y0 := Int.emod_nonneg (x * x) (show (2305843009213693921 : Int) ≠ 0 by decide)
      have y1 := Int.emod_lt_of_pos (x * x) (show (0 : Int) < 2305843009213693921 by decide)
      refine ⟨_, rfl, _, rfl, _, _, rfl, rfl, .inl ⟨by omega, by omega⟩, _, rfl, _, _, rfl, rfl, by change (0 : Int) < _; decide, _, rfl, _, _, rfl, rfl, .inl ⟨by omega, by omega⟩, _, rfl, d, _, 2, _, rfl, rfl, .of hd1, rfl, _, _, rfl, rfl, .inl ⟨by decide, by decide⟩, _, _, rfl, rfl, ?_⟩
      refine ⟨_, rfl, _, rfl, _, _, rfl, rfl, by change (0 : Int) < _; decide, ?_⟩
      refine ⟨_, rfl, _, _, rfl, rfl, ⟨by decide, by decide⟩, _, rfl, _, rfl, _, _, rfl, rfl, n0, ?_⟩
      refine q _ _ ((Chg.refl d H).upd) ⟨_, _, _, hd1, ?_⟩ (Int.emod_nonneg _ (by omega)) (Int.emod_lt_of_pos _ n0)
      have c1 := B.c0
      exact ⟨B.a0, B.aB, B.b0, B.b1, by omega⟩

theorem ok_oneL (Z : Zs mg) (D : Df K mg "_law_one_of" s_one_of P_one_of f fd) {fr : Addr} {fdr : FuncData} (D_roll : Cl P w K mg base "_law_roll" 1 fr fdr P_roll spRoll) : FnOk P w K mg base CX0 2 f fd P_one_of (spOneL K) := by
  refine D.F.ok sc_one_of (fun vs H Q E h => ?_) (fun cdv A outer s H vs Q E hr h => ?_)
  · obtain ⟨d, a, xs, rfl, _⟩ := h
    rfl
  · obtain ⟨d, a, xs, rfl, hD, ne, hS, h0, h1, q⟩ := h
    have nd := sc_one_of.nd
    refine ⟨_,
    (pss_one
    (ps_ret (pe_ix ix_list (pv 1) (pe_call D_roll.ok (hr.mono (by decide)) (by rfl) D_roll.g D_roll.kp D_roll.b .nil pass0 (pa_cons (pv 0) (pa_cons (pe_callB call_lenL (by rfl) Z.z_len (by decide +kernel) (pa_cons (pv 1) pa_nil)) pa_nil))) (fun _ _ => rfl)))), ?_⟩
    refine ⟨_, rfl, _, rfl, _, rfl, a, xs, rfl, hS, d, xs.length, rfl, hD, by omega, by omega, fun H' r c D' r0 r1 => ?_⟩
    have hr' : r.toNat < xs.length := by omega
    refine ⟨a, xs, r, xs[r.toNat], rfl, rfl, c.seq ne hS, ?_, q _ _ c D' (List.getElem_mem hr')⟩
    exact at_nat r0 (List.getElem?_eq_getElem hr')

theorem str_ext {a b : Str} (h : a.cps.toList = b.cps.toList) : a = b := by
  obtain ⟨a⟩ := a
  obtain ⟨b⟩ := b
  exact congrArg Str.mk (Array.toList_inj.mp h)
def spSigns : Sp := fun vs H Q _ => ∃ (d : Addr) (m : Nat), vs = [.ref d, .int m] ∧ Dice H d ∧ m ≤ 3 ∧ ∀ H' l, Chg d H H' → Dice H' d → l.length ≤ m → Q (.str (sT l)) H'
theorem ok_signs (Z : Zs mg) (D : Df K mg "_law_signs" s_signs P_signs f fd) {f1 f2 : Addr} {d1 d2 : FuncData} (D_roll : Cl P w K mg base "_law_roll" 1 f1 d1 P_roll spRoll) (D_oneL : Cl P w K mg base "_law_one_of" 2 f2 d2 P_one_of (spOneL K)) :
    FnOk P w K mg base CX0 3 f fd P_signs spSigns := by
  refine D.F.ok sc_signs (fun vs H Q E h => ?_) (fun cdv A outer s H vs Q E hr h => ?_)
  · obtain ⟨d, m, rfl, _⟩ := h
    rfl
  · obtain ⟨d, m, rfl, hD, hm, q⟩ := h
    have nd := sc_signs.nd
    refine ⟨_,
    (pss_one
    (ps_ret (pe_join pe_str (pe_lc (own := [("_law_turn", 2)]) (g := gName 2) (tt := tYes) rfl nd (pi_range1 (by rfl) Z.z_range (pa_cons (pe_call D_roll.ok (hr.mono (by decide)) (by rfl) D_roll.g D_roll.kp D_roll.b .nil pass0 (pa_cons (pv 0) (pa_cons (pe_op op_add (pv 1) pe_int) pa_nil))) pa_nil)) (blkOk_by (N := N_signs) (sc := defScope s_signs) (by decide +kernel)) (fun _ _ _ _ _ => (pg_name (i := 2) nd rfl (Or.inl rfl))) (fun _ _ _ _ _ => pts_nil) (fun _ _ _ _ _ => (pe_call D_oneL.ok (hr.mono (by decide)) (by rfl) D_oneL.g D_oneL.kp D_oneL.b .nil pass0 (pa_cons (pv 0) (pa_cons (pe_lst (pa_cons pe_str (pa_cons pe_str (pa_cons pe_str pa_nil)))) pa_nil)))))))), ?_⟩
    refine ⟨⟨_, rfl⟩, ?_⟩
    refine ⟨_, rfl, _, rfl, _, _, rfl, rfl, d, m + 1, rfl, hD, by omega, by omega, fun H1 r c1 D1 r0 r1 => ?_⟩
    refine ⟨r, rfl, by omega, by omega, fun D2 nD => ?_⟩
    have ne := dice_ne D1 nD
    refine lc_range (lo := 0) (n := r.toNat) (fun i H2 => Chg d H H2 ∧ Dice H2 d ∧ ∃ l : List Bool, H2 D2 = some (.lst ((l.map fun b => (⟨#[sgn b]⟩ : Str)).map V.str)) ∧ l.length = i)
      ⟨c1.new nD, D1.new nD, [], upd_same, rfl⟩ (fun i H2 hi hP => ?_) (fun H2 hP => ?_)
    · obtain ⟨c2, D2', l, hy, hl⟩ := hP
      refine ⟨rfl, _, rfl, by show 3 ≤ sizeLine; decide, fun p hp => ?_⟩
      have hpD : p ≠ D2 := fun e => by rw [e, hy] at hp; cases hp
      refine ⟨d, p, _, rfl, D2'.new hp, (dice_ne D2' hp).symm, .of upd_same, by decide, by decide, fun H3 x ch D3 mem => ?_⟩
      obtain ⟨b, rfl⟩ : ∃ b : Bool, x = .str ⟨#[sgn b]⟩ := by
        simp only [List.mem_cons, List.not_mem_nil, or_false] at mem
        rcases mem with h | h | h
        · exact ⟨true, h⟩
        · exact ⟨true, h⟩
        · exact ⟨false, h⟩
      have e3 : H3 D2 = some (.lst ((l.map fun b => (⟨#[sgn b]⟩ : Str)).map V.str)) := ch _ _ ne.symm (same_new hp _ _ hy)
      refine ⟨_, e3, by rw [List.length_map, List.length_map]; exact small1000 (by omega), ?_⟩
      refine ⟨fun x o nx e => ?_, ?_, l ++ [b], ?_, ?_⟩
      · rw [upd_ne (ne_of_none (c1 _ _ nx e) nD)]
        exact ((c2.trans (.of (same_new hp))).trans ch) _ _ nx e
      · obtain ⟨a, b, c', ed, B⟩ := D3
        exact ⟨a, b, c', by rw [upd_ne ne]; exact ed, B⟩
      · rw [upd_same, List.map_append, List.map_append]
        rfl
      · rw [List.length_append, hl]
        rfl
    · obtain ⟨c2, D2', l, hy, hl⟩ := hP
      have e0 : (Str.ofString "" : Str) = Str.empty := rfl
      have hsum : ((l.map fun b => (⟨#[sgn b]⟩ : Str)).map (·.length)).sum = l.length := by
        clear hy hl
        induction l with
        | nil => rfl
        | cons b r ih =>
          rw [List.map_cons, List.map_cons, List.sum_cons, ih, List.length_cons]
          show 1 + r.length = _
          omega
      have ej : Txt.join Str.empty (l.map fun b => (⟨#[sgn b]⟩ : Str)) = sT l := by
        refine str_ext ?_
        rw [txt_join]
        show _ = ((l.map sgn).toArray).toList
        rw [List.flatMap_map]
        clear hy hl hsum
        induction l with
        | nil => rfl
        | cons b r ih =>
          rw [List.flatMap_cons, ih]
          rfl
      refine ⟨Str.empty, D2, _, e0 ▸ rfl, rfl, .inl (.of hy), ?_, ?_⟩
      · rw [hsum, List.length_map]
        show l.length + l.length * 0 ≤ 16777216
        omega
      · rw [ej]
        exact q H2 l c2 D2' (by omega)

def spPart : Sp := fun vs H Q _ => ∃ d : Addr, vs = [.ref d] ∧ Dice H d ∧ ∀ H' p, Chg d H H' → Dice H' d → Ok p → Q (.str p.text) H'
theorem commons : ∀ x ∈ ([.str "all", .str "all", .str "..+", .str "..++", .str "+..", .str "+..+", .str "..+++", .str "..", .str "+..++", .str "..-+"] : List V), ∃ p : Part, Ok p ∧ x = .str p.text := by
  intro x hx
  simp only [List.mem_cons, List.not_mem_nil, or_false] at hx
  rcases hx with h | h | h | h | h | h | h | h | h | h <;> subst h
  · exact ⟨.all, trivial, rfl⟩
  · exact ⟨.all, trivial, rfl⟩
  · exact ⟨.pat [] [true], ⟨by decide, by decide⟩, by rw [show (Part.pat [] [true]).text = Str.ofString "..+" by decide +kernel]⟩
  · exact ⟨.pat [] [true, true], ⟨by decide, by decide⟩, by rw [show (Part.pat [] [true, true]).text = Str.ofString "..++" by decide +kernel]⟩
  · exact ⟨.pat [true] [], ⟨by decide, by decide⟩, by rw [show (Part.pat [true] []).text = Str.ofString "+.." by decide +kernel]⟩
  · exact ⟨.pat [true] [true], ⟨by decide, by decide⟩, by rw [show (Part.pat [true] [true]).text = Str.ofString "+..+" by decide +kernel]⟩
  · exact ⟨.pat [] [true, true, true], ⟨by decide, by decide⟩, by rw [show (Part.pat [] [true, true, true]).text = Str.ofString "..+++" by decide +kernel]⟩
  · exact ⟨.pat [] [], ⟨by decide, by decide⟩, by rw [show (Part.pat [] []).text = Str.ofString ".." by decide +kernel]⟩
  · exact ⟨.pat [true] [true, true], ⟨by decide, by decide⟩, by rw [show (Part.pat [true] [true, true]).text = Str.ofString "+..++" by decide +kernel]⟩
  · exact ⟨.pat [] [false, true], ⟨by decide, by decide⟩, by rw [show (Part.pat [] [false, true]).text = Str.ofString "..-+" by decide +kernel]⟩
theorem ok_part (Z : Zs mg) (D : Df K mg "_law_part" s_part P_part f fd) {f1 f2 f3 : Addr} {d1 d2 d3 : FuncData} (D_roll : Cl P w K mg base "_law_roll" 1 f1 d1 P_roll spRoll) (D_oneL : Cl P w K mg base "_law_one_of" 2 f2 d2 P_one_of (spOneL K))
    (D_signs : Cl P w K mg base "_law_signs" 3 f3 d3 P_signs spSigns) : FnOk P w K mg base CX0 4 f fd P_part spPart := by
  refine D.F.ok sc_part (fun vs H Q E h => ?_) (fun cdv A outer s H vs Q E hr h => ?_)
  · obtain ⟨d, rfl, _⟩ := h
    rfl
  · obtain ⟨d, rfl, hD, q⟩ := h
    have nd := sc_part.nd
    refine ⟨_,
    (pss_cons
    (ps_set (i := 1) nd rfl (Or.inl rfl) (pe_lst (pa_cons pe_str (pa_cons pe_str (pa_cons pe_str (pa_cons pe_str (pa_cons pe_str (pa_cons pe_str (pa_cons pe_str (pa_cons pe_str (pa_cons pe_str (pa_cons pe_str pa_nil))))))))))))
    (pss_cons
    (ps_if (pt_cmpR op_gt (pe_call D_roll.ok (hr.mono (by decide)) (by rfl) D_roll.g D_roll.kp D_roll.b .nil pass0 (pa_cons (pv 0) (pa_cons pe_int pa_nil))) pe_int (nomark _))
      (pss_one
      (ps_ret (pe_call D_oneL.ok (hr.mono (by decide)) (by rfl) D_oneL.g D_oneL.kp D_oneL.b .nil pass0 (pa_cons (pv 0) (pa_cons (pv 1) pa_nil)))))
      pss_nil)
    (pss_one
    (ps_ret (pe_op op_add_str (pe_op op_add_str (pe_call D_signs.ok (hr.mono (by decide)) (by rfl) D_signs.g D_signs.kp D_signs.b .nil pass0 (pa_cons (pv 0) (pa_cons pe_int pa_nil))) pe_str) (pe_call D_signs.ok (hr.mono (by decide)) (by rfl) D_signs.g D_signs.kp D_signs.b .nil pass0 (pa_cons (pv 0) (pa_cons pe_int pa_nil)))))))), ?_⟩
    refine ⟨by show 10 ≤ sizeLine; decide, fun p hp => ?_⟩
    have s1 := same_new (o := .lst ([.str "all", .str "all", .str "..+", .str "..++", .str "+..", .str "+..+", .str "..+++", .str "..", .str "+..++", .str "..-+"] : List V)) hp
    have hpl : (upd H p (.lst ([.str "all", .str "all", .str "..+", .str "..++", .str "+..", .str "+..+", .str "..+++", .str "..", .str "+..++", .str "..-+"] : List V))) p = some _ := upd_same
    have D1 := hD.keep s1
    have npd : p ≠ d := (dice_ne hD hp).symm
    refine ⟨_, rfl, d, 3, rfl, D1, by decide, by decide, fun H2 r c2 D2 r0 r1 => ?_⟩
    refine ⟨_, _, rfl, rfl, _, rfl, ?_⟩
    by_cases h : (0 : Int) < r
    · refine ifT (decide_eq_true h) ⟨_, rfl, _, rfl, d, p, _, rfl, D2, npd, .of (c2 _ _ npd hpl), by decide, by decide, fun H3 x c3 D3 mem => ?_⟩
      obtain ⟨pt, hpt, rfl⟩ := commons x mem
      exact q H3 pt (((Chg.of s1).trans c2).trans c3) D3 hpt
    · refine ifF (decide_eq_false h) ?_
      dsimp only [tNext]
      refine ⟨_, rfl, d, 2, rfl, D2, by decide, fun H3 l1 c3 D3 hl1 => ?_⟩
      have e2 : (Str.ofString "..").length = 2 := by decide +kernel
      refine ⟨sT l1, _, rfl, rfl, by rw [sT_len, e2]; exact sz1000 (by omega), _, rfl, d, 3, rfl, D3, by decide, fun H4 l2 c4 D4 hl2 => ?_⟩
      refine ⟨_, sT l2, rfl, rfl, ?_, q H4 (.pat l1 l2) ((((Chg.of s1).trans c2).trans c3).trans c4) D4 ⟨hl1, hl2⟩⟩
      rw [← str_len, app_cps, List.length_append, str_len, str_len, sT_len, sT_len, e2]
      exact sz1000 (by omega)

def spLParts : Sp := fun vs H Q _ => ∃ (d : Addr) (m : Nat), vs = [.ref d, .int m] ∧ Dice H d ∧ 1 ≤ m ∧ m ≤ 4 ∧ ∀ H' a ps, Chg d H H' → Dice H' d → H a = none → H' a = some (.lst (pV ps)) → (∀ p ∈ ps, Ok p) → ps.length ≤ m → Q (.ref a) H'
theorem ok_lparts (Z : Zs mg) (D : Df K mg "_law_parts" s_lparts P_lparts f fd) {f2 f3 : Addr} {d2 d3 : FuncData} (D_oneL : Cl P w K mg base "_law_one_of" 2 f2 d2 P_one_of (spOneL K))
    (D_part : Cl P w K mg base "_law_part" 4 f3 d3 P_part spPart) : FnOk P w K mg base CX0 5 f fd P_lparts spLParts := by
  refine D.F.ok sc_lparts (fun vs H Q E h => ?_) (fun cdv A outer s H vs Q E hr h => ?_)
  · obtain ⟨d, m, rfl, _⟩ := h
    rfl
  · obtain ⟨d, m, rfl, hD, hm1, hm, q⟩ := h
    have nd := sc_lparts.nd
    refine ⟨_,
    (pss_one
    (ps_ret (pe_lc (own := [("_law_turn", 2)]) (g := gName 2) (tt := tYes) rfl nd (pi_range1 (by rfl) Z.z_range (pa_cons (pe_call D_oneL.ok (hr.mono (by decide)) (by rfl) D_oneL.g D_oneL.kp D_oneL.b .nil pass0 (pa_cons (pv 0) (pa_cons (pe_lst (pa_cons pe_int (pa_cons pe_int (pa_cons pe_int (pa_cons pe_int (pa_cons (pe_callB (call_min2 rfl) (by rfl) Z.z_min (by decide +kernel) (pa_cons pe_int (pa_cons (pv 1) pa_nil))) (pa_cons (pv 1) pa_nil))))))) pa_nil))) pa_nil)) (blkOk_by (N := N_lparts) (sc := defScope s_lparts) (by decide +kernel)) (fun _ _ _ _ _ => (pg_name (i := 2) nd rfl (Or.inl rfl))) (fun _ _ _ _ _ => pts_nil) (fun _ _ _ _ _ => (pe_call D_part.ok (hr.mono (by decide)) (by rfl) D_part.g D_part.kp D_part.b .nil pass0 (pa_cons (pv 0) pa_nil)))))), ?_⟩
    refine ⟨_, rfl, _, rfl, _, _, rfl, _, rfl, by show 6 ≤ sizeLine; decide, fun p hp => ?_⟩
    have s1 := fun o => same_new (o := o) hp
    have npd : p ≠ d := (dice_ne hD hp).symm
    refine ⟨d, p, _, rfl, hD.keep (s1 _), npd, .of upd_same, by show 0 < 6; decide, by show 6 < 1000; decide, fun H1 x c1 D1 mem => ?_⟩
    obtain ⟨k, hk, rfl⟩ : ∃ k : Nat, k ≤ m ∧ x = .int k := by
      simp only [List.mem_cons, List.not_mem_nil, or_false] at mem
      rcases mem with h | h | h | h | h | h
      · exact ⟨0, by omega, h⟩
      · exact ⟨1, hm1, h⟩
      · exact ⟨1, hm1, h⟩
      · exact ⟨1, hm1, h⟩
      · refine ⟨min 2 m, by omega, h.trans (congrArg V.int ?_)⟩
        split <;> omega
      · exact ⟨m, by omega, h⟩
    have c1' : Chg d H H1 := (Chg.of (s1 _)).trans c1
    refine ⟨k, rfl, by omega, by omega, fun D2 nD => ?_⟩
    have ne := dice_ne D1 nD
    refine lc_range (lo := 0) (n := (k : Int).toNat) (fun i H2 => Chg d H H2 ∧ Dice H2 d ∧ ∃ ps : List Part, H2 D2 = some (.lst (pV ps)) ∧ ps.length = i ∧ ∀ p ∈ ps, Ok p)
      ⟨c1'.new nD, D1.new nD, [], upd_same, rfl, fun _ h => by cases h⟩ (fun i H2 hi hP => ?_) (fun H2 hP => ?_)
    · obtain ⟨c2, D2', ps, hy, hl, hok⟩ := hP
      refine ⟨rfl, _, rfl, d, rfl, D2', fun H3 pt ch D3 hpt => ?_⟩
      have e3 : H3 D2 = some (.lst (pV ps)) := ch _ _ ne.symm hy
      refine ⟨_, e3, by rw [pV_len]; exact small1000 (by omega), ?_⟩
      refine ⟨fun x o nx e => ?_, ?_, ps ++ [pt], ?_, ?_, ?_⟩
      · rw [upd_ne (ne_of_none (c1' _ _ nx e) nD)]
        exact (c2.trans ch) _ _ nx e
      · obtain ⟨a, b, c', ed, B⟩ := D3
        exact ⟨a, b, c', by rw [upd_ne ne]; exact ed, B⟩
      · rw [upd_same]
        unfold pV
        rw [List.map_append]
        rfl
      · rw [List.length_append, hl]
        rfl
      · intro y hy'
        rcases List.mem_append.mp hy' with hy' | hy'
        · exact hok y hy'
        · rw [List.mem_singleton.mp hy']
          exact hpt
    · obtain ⟨c2, D2', ps, hy, hl, hok⟩ := hP
      have nH : H D2 = none := by
        cases e : H D2 with
        | none => rfl
        | some o => exact absurd (c1' _ _ ne.symm e) (by rw [nD]; exact fun z => nomatch z)
      exact q H2 D2 ps c2 D2' nH hy hok (by omega)

end
end K04
set_option Elab.async false
set_option linter.all false
set_option maxRecDepth 100000
set_option maxHeartbeats 8000000
namespace K04
open PySem PySem.Spec PyProof.Rows L2 Ly Cut

abbrev s_kept : Stmt := topS 34
abbrev N_kept : List Str := ["_law_parts_here", "_law_row", "_law_part_here", "_law_front", "_law_back", "_law_many", "_law_found", "_law_at", "_law_ahead"]
abbrev P_kept : List Str := ["_law_parts_here", "_law_row"]
theorem sc_kept : FnScope N_kept P_kept (defScope s_kept) := ⟨rfl, rfl, rfl, by decide +kernel, rfl, by decide +kernel, by decide +kernel⟩

section
variable {P : Program} {w : World} {K : PySem.W.Frag} {mg : Str → Option Value} {base : Heap} {f C : Addr} {fd : FuncData}
theorem plusV (b : Bool) : decide ((V.str ⟨#[sgn b]⟩) = V.str "+") = b := by cases b <;> decide +kernel
def spLKept (K : PySem.W.Frag) : Sp := fun vs H Q _ => ∃ (a r : Addr) (ps : List Part) (xs : List V), vs = [.ref a, .ref r] ∧ H a = some (.lst (pV ps)) ∧ H r = some (.lst xs) ∧ (∀ p ∈ ps, Ok p) ∧ xs.length ≤ 1000 ∧ ∀ H' q, Same H H' → H q = none → H' q = some (.tup (run ps xs)) → Q (.ref q) H'
theorem ok_lkept (Z : Zs mg) (D : Df K mg "_law_kept" s_kept P_kept f fd) : FnOk P w K mg base CX0 1 f fd P_kept (spLKept K) := by
  refine D.F.ok sc_kept (fun vs H Q E h => ?_) (fun cdv A outer s H vs Q E hr h => ?_)
  · obtain ⟨a, r, ps, xs, rfl, _⟩ := h
    rfl
  · obtain ⟨a, r, ps, xs, rfl, ha, hr', hok, hl, q⟩ := h
    have nd := sc_kept.nd
    refine ⟨_,
    (pss_cons
    (ps_set (i := 1) nd rfl (Or.inl rfl) (pe_callTy call_tuple_of (by rfl) Z.z_tuple (by decide +kernel) (pa_cons (pv 1) pa_nil)))
    (pss_cons
    (ps_for PassesOwn.never rfl (pi_list (pv 0)) (pg_name (i := 2) nd rfl (Or.inl rfl))
      (pss_one
      (ps_if (pt_cmpR op_ne (pv 2) pe_str (nomark _))
        (pss_cons
        (ps_asg (pe_split (pv 2) pe_str) (pg_lst rfl (pgs_cons (pg_name (i := 3) nd rfl (Or.inl rfl)) (pgs_cons (pg_name (i := 4) nd rfl (Or.inl rfl)) pgs_nil))))
        (pss_cons
        (ps_par (i := 5) (j := 6) (by rfl) nd rfl rfl (by decide) rfl rfl (pa_cons (pe_callB call_lenT (by rfl) Z.z_len (by decide +kernel) (pa_cons (pv 1) pa_nil)) (pa_cons (pe_lst pa_nil) pa_nil)) (by rfl))
        (pss_cons
        (ps_for PassesOwn.never rfl (pi_range1 (by rfl) Z.z_range (pa_cons (pv 5) pa_nil)) (pg_name (i := 7) nd rfl (Or.inl rfl))
          (pss_cons
          (ps_set (i := 8) nd rfl (Or.inl rfl) (pe_and (pe_cmpR op_lt (pv 7) (pe_callB call_len_str (by rfl) Z.z_len (by decide +kernel) (pa_cons (pv 3) pa_nil)) (nomark _)) (pe_one (pe_cmpR op_eq (pe_ix ix_str (pv 3) (pv 7) (fun _ _ => rfl)) pe_str (nomark _)))))
          (pss_one
          (ps_if (PW.pt (pw_or (pt_val (pv 8)) (pw_or1 (PW.pt (pw_and (pt_cmpR op_le (pe_op op_sub (pv 5) (pv 7)) (pe_callB call_len_str (by rfl) Z.z_len (by decide +kernel) (pa_cons (pv 4) pa_nil)) (nomark _)) (pw_and1 (pt_cmpR op_eq (pe_ix ix_str (pv 4) (pe_op op_add (pe_op op_sub (pe_callB call_len_str (by rfl) Z.z_len (by decide +kernel) (pa_cons (pv 4) pa_nil)) (pv 5)) (pv 7)) (fun _ _ => rfl)) pe_str (nomark _))))))))
            (pss_one
            (ps_expr (pe_bm PySem.F.plainAttrs_list PySem.F.slot_list_append PySem.F.type_list_append mt_append (pv 6) (pa_cons (pe_ix ix_tup (pv 1) (pv 7) (fun _ _ => rfl)) pa_nil))))
            pss_nil))))
        (pss_one
        (ps_set (i := 1) nd rfl (Or.inl rfl) (pe_callTy call_tuple_of (by rfl) Z.z_tuple (by decide +kernel) (pa_cons (pv 6) pa_nil)))))))
        pss_nil)))
    (pss_one
    (ps_ret (pv 1))))), ?_⟩
    refine ⟨_, rfl, r, xs, rfl, .inl ⟨.of hr', fun t0 nt0 => ?_⟩⟩
    have s0 := same_new (o := .tup xs) nt0
    refine ⟨_, rfl, a, rfl, ⟨_, .of (s0 _ _ ha)⟩, ?_⟩
    refine for_list (xs := pV ps) (fun i σ' H' => Same H H' ∧ ∃ (t : Addr) (x2 x3 x4 x5 x6 x7 x8 : Option V), σ' = [some (.ref a), some (.ref t), x2, x3, x4, x5, x6, x7, x8] ∧ H t = none ∧ H' t = some (.tup (run (ps.take i) xs)))
      ⟨s0, t0, none, none, none, none, none, none, none, rfl, nt0, upd_same⟩ (fun i σ' H' _ hP => .of (hP.1 _ _ ha)) (fun i x σ' H1 hx hP => ?_) (fun σ' H1 hP => ?_)
    · obtain ⟨s1, t, x2, x3, x4, x5, x6, x7, x8, rfl, nt, ht⟩ := hP
      obtain ⟨pt, hpt, rfl⟩ := pV_get hx
      have hokp := hok pt (List.mem_of_getElem? hpt)
      generalize hrow : run (ps.take i) xs = row at ht
      have hrl : row.length ≤ xs.length := by
        rw [← hrow]
        exact run_len _ _
      have hnext : run (ps.take (i + 1)) xs = pick pt row := by
        rw [List.take_add_one, hpt, ← hrow]
        exact run_append _ _ _
      refine ⟨_, rfl, rfl, _, rfl, ?_⟩
      cases pt with
      | all =>
        refine ifF (by rw [decide_eq_true (show V.str Part.all.text = V.str "all" from rfl)]; rfl) ?_
        dsimp only [tNext]
        exact ⟨s1, t, _, _, _, _, _, _, _, rfl, nt, by rw [hnext, pick_all]; exact ht⟩
      | pat fr bk =>
        have F := pat_facts hokp
        obtain ⟨hf, hb⟩ := (show fr.length ≤ 2 ∧ bk.length ≤ 3 from hokp)
        refine ifT (by rw [decide_eq_false fun z => F.ne (V.str.inj z)]; rfl) ?_
        refine ⟨_, rfl, ⟨_, rfl⟩, _, _, rfl, rfl, by decide +kernel, sz1000 (by have := F.len; omega), fun l0 nl0 => ?_⟩
        rw [F.spl]
        refine ⟨l0, _, rfl, .of upd_same, rfl, _, _, rfl, _, _, rfl, rfl, ?_⟩
        have s2 := s1.trans (same_new (o := .lst ([sT fr, sT bk].map V.str)) nl0)
        have ht2 := same_new (o := .lst ([sT fr, sT bk].map V.str)) nl0 _ _ ht
        generalize upd H1 l0 _ = H2 at s2 ht2 ⊢
        refine ⟨_, rfl, t, row, rfl, .of ht2, by show 0 ≤ sizeLine; decide, fun D9 nD => ⟨_, _, rfl, ?_⟩⟩
        refine ⟨_, rfl, row.length, rfl, by omega, by omega, ?_⟩
        refine for_range (lo := 0) (n := (row.length : Int).toNat) (fun j σ' H' => Same H2 H' ∧ ∃ (y7 y8 : Option V), σ' = [some (.ref a), some (.ref t), some (.str (Part.pat fr bk).text), some (.str (sT fr)), some (.str (sT bk)), some (.int row.length), some (.ref D9), y7, y8] ∧ H' D9 = some (.lst (((List.range j).filter (kat fr bk row.length)).filterMap fun i => row[i]?)))
          ⟨same_new nD, _, _, rfl, upd_same⟩ (fun j σ' H3 hj hP3 => ?_) (fun σ' H3 hP3 => ?_)
        · obtain ⟨s3, y7, y8, rfl, hd⟩ := hP3
          have hjl : j < row.length := by omega
          have z0 : (0 : Int) + (j : Int) = (j : Int) := Int.zero_add _
          rw [z0]
          refine asgS (fun v H' => v = .bl (hp fr j) ∧ H' = H3) (fun Q' q' => ?_) (fun v H' hv => ?_)
          · refine ⟨_, rfl, _, rfl, sT fr, rfl, by rw [sT_len]; exact sz1000 (by omega), _, _, rfl, rfl, _, rfl, ?_⟩
            rw [sT_len]
            by_cases h1 : (j : Int) < (fr.length : Int)
            · refine ifT (decide_eq_true h1) ⟨_, rfl, _, rfl, sT fr, j, sgn (fr.getD j false), rfl, rfl, by rw [sT_len]; exact sz1000 (by omega), atI_nat (sT_get (by omega)), rfl, ?_⟩
              rw [plusV]
              refine q' _ _ ⟨congrArg V.bl ?_, rfl⟩
              unfold hp
              rw [decide_eq_true h1, decide_eq_true (show (0 : Int) ≤ j by omega), Int.toNat_natCast]
              rfl
            · refine ifF (decide_eq_false h1) (q' _ _ ⟨congrArg V.bl ?_, rfl⟩)
              exact (hp_out (by omega)).symm
          obtain ⟨rfl, rfl⟩ := hv
          have grow : kat fr bk row.length j = true → (((List.range (j + 1)).filter (kat fr bk row.length)).filterMap fun i => row[i]?) = (((List.range j).filter (kat fr bk row.length)).filterMap fun i => row[i]?) ++ [row[j]] := fun hc => by
            have e1 : [j].filter (kat fr bk row.length) = [j] := by rw [List.filter_cons, hc]; rfl
            rw [List.range_succ, List.filter_append, e1, List.filterMap_append, List.filterMap_cons, List.getElem?_eq_getElem hjl]
            rfl
          have stay : kat fr bk row.length j = false → (((List.range (j + 1)).filter (kat fr bk row.length)).filterMap fun i => row[i]?) = (((List.range j).filter (kat fr bk row.length)).filterMap fun i => row[i]?) := fun hc => by
            have e1 : [j].filter (kat fr bk row.length) = [] := by rw [List.filter_cons, hc]; rfl
            rw [List.range_succ, List.filter_append, e1, List.append_nil]
          have small : (((List.range j).filter (kat fr bk row.length)).filterMap fun i => row[i]?).length < sizeLine := by
            refine Nat.lt_of_le_of_lt (List.length_filterMap_le _ _) (Nat.lt_of_le_of_lt (List.length_filter_le _ _) ?_)
            rw [List.length_range]
            exact small1000 (by omega)
          have fin := fun (hc : kat fr bk row.length j = true) => (show _ from ⟨same_set (o := .lst ((((List.range j).filter (kat fr bk row.length)).filterMap fun i => row[i]?) ++ [row[j]])) s3 nD, some (V.int (j : Int)), some (V.bl (hp fr (j : Int))), rfl, by rw [upd_same, grow hc]⟩ : Same H2 (upd H' D9 (.lst ((((List.range j).filter (kat fr bk row.length)).filterMap fun i => row[i]?) ++ [row[j]]))) ∧ ∃ (y7 y8 : Option V), [some (.ref a), some (.ref t), some (.str (Part.pat fr bk).text), some (.str (sT fr)), some (.str (sT bk)), some (.int row.length), some (.ref D9), some (V.int (j : Int)), some (V.bl (hp fr (j : Int)))] = [some (.ref a), some (.ref t), some (.str (Part.pat fr bk).text), some (.str (sT fr)), some (.str (sT bk)), some (.int row.length), some (.ref D9), y7, y8] ∧
            (upd H' D9 (.lst ((((List.range j).filter (kat fr bk row.length)).filterMap fun i => row[i]?) ++ [row[j]]))) D9 = some (.lst (((List.range (j + 1)).filter (kat fr bk row.length)).filterMap fun i => row[i]?)))
          have not_ := fun (hc : kat fr bk row.length j = false) => (show _ from ⟨s3, some (V.int (j : Int)), some (V.bl (hp fr (j : Int))), rfl, by rw [stay hc]; exact hd⟩ : Same H2 H' ∧ ∃ (y7 y8 : Option V), [some (.ref a), some (.ref t), some (.str (Part.pat fr bk).text), some (.str (sT fr)), some (.str (sT bk)), some (.int row.length), some (.ref D9), some (V.int (j : Int)), some (V.bl (hp fr (j : Int)))] = [some (.ref a), some (.ref t), some (.str (Part.pat fr bk).text), some (.str (sT fr)), some (.str (sT bk)), some (.int row.length), some (.ref D9), y7, y8] ∧
            H' D9 = some (.lst (((List.range (j + 1)).filter (kat fr bk row.length)).filterMap fun i => row[i]?)))
          refine ⟨_, rfl, hp fr j, rfl, ?_⟩
          by_cases h1 : hp fr j = true
          · have hc : kat fr bk row.length j = true := by
              unfold kat
              rw [h1, Bool.true_or]
            exact ifT h1 (ifT rfl ⟨_, rfl, .inl ⟨rfl, _, .of hd⟩, _, rfl, _, rfl, t, row, (j : Int), row[j], rfl, rfl, .of (s3 _ _ ht2), atI_nat (List.getElem?_eq_getElem hjl), D9, _, row[j], rfl, rfl, hd, small, fin hc⟩)
          · have h1' := eq_false_of_ne_true h1
            have ec : kat fr bk row.length j = hp bk ((j : Int) - ((row.length : Int) - bk.length)) := by
              unfold kat
              rw [h1', Bool.false_or]
            refine ifF h1' ⟨_, rfl, _, rfl, _, _, rfl, rfl, _, rfl, sT bk, rfl, by rw [sT_len]; exact sz1000 (by omega), _, _, rfl, rfl, _, rfl, ?_⟩
            rw [sT_len]
            by_cases h2 : (row.length : Int) - (j : Int) ≤ (bk.length : Int)
            · refine ifT (decide_eq_true h2) ⟨_, rfl, _, rfl, sT bk, rfl, by rw [sT_len]; exact sz1000 (by omega), _, rfl, _, _, rfl, rfl, _, rfl, _, _, rfl, rfl, sT bk, (bk.length : Int) - row.length + j, sgn (bk.getD ((bk.length : Int) - row.length + j).toNat false), rfl, by rw [sT_len], by rw [sT_len]; exact sz1000 (by omega), ?_, rfl, _, rfl, ?_⟩
              · exact at_nat (by omega) (sT_get (by omega))
              · rw [plusV]
                have eb : hp bk ((j : Int) - ((row.length : Int) - bk.length)) = bk.getD ((bk.length : Int) - row.length + j).toNat false := by
                  unfold hp
                  rw [decide_eq_true (show (0 : Int) ≤ (j : Int) - ((row.length : Int) - bk.length) by omega), decide_eq_true (show (j : Int) - ((row.length : Int) - bk.length) < (bk.length : Int) by omega), show (j : Int) - ((row.length : Int) - bk.length) = (bk.length : Int) - row.length + j by omega]
                  rfl
                rw [← eb, ← ec]
                by_cases hc : kat fr bk row.length j = true
                · exact ifT hc ⟨_, rfl, .inl ⟨rfl, _, .of hd⟩, _, rfl, _, rfl, t, row, (j : Int), row[j], rfl, rfl, .of (s3 _ _ ht2), atI_nat (List.getElem?_eq_getElem hjl), D9, _, row[j], rfl, rfl, hd, small, fin hc⟩
                · exact ifF (eq_false_of_ne_true hc) (not_ (eq_false_of_ne_true hc))
            · refine ifF (decide_eq_false h2) (ifF rfl (not_ ?_))
              rw [ec, hp_neg (by omega)]
        · obtain ⟨s3, y7, y8, rfl, hd⟩ := hP3
          refine ⟨_, rfl, D9, _, rfl, .inl ⟨.of hd, fun t' nt' => ?_⟩⟩
          exact ⟨(s2.trans s3).trans (same_new nt'), t', _, _, _, _, _, _, _, rfl, (s2.trans s3).free nt', by rw [upd_same, hnext]; rfl⟩
    · obtain ⟨s1, t, x2, x3, x4, x5, x6, x7, x8, rfl, nt, ht⟩ := hP
      have e1 : ps.take (pV ps).length = ps := List.take_of_length_le (by rw [pV_len]; exact Nat.le_refl _)
      rw [e1] at ht
      exact ⟨_, rfl, q H1 t s1 nt ht⟩

end
end K04
set_option Elab.async false
set_option linter.all false
set_option maxRecDepth 100000
set_option maxHeartbeats 4000000
/-! == and != of an own instance with a value of any known type, by the class's own == -/
namespace Ly
open PySem PySem.Spec PyProof.Rows L2
section
variable {X : Cx} {CX : CXT} {k : Nat} {g C : Addr} {sp : Sp} {E : XK}
def rEqX (K : PySem.W.Frag) (C : Addr) (sp : Sp) (E : XK) (neg : Bool) : R2 := fun x y H Q => ∃ a dx fs t, x = .ref a ∧ H a = some (.ins C dx fs) ∧ TyX K H y t ∧ PySem.W.notFirst K C t = true ∧
  sp [.ref a, y] H (fun v H' => ∃ b : Bool, v = .bl b ∧ Q (.bl (b != neg)) H') E
theorem op_eqX (c : Sp1 X.K C g "__eq__") (F : FnR X.prog X.w X.K X.mg X.base CX k g sp) (hr : Room k X.A) (hx : Passes CX X E) : OpR X (compareOp .Eq) (rEqX X.K C sp E false) := by
  intro pins s σ H x y u v Q I rx ry h
  obtain ⟨a, dx, fs, t, rfl, ea, ty, hn, q⟩ := h
  obtain rfl : u = Value.ref a := rx
  obtain ⟨ox, od, J⟩ := ins_inst I ea
  obtain ⟨Pk, Z, hP, _⟩ := kit_of I ry ty
  obtain ⟨m, hF⟩ := I.fr
  refine PySem.W.cmp_ofEq (PySem.W.cmp_K (op := .Eq) (tb := t) hr.units0 hF I.ok.mod.kin J (Z.ty _ _ I.kIn hP) hn c.at_ c.fn ?_)
  refine wpAny_mono (run_fnRA (us := [.ref a, v]) (vs := [.ref a, y]) F hr rfl hx I (.cons rfl (.cons ry .nil)) q) (fun v s' z => ?_) fun _ _ z => z
  obtain ⟨w, H', I', rw_, b, rfl, q'⟩ := z
  obtain rfl : v = Value.bool b := rw_
  refine ⟨.bl b, H', I', rfl, ?_⟩
  rw [Bool.bne_false] at q'
  exact q'
theorem op_neX (c : Sp1 X.K C g "__eq__") (n : NeO X.K C) (F : FnR X.prog X.w X.K X.mg X.base CX k g sp) (hr : Room (k + 1) X.A) (hx : Passes CX X E) : OpR X (compareOp .NotEq) (rEqX X.K C sp E true) := by
  intro pins s σ H x y u v Q I rx ry h
  obtain ⟨a, dx, fs, t, rfl, ea, ty, hn, q⟩ := h
  obtain rfl : u = Value.ref a := rx
  obtain ⟨ox, od, J⟩ := ins_inst I ea
  obtain ⟨Pk, Z, hP, _⟩ := kit_of I ry ty
  have hu : X.A.units + 1 < cLine := by have := hr.un; omega
  refine PySem.W.cmp_ofNotEq (rc_ne hu I.kIn J (Z.ty _ _ I.kIn hP) hn n.mro n.at_ c.at_ c.fn ?_)
  refine wpAny_mono (run_fnRA (us := [.ref a, v]) (vs := [.ref a, y]) F hr.in1 rfl hx I (.cons rfl (.cons ry .nil)) q) (fun v s' z => ?_) fun _ _ z => z
  obtain ⟨w, H', I', rw_, b, rfl, q'⟩ := z
  obtain rfl : v = Value.bool b := rw_
  refine ⟨b, rfl, .bl (!b), H', I', rfl, ?_⟩
  rw [Bool.bne_true] at q'
  exact q'
end
/-! ### an own binary operator: x >> y -/
section
variable {X : Cx} {CX : CXT} {k : Nat} {g C : Addr} {sp : Sp} {E : XK}
/-- two instances of the class at C -/
def rOpO (C : Addr) (sp : Sp) (E : XK) : R2 := fun x y H Q => ∃ a b dx dy fs gs, x = .ref a ∧ y = .ref b ∧ H a = some (.ins C dx fs) ∧ H b = some (.ins C dy gs) ∧
  sp [.ref a, .ref b] H (fun v H' => (∃ p, v = .ref p) ∧ Q v H') E
theorem op_ownO {op : Operator} (hs : PySem.W.findIn X.K (.ref C) (PySem.dunder op.info.2) = some (some (.ref g))) (hf : PySem.W.isFn X.K (.ref g) = true) (hc : PySem.W.selfFirst X.K C = true) (F : FnR X.prog X.w X.K X.mg X.base CX k g sp) (hr : Room k X.A) (hx : Passes CX X E) :
    OpR X (binaryOp op) (rOpO C sp E) := by
  intro pins s σ H x y u v Q I rx ry h
  obtain ⟨a, b, dx, dy, fs, gs, rfl, rfl, ea, eb, q⟩ := h
  obtain rfl : u = Value.ref a := rx
  obtain rfl : v = Value.ref b := ry
  obtain ⟨ox, od, J⟩ := ins_inst I ea
  obtain ⟨oy, od', J'⟩ := ins_inst I eb
  obtain ⟨m, hF⟩ := I.fr
  refine PySem.W.binop_K hF I.ok.mod.kin J J'.type hc hs hf ?_
  refine wpAny_mono (run_fnRA (us := [.ref a, .ref b]) (vs := [.ref a, .ref b]) F hr rfl hx I (.cons rfl (.cons rfl .nil)) q) (fun v s' z => ?_) fun _ _ z => z
  obtain ⟨w, H', I', rw_, ⟨p, rfl⟩, q'⟩ := z
  obtain rfl : v = Value.ref p := rw_
  exact ⟨.ref p, H', I', rfl, q'⟩
end
end Ly

namespace Ly
open PySem PySem.Spec PyProof.Rows L2
section
variable {X : Cx} {K : PySem.W.Frag}
/-- a tuple walked, a tuple taken apart: said of the written part that a block shares with its def -/
theorem piTK {tg e : Expr} {te : TE} (h : X.K = K) (he : PE X e te) : PI X tg e (iTup K te) := h ▸ pi_tup he
theorem pgTK {es : List Expr} {k : Nat} {t : TGs} {n : Nat} {pos : Pos} (h : X.K = K) (hc : X.calm = true) (hg : PGs X es t)
    (hn : (assignEach es X.env).length = n := by rfl) (hst : (assignEach es X.env).findIdx? (·.1) = none := by rfl) : PG X (.Tuple es k pos) (gTup K n t) := h ▸ pg_tup hc hg hn hst
end
end Ly

set_option Elab.async false
set_option linter.all false
set_option maxRecDepth 100000
set_option maxHeartbeats 8000000
namespace K04
open PySem PySem.Spec PyProof.Rows L2 Ly Cut

abbrev s_check_cutter : Stmt := topS 26
abbrev N_check_cutter : List Str := ["value"]
abbrev P_check_cutter : List Str := ["value"]
theorem sc_check_cutter : FnScope N_check_cutter P_check_cutter (defScope s_check_cutter) := ⟨rfl, rfl, rfl, by decide +kernel, rfl, by decide +kernel, by decide +kernel⟩

abbrev s_within : Stmt := inClass (topS 25) 9
abbrev N_within : List Str := ["self", "other", "here", "there", "place"]
abbrev P_within : List Str := ["self", "other"]
theorem sc_within : FnScope N_within P_within (defScope s_within) := ⟨rfl, rfl, rfl, by decide +kernel, rfl, by decide +kernel, by decide +kernel⟩

section
variable {P : Program} {w : World} {K : PySem.W.Frag} {mg : Str → Option Value} {base : Heap} {f C : Addr} {fd : FuncData}
def spChk (C : Addr) : Sp := fun vs H Q _ => ∃ (x : Addr) (ps : List Part), vs = [.ref x] ∧ CutAt C H x ps ∧ Q .non H
theorem ok_chk (Z : Zs mg) (D : Df K mg "check_cutter" s_check_cutter P_check_cutter f fd) (c : CK K C) (hC : mg "Cutter" = some (.ref C)) : FnOk P w K mg base CX0 1 f fd P_check_cutter (spChk C) := by
  refine D.F.ok sc_check_cutter (fun vs H Q E h => ?_) (fun cdv A outer s H vs Q E hr h => ?_)
  · obtain ⟨x, ps, rfl, _⟩ := h
    rfl
  · obtain ⟨x, ps, rfl, hcx, q⟩ := h
    have nd := sc_check_cutter.nd
    obtain ⟨dx, _, _, _, hx, _⟩ := hcx.ex
    refine ⟨_,
    (pss_one
    (ps_if (pt_not (pt_val (pe_callB call_isi (by rfl) Z.z_isinstance (by decide +kernel) (pa_cons (pv 0) (pa_cons (pe_glob (v := .ref C) rfl hC rfl) pa_nil)))))
      (pss_one
      ps_never)
      pss_nil)), ?_⟩
    exact ⟨_, rfl, .ref x, .ref C, _, _, true, rfl, .own C, c.ty hx, c.kit, true, rfl, ifF rfl q⟩

theorem iV_flat (l : List Nat) : (iV l).all flatV = true := by
  rw [List.all_eq_true]
  intro v hv
  obtain ⟨i, _, rfl⟩ := List.mem_map.mp hv
  rfl
theorem inV_iV (k : Nat) : ∀ l : List Nat, inV (V.int (k : Int)) (iV l) = decide (k ∈ l)
  | [] => by
    rw [decide_eq_false List.not_mem_nil]
    rfl
  | i :: l => by
    have ih := inV_iV k l
    show (((i : Int) == (k : Int)) || inV (V.int (k : Int)) (iV l)) = decide (k ∈ i :: l)
    rw [ih]
    by_cases h : k = i
    · subst h
      rw [beq_self_eq_true, Bool.true_or, decide_eq_true List.mem_cons_self]
    · rw [beq_eq_false_iff_ne.mpr (show (i : Int) ≠ (k : Int) by omega), Bool.false_or, decide_eq_decide]
      exact ⟨fun m => List.mem_cons_of_mem _ m, fun m => (List.mem_cons.mp m).resolve_left h⟩
/-- of up to six places the one keeps only what the other one keeps -/
def withinB (ps qs : List Part) : Bool := (List.range 7).all fun i => (Cut.places ps i).all fun k => decide (k ∈ Cut.places qs i)
def spWithin (C : Addr) : Sp := fun vs H Q _ => ∃ (x y : Addr) (ps qs : List Part), vs = [.ref x, .ref y] ∧ CutAt C H x ps ∧ CutAt C H y qs ∧ ∀ H', Same H H' → Q (.bl (withinB ps qs)) H'
theorem okm_within (Z : Zs mg) (D : Dm K "is_within" "Cutter.is_within" s_within P_within f fd) (c : CK K C) {f1 : Addr} {d1 : FuncData} (D_check_cutter : Cl P w K mg base "check_cutter" 1 f1 d1 P_check_cutter (spChk C)) : FnOk P w K mg base CX0 2 f fd P_within (spWithin C) := by
  refine D.F.ok sc_within (fun vs H Q E h => ?_) (fun cdv A outer s H vs Q E hr h => ?_)
  · obtain ⟨x, y, ps, qs, rfl, _⟩ := h
    rfl
  · obtain ⟨x, y, ps, qs, rfl, hcx, hcy, q⟩ := h
    have nd := sc_within.nd
    obtain ⟨dx, p, t, ts, hx, hp, ht, hlen, hts⟩ := hcx.ex
    obtain ⟨dy, p', t', ts', hy, hp', ht', hlen', hts'⟩ := hcy.ex
    refine ⟨_,
    (pss_cons
    (ps_expr (pe_call D_check_cutter.ok (hr.mono (by decide)) (by rfl) D_check_cutter.g D_check_cutter.kp D_check_cutter.b .nil pass0 (pa_cons (pv 1) pa_nil)))
    (pss_one
    (ps_ret (pe_callB (cr_all rfl) (by rfl) Z.z_all (by decide +kernel) (pa_cons (pe_lc2 (own := [("here", 2), ("there", 3), ("place", 4)]) (vs1 := [4]) (tt := tYes) (tt1 := tYes) rfl nd (RZ.pi_zipA (by rfl) Z.z_zip (pa_cons (pe_fld (pv 0) rfl) (pa_cons (pe_fld (pv 1) rfl) pa_nil))) (blkOk_by (N := N_within) (sc := defScope s_within) (by decide +kernel)) (by decide) (fun _ _ _ _ _ => (pgTK (K := K) (n := 2) rfl rfl (pgs_cons (pg_name (i := 2) nd rfl (Or.inl rfl)) (pgs_cons (pg_name (i := 3) nd rfl (Or.inl rfl)) pgs_nil)))) (fun _ _ _ _ _ => pts_nil) (fun _ _ _ _ _ => (piTK (K := K) rfl (pv 2))) (fun _ _ _ _ _ => (pg_name (i := 4) nd rfl (Or.inl rfl))) (fun _ _ _ _ _ => pts_nil) (fun _ _ _ _ _ => (pe_cmpR (inK (K := K) rfl) (pv 4) (pv 3) (by rfl)))) pa_nil))))), ?_⟩
    refine ⟨_, rfl, y, qs, rfl, hcy, ?_⟩
    refine ⟨_, rfl, x, C, dx, _, .ref t, rfl, hx, c.cls, c.nt, rfl, _, rfl, y, C, dy, _, .ref t', rfl, hy, c.cls, c.nt, rfl, t, t', ts, ts', rfl, .inr ⟨.of ht, .of ht', fun D9 nD => ?_⟩⟩
    refine ⟨fun i m H' => m + i = 7 ∧ Same H H' ∧ ∃ bs : List Bool, H' D9 = some (.lst (bs.map V.bl)) ∧ bs.length ≤ 7 * i ∧ bs.all id = (List.range i).all fun j => (Cut.places ps j).all fun k => decide (k ∈ Cut.places qs j), ⟨7, by omega, same_new nD, [], upd_same, by decide, rfl⟩, ?_⟩
    rintro i m H1 ⟨em, s1, bs, hd, hbl, hall⟩
    by_cases hi : i < 7
    · obtain ⟨r, e1, h1⟩ := hts i hi
      obtain ⟨r', e2, h2⟩ := hts' i hi
      refine .inr ⟨⟨ts, ts', .ref r, .ref r', .of (s1 _ _ ht), .of (s1 _ _ ht'), e1, e2⟩, fun H' => Same H H' ∧ ∃ bs : List Bool, H' D9 = some (.lst (bs.map V.bl)) ∧ bs.length ≤ 7 * (i + 1) ∧ bs.all id = (List.range (i + 1)).all fun j => (Cut.places ps j).all fun k => decide (k ∈ Cut.places qs j),
        fun H' h => ⟨m - 1, by omega, by omega, h⟩, fun v H2 hy2 => ?_⟩
      obtain ⟨T, u, u', rfl, nT, rfl, k1, k2⟩ := hy2
      obtain rfl : u = .ref r := Option.some.inj ((k1 ts (.of (s1 _ _ ht))).symm.trans e1)
      obtain rfl : u' = .ref r' := Option.some.inj ((k2 ts' (.of (s1 _ _ ht'))).symm.trans e2)
      have s2 := s1.trans (same_new (o := .tup [V.ref r, .ref r']) nT)
      have hd2 := same_new (o := .tup [V.ref r, .ref r']) nT _ _ hd
      generalize hH2 : upd H1 T (.tup [V.ref r, .ref r']) = H2 at s2 hd2 ⊢
      have hT : H2 T = some (.tup [V.ref r, .ref r']) := by rw [← hH2]; exact upd_same
      refine ⟨T, _, rfl, .of hT, rfl, _, _, rfl, _, _, rfl, rfl, rfl, ?_⟩
      refine ⟨_, rfl, r, rfl, ⟨_, .of (s2 _ _ h1)⟩, ?_⟩
      have hpl := places_len ps i
      refine ⟨fun j k H' => k + j = (Cut.places ps i).length ∧ Same H H' ∧ H' D9 = some (.lst ((bs ++ ((Cut.places ps i).take j).map fun k => decide (k ∈ Cut.places qs i)).map V.bl)), ⟨(Cut.places ps i).length, by omega, s2, by rw [List.take_zero, List.map_nil, List.append_nil]; exact hd2⟩, ?_⟩
      rintro j k H3 ⟨ek, s3, hd3⟩
      have hq3 := s3 _ _ h1
      by_cases hj : j < (Cut.places ps i).length
      · refine .inr ⟨⟨_, _, .of hq3, iV_get (List.getElem?_eq_getElem hj)⟩, fun H' => Same H H' ∧ H' D9 = some (.lst ((bs ++ ((Cut.places ps i).take (j + 1)).map fun k => decide (k ∈ Cut.places qs i)).map V.bl)), fun H' h => ⟨k - 1, by omega, by omega, h⟩, fun v H4 hy4 => ?_⟩
        obtain ⟨rfl, k4⟩ := hy4
        obtain rfl : v = .int ((Cut.places ps i)[j] : Int) := Option.some.inj ((k4 _ (.of hq3)).symm.trans (iV_get (List.getElem?_eq_getElem hj)))
        refine ⟨rfl, _, rfl, _, rfl, r', _, rfl, .inr (.of (s3 _ _ h2)), rfl, iV_flat _, _, hd3, ?_, same_set s3 nD, ?_⟩
        · rw [List.length_map, List.length_append, List.length_map, List.length_take]
          exact small1000 (by omega)
        · rw [upd_same, List.take_add_one, List.getElem?_eq_getElem hj]
          have e : (if false = true then !inV (V.int ((Cut.places ps i)[j] : Int)) (iV (Cut.places qs i)) else inV (V.int ((Cut.places ps i)[j] : Int)) (iV (Cut.places qs i))) = decide ((Cut.places ps i)[j] ∈ Cut.places qs i) := inV_iV _ _
          rw [e]
          simp only [List.map_append, List.append_assoc, Option.toList_some, List.map_cons, List.map_nil]
      · refine .inl ⟨⟨_, .of hq3, by rw [iV_len]; omega⟩, s3, _, hd3, ?_, ?_⟩
        · rw [List.length_append, List.length_map, List.length_take]
          omega
        · rw [List.all_append, hall, List.range_succ, List.all_append, List.take_of_length_le (by omega), List.all_map]
          show _ = (_ && (((Cut.places ps i).all fun k => decide (k ∈ Cut.places qs i)) && true))
          rw [Bool.and_true]
          rfl
    · have e7 : i = 7 := by omega
      subst e7
      refine .inl ⟨⟨ts, ts', .of (s1 _ _ ht), .of (s1 _ _ ht'), .inl (by omega)⟩, D9, bs, rfl, .of hd, ?_⟩
      rw [hall]
      exact q H1 s1

end
end K04
set_option Elab.async false
set_option linter.all false
set_option maxRecDepth 100000
set_option maxHeartbeats 4000000
/-! own layer: an own exception class with its own __init__, over any base -/
namespace PySem
namespace LX
open Builtin Builtin.ObjectAttr PySem.HandSPX
variable {prog : Program} {w : World} {A : Around} {E : Value → Shared → Prop} {R : Result → Shared → Prop} {hp : Heap} {g : Array GenState} {d : Drawn} {t : Nat} {os : OsState}
/-- object.__setattr__ upon an exception that has no dict as yet, where nobody in the mro objects -/
theorem osa_any {K : W.Frag} {name : Str} {tk : Tok} {v : Value} {x C : Addr} {fv : Array Value} {cd : ClassData} (kIn : K.In hp) (hx : hp.get? x = some { cls := .ref C, data := .fields fv }) (hcd : W.clsIn K C = some cd)
    (he : cd.mro.isEmpty = false) (hob : cd.mro.contains (.type "object") = true) (hps : refuseLoop (.ref x) "__setattr__" cd.mro = pure ()) (hh : cd.hasDict = true) (ha : W.findIn K (.ref C) name = some none)
    (hq : ∀ h' tk' dx, (∀ b o, b ≠ x → hp.get? b = some o → h'.get? b = some o) → hp.objs.size ≤ dx → dx ≠ x → h'.get? x = some { cls := .ref C, dict := some dx, data := .fields fv } → h'.Ns1 dx (fun y => if y = name then some v else none) → R (.ok (.ret .none)) ⟨h', g, d, tk', os⟩) :
    codeAny (model prog w) A (.call (.builtin "object.__setattr__") ⟨[.ref x, .str name tk, v], []⟩) R ⟨hp, g, d, t, os⟩ := by
  have J : W.InstAt hp x { cls := .ref C, data := .fields fv } C none := ⟨hx, rfl, rfl, trivial⟩
  have nxs : x ≠ hp.objs.size := Nat.ne_of_lt (Heap.lt_size hx)
  have isO : W.Looks (model prog w) hp (isInstance (.ref x) (.type "object")) true := J.type.andThen (W.looks_mroIn kIn (by unfold W.mroIn; rw [hcd, Option.bind_some, if_neg (by rw [he]; decide), hob]))
  refine codeAny_call_builtin F.store_object.slot.plain F.store_object.entry (@W.check_slot (model prog w) _ _ ⟨hp, g, d, t, os⟩ "object.__setattr__" "object" "__setattr__" (.ref x) [.str name tk, v] [] _ F.store_object.kind F.store_object.split isO (F.store_object.args (.ref x) (.str name tk) v) ?_)
  have lm : W.Looks (model prog w) hp (mroOf (.ref C)) cd.mro := (W.looks_clsIn kIn hcd).andThen .now
  have lc : W.Looks (model prog w) hp (classData C) cd := W.looks_clsIn kIn hcd
  have ln : W.Looks (model prog w) hp (storeTaker? none) none := .now
  rw [W.osa_eq, refuse_eq]; refine wpAny_bind (wpAny_bind (J.type.at (wpAny_bind (lm.at ?_)))); rw [hps]
  refine wpAny_pure (wpAny_bind (J.type.at (wpAny_bind ((W.looks_findIn kIn ha).at (wpAny_bind (ln.at ?_)))))); show wpAny _ _ (storeInOwnDict (.ref x) (.ref C) (.str name tk) name v false) _ _ _
  obtain ⟨nm, bs, mro, ns, qn, hd, sn, sb, ab, col, del⟩ := cd
  dsimp only at hh; subst hh
  unfold storeInOwnDict ownDictForStores
  repeat (first | with_reducible refine store_in_new ?_ ?_ | with_reducible refine wpAny_loadPart_at hx ?_ | with_reducible refine lc.at ?_ | wp_step)
  · exact ⟨_, #[], _, (Heap.get?_update_ne _ _ _ _ nxs.symm).trans (Heap.get?_push_at rfl rfl), rfl, fun e he => absurd he (by simp), fun _ => rfl⟩
  · intro h' tk' hn' hs
    have hx1 : (hp.push { cls := .type "dict", data := .dict #[] }).get? x = some { cls := .ref C, data := .fields fv } := Heap.get?_push_of_some _ hx
    exact hq h' tk' hp.objs.size (fun b o hb ho => (hs.2 b (Nat.ne_of_lt (Heap.lt_size ho))).trans ((Heap.get?_update_ne _ _ _ _ hb).trans (Heap.get?_push_of_some _ ho))) (Nat.le_refl _) nxs.symm ((hs.2 x nxs).trans (Heap.get?_update_self _ hx1 rfl)) hn'
end LX
end PySem
namespace Ly
open PySem PySem.Spec PyProof.Rows L2
/-- what the written part says of such a class, its base the built-in class B -/
structure OexX (K : PySem.W.Frag) (C : Addr) (B newId initId : String) (bm : List Value) : Prop where
  base : ExcBaseFacts B newId initId bm
  pass : ∀ self : Value, refuseLoop self "__setattr__" bm = pure ()
  obj : bm.contains (.type "object") = true
  cls : ∃ nm q N bs sn sub ab col dd k0 k1 k2 k3 k5, K.lookup C = some (excClassObj nm q C N bs bm true sn sub ab col dd k0 k1 k2 k3 k5 newId)
  sa : PySem.W.findIn K (.ref C) "__setattr__" = some (some (.builtin "object.__setattr__"))
  exC : PySem.W.subIn K (.ref C) (.type "BaseException") = some true
  tyC : PySem.W.typeIn K (.ref C) = some (.type "type")
  kC : PySem.W.keepIn K (.ref C) = true
section
variable {X : Cx} {pins : List (Addr × Obj)} {σ : L2.St} {H : Hp} {s : Shared} {a C dx : Addr} {f : Str} {y : V} {u : Value} {B newId initId : String} {bm : List Value}
/-- self.f = y, the first one -/
theorem ost_first {Q : Unit → Shared → Prop} {E : Value → Shared → Prop} {A : Around} (T : OexX X.K C B newId initId bm) (I : Inv X pins σ H s) (e : H a = some (exo a C none)) (hno : PySem.W.findIn X.K (.ref C) f = some none) (ry : RelV y u)
    (h : ∀ dx s', H dx = none → dx ≠ a → Inv X pins σ (upd (upd H dx (exd dx [(f, y)])) a (exo a C (some dx))) s' → Q () s') : wpAny (model X.prog X.w) A (setAttr (.ref a) f u) Q E s := by
  obtain ⟨nm, q, N, bs, sn, sub, ab, col, dd, k0, k1, k2, k3, k5, lC⟩ := T.cls
  obtain ⟨t1, ho⟩ := exo_at I.hok e
  obtain ⟨hp, gs, dr, t, os⟩ := s
  have lcd : PySem.W.clsIn X.K C = some { name := nm, bases := bs, mro := .ref C :: bm, ns := N, qualname := q, hasDict := true, slotNames := sn, subclasses := sub, abstract := ab, collection := col, hasDel := false } := by
    unfold PySem.W.clsIn
    rw [lC] <;> rfl
  refine PySem.W.set_plain I.kIn (ox := { cls := .ref C, dict := none, data := .fields #[.ref t1, .none, .none, .none, .bool false, .none] }) (od := none) ⟨ho, rfl, rfl, trivial⟩ T.sa ?_
  refine PySem.LX.osa_any I.kIn ho lcd rfl (by show (Value.ref C :: bm).contains _ = true; rw [List.contains_cons, T.obj, Bool.or_true]) ((refuseLoop_ref _ _ _ _).trans (T.pass _)) rfl hno (fun h' tk' dx k dn dne hx hn => ?_)
  have fd : H dx = none := I.hok.fresh dn
  have fa : ∀ {b : Addr}, H b = none → b ≠ a := fun {b} n z => by
    rw [z, e] at n
    cases n
  have fb : ∀ {b : Addr} {o : Obj}, hp.get? b = some o → b ≠ dx := fun {b o} z => Nat.ne_of_lt (Nat.lt_of_lt_of_le (Heap.lt_size z) dn)
  have U : Un X.fs [] H (upd (upd H dx (exd dx [(f, y)])) a (exo a C (some dx))) hp h' :=
    { keep := fun b o z n _ _ => k b o (fa n) z
      slot := fun b o z n _ _ => ⟨o.slots, k b o (fa n) z⟩
      free := fun b o z n _ => (upd_ne (fa n)).trans ((upd_ne (fb z)).trans n)
      there := fun b o z _ => by
        by_cases hb : b = a
        · exact ⟨_, by rw [hb]; exact hx⟩
        · exact ⟨o, k b o hb z⟩
      tups := fun b xs z => (upd_ne (at_ne e z exo_tup)).trans ((upd_ne (ne_of_none z fd)).trans z)
      frzs := fun b o v z => (upd_ne (at_ne e z exo_frz)).trans ((upd_ne (ne_of_none z fd)).trans z)
      tbls := fun b ps z => ⟨#[], by rw [upd_ne (at_ne e z exo_tbl), upd_ne (ne_of_none z fd), z]; simp⟩ }
  refine h dx _ fd dne (I.un (t' := tk') U fun b o z => ?_)
  by_cases hb : b = a
  · subst hb
    rw [upd_same] at z
    cases z
    exact exo_ok hx
  rw [upd_ne hb] at z
  by_cases hd : b = dx
  · subst hd
    rw [upd_same] at z
    cases z
    exact exd_ok hn (relO_put (fs := []) ry fun _ => True.intro)
  rw [upd_ne hd] at z
  refine (I.hok b o z).stay (fun c v hc w' => k c v ?_ w') (fun c hc => (upd_ne (at_ne e hc exo_own)).trans ((upd_ne (ne_of_none hc fd)).trans hc)) (fun c xs hc => (upd_ne (at_ne e hc exo_tup)).trans ((upd_ne (ne_of_none hc fd)).trans hc))
  rcases hc with hc | hc
  · rw [hc]
    exact hb
  · exact at_ne e hc exo_own
end
/-- self.f = e, the first field -/
def tOst1 (K : PySem.W.Frag) (C : Addr) (f : Str) (to te : TE) : TS := fun D σ H => te σ H fun y H1 => to σ H1 fun x H2 => ∃ a : Addr, x = .ref a ∧ H2 a = some (exo a C none) ∧ ∀ dx, H2 dx = none → dx ≠ a → D.nx σ (upd (upd H2 dx (exd dx [(f, y)])) a (exo a C (some dx)))
section
variable {X : Cx} {o e : Expr} {es : List Expr} {to te : TE} {ta : TA} {f : Str} {p p' pos : Pos} {C : Addr} {B newId initId : String} {bm : List Value}
theorem ps_ost1 (T : OexX X.K C B newId initId bm) (hno : PySem.W.findIn X.K (.ref C) f = some none) (ho : PE X o to) (he : PE X e te) (hs : swapsWith e (some (.Attribute o f p')) pos.line X.env = pure false := by rfl) : PS X (.Assign [.Attribute o f p'] e pos) (tOst1 X.K C f to te) := by
  refine ⟨fun pins s σ H D I h => ?_⟩
  refine plainObj_wpAny_Assign_Attribute (thn (he.run pins s σ H _ I h) fun v s1 ⟨y, H1, I1, r1, q1⟩ => thn (ho.run pins s1 σ H1 _ I1 q1) fun u s2 ⟨x, H2, I2, r2, a, ex, ea, q⟩ => ?_) hs
  subst ex
  obtain rfl : u = Value.ref a := r2
  exact ost_first T I2 ea hno r1 fun dx s' n ne J => ⟨σ, _, J, q dx n ne⟩
/-- C(e, ..): its own __init__ keeps sp -/
theorem pmk_any {CX : CXT} {x : Str} {fI : Addr} {k : Nat} {fd : FuncData} {ps : List Str} {sp : Sp} {ds : List Value} {dvs : List V} (T : OexX X.K C B newId initId bm) (iC : PySem.W.findIn X.K (.ref C) "__init__" = some (some (.ref fI))) (tI : PySem.W.typeIn X.K (.ref fI) = some (.type "function"))
    (F1 : FnOk X.prog X.w X.K X.mg X.base CX k fI fd ps sp) (hr : Room (k + 1) X.A) (hb : Binds X.K fd ps ds) (hd : Vals dvs ds) (hx : Passes CX X (fun _ _ _ => False)) (hg : Gl X x) (hm : X.mg x = some (.ref C)) (ha : PA X (e :: es) ta)
    (hdb : (x == ("__debug__" : Str)) = false := by decide) (he : starEach (e :: es) X.env = (false, eval e X.env) :: starEach es X.env := by rfl) (hpl : (backTo pos (starEach es X.env)).any (·.1) = false := by rfl) :
    PMk X (.Call (.Name x p) (e :: es) [] pos) (tMkO C sp dvs ta) := by
  intro pins s σ H Q I h
  obtain ⟨nm, q, N, bs, sn, sub, ab, col, dd, k0, k1, k2, k3, k5, lC⟩ := T.cls
  refine wpAny_Call_Name_kw (ld_glob I hg hm ?_ hdb)
  refine PySem.W.callWith_K (h₀ := X.base) I.ok.mod.kin T.kC (thn (ha.run pos pins s σ H _ I h) fun us s1 ⟨vs, H1, I1, r1, hz, q1⟩ => ⟨I1.kIn, ?_⟩) he hpl
  show wpAny _ _ (call (.ref C) us) _ _ _
  obtain ⟨hp, gs, dr, tk, os⟩ := s1
  have le1 : hp.objs.size ≤ hp.objs.size + 1 := Nat.le_succ _
  have hq := q1 (hp.objs.size + 1) (I1.hok.fresh le1)
  have up : ∀ b o, hp.get? b = some o → ((hp.push (PySem.W.kdv_tup us)).push (PySem.HandSPX.excO C hp.objs.size)).get? b = some o := fun b o z => Heap.get?_push_of_some _ (Heap.get?_push_of_some _ z)
  have at1 : ((hp.push (PySem.W.kdv_tup us)).push (PySem.HandSPX.excO C hp.objs.size)).get? (hp.objs.size + 1) = some (PySem.HandSPX.excO C hp.objs.size) := by heap_get
  have J : Inv X pins σ (upd H1 (hp.objs.size + 1) (exo (hp.objs.size + 1) C none)) ⟨(hp.push (PySem.W.kdv_tup us)).push (PySem.HandSPX.excO C hp.objs.size), gs, dr, tk, os⟩ :=
    I1.laid (t' := tk) (a := hp.objs.size + 1) (o := exo (hp.objs.size + 1) C none) (h' := (hp.push (PySem.W.kdv_tup us)).push (PySem.HandSPX.excO C hp.objs.size)) up le1 (exo_ok at1)
  have rv : Vals (V.ref (hp.objs.size + 1) :: (vs ++ dvs)) (Value.ref (hp.objs.size + 1) :: (us ++ ds)) := .cons rfl (r1.append hd)
  have nl : (Value.ref (hp.objs.size + 1) :: us ++ ds).length = ps.length := (rv.length.symm.trans (F1.len _ _ _ _ hq))
  have nu : us.length ≤ sizeLine := by
    rw [← Paired.length r1, sizeLine_eq]
    omega
  refine wpAny_call (PySem.HandSPX.call_own T.base (fun _ => rfl) (I1.kIn _ _ lC) (PySem.W.looks_findIn I1.kIn iC) (fun self => PySem.W.bind_fn I1.kIn self tI) nu
    (codeAny_mono (F1.run _ X.stack _ _ ⟨Value.ref (hp.objs.size + 1) :: us, []⟩ (Value.ref (hp.objs.size + 1) :: (us ++ ds)) _ _ (fun _ _ _ => False) (hr.make C us []) (J.env0.make C us []) (hb _ (Value.ref (hp.objs.size + 1) :: us) J.kIn nl) rv hq) fun r s' hq' => ?_))
  rcases r with er | fl
  · exact hx pins σ _ _ er s' J hq'
  · cases fl with
    | ret u =>
      obtain ⟨v, H2, os2, bare2, un2, hok2, rv2, ev, d, fs, ea, ed, hd1, q2⟩ := hq'
      subst ev
      obtain ⟨h2, g2, d2, t2, os'⟩ := s'
      exact ⟨rv2, mk_end (raises_own T.exC T.tyC) I1 le1 up un2 hok2 os2 bare2 ea ed hd1 q2⟩
    | next | brk | cont => exact False.elim hq'
end
end Ly
namespace Ly
open PySem PySem.Spec PyProof.Rows L2
section
variable {X : Cx} {pins : List (Addr × Obj)} {σ : L2.St} {H : Hp} {s : Shared}
theorem run_fnAt {CX : CXT} {k : Nat} {f : Addr} {sp : Sp} {E : XK} {Q : VK} {us : List Value} {vs : List V} {A : Around} (F : FnR X.prog X.w X.K X.mg X.base CX k f sp) (hr : Room k A) (hf : A.frames = X.A.frames) (hx : PassesAt CX X σ E) (I : Inv X pins σ H s) (r : Vals vs us) (h : sp vs H Q E) :
    wpAny (model X.prog X.w) A (call (.ref f) us) (EP X pins σ Q) X.xe s := by
  refine wpAny_call (codeAny_mono (F A X.stack s H us vs Q E hr ⟨hf.trans I.env0.frames, I.env0.mod, I.env0.bs, I.env0.bsz, I.env0.funs, I.env0.frf, I.env0.hok, I.env0.bare⟩ r h) fun r s' hq => ?_)
  cases r with
  | error e => exact hx pins H s e s' I hq
  | ok fl =>
    cases fl with
    | ret u => exact I.after hq
    | next | brk | cont => exact False.elim hq
/-- x op y by the class's own def, which may raise -/
def tOpS (C : Addr) (sp : Sp) (E : L2.St → XK) (ta tb : TE) : TE := fun σ H Q => ta σ H fun x H1 => tb σ H1 fun y H2 => ∃ a b dx dy fs gs, x = .ref a ∧ y = .ref b ∧ H2 a = some (.ins C dx fs) ∧ H2 b = some (.ins C dy gs) ∧ sp [.ref a, .ref b] H2 (fun v H' => (∃ p, v = .ref p) ∧ Q v H') (E σ)
theorem pe_opS {CX : CXT} {k : Nat} {g C : Addr} {sp : Sp} {E : L2.St → XK} {op : Operator} {a b : Expr} {ta tb : TE} {pos : Pos} (hs : PySem.W.findIn X.K (.ref C) (PySem.dunder op.info.2) = some (some (.ref g))) (hf : PySem.W.isFn X.K (.ref g) = true) (hc : PySem.W.selfFirst X.K C = true)
    (F : FnR X.prog X.w X.K X.mg X.base CX k g sp) (hr : Room k X.A) (hx : ∀ σ, PassesAt CX X σ (E σ)) (ha : PE X a ta) (hb : PE X b tb) : PE X (.BinOp a op b pos) (tOpS C sp E ta tb) := by
  refine ⟨fun pins s σ H Q I h => ?_⟩
  refine wpAny_BinOp (binT ha hb I h fun v u s2 x y H2 I2 rx ry q => ?_)
  obtain ⟨p, r, dx, dy, fs, gs, rfl, rfl, ea, eb, q⟩ := q
  obtain rfl : v = Value.ref p := rx
  obtain rfl : u = Value.ref r := ry
  obtain ⟨ox, od, J⟩ := ins_inst I2 ea
  obtain ⟨oy, od', J'⟩ := ins_inst I2 eb
  obtain ⟨m, hF⟩ := I2.fr
  refine PySem.W.binop_K hF I2.ok.mod.kin J J'.type hc hs hf ?_
  refine wpAny_mono (run_fnAt (us := [.ref p, .ref r]) (vs := [.ref p, .ref r]) F hr rfl (hx σ) I2 (.cons rfl (.cons rfl .nil)) q) (fun v s' z => ?_) fun _ _ z => z
  obtain ⟨w, H', I', rw_, ⟨p', rfl⟩, q'⟩ := z
  obtain rfl : v = Value.ref p' := rw_
  exact ⟨.ref p', H', I', rfl, q'⟩
end
end Ly

set_option Elab.async false
set_option linter.all false
set_option maxRecDepth 100000
set_option maxHeartbeats 8000000
namespace K04
open PySem PySem.Spec PyProof.Rows L2 Ly Cut

abbrev s_ekept : Stmt := topS 4
abbrev N_ekept : List Str := ["value", "part", "key"]
abbrev P_ekept : List Str := ["value"]
theorem sc_ekept : FnScope N_ekept P_ekept (defScope s_ekept) := ⟨rfl, rfl, rfl, by decide +kernel, rfl, by decide +kernel, by decide +kernel⟩

abbrev s_tinit : Stmt := inClass (topS 9) 0
abbrev N_tinit : List Str := ["self", "limit"]
abbrev P_tinit : List Str := ["self", "limit"]
theorem sc_tinit : FnScope N_tinit P_tinit (defScope s_tinit) := ⟨rfl, rfl, rfl, by decide +kernel, rfl, by decide +kernel, by decide +kernel⟩

abbrev s_rshift : Stmt := inClass (topS 25) 8
abbrev N_rshift : List Str := ["self", "other", "parts"]
abbrev P_rshift : List Str := ["self", "other"]
theorem sc_rshift : FnScope N_rshift P_rshift (defScope s_rshift) := ⟨rfl, rfl, rfl, by decide +kernel, rfl, by decide +kernel, by decide +kernel⟩

section
variable {P : Program} {w : World} {K : PySem.W.Frag} {mg : Str → Option Value} {base : Heap} {f C CT : Addr} {fd : FuncData}
abbrev bmO : List Value := [.type "OverflowError", .type "ArithmeticError", .type "Exception", .type "BaseException", .type "object"]
abbrev OexT (K : PySem.W.Frag) (CT : Addr) : Prop := OexX K CT "OverflowError" "OverflowError.__new__" "OverflowError.__init__" bmO
def spEKept : Sp := fun vs H Q _ => ∃ i : Int, vs = [.int i] ∧ Q (.int i) H
theorem ok_ekept (Z : Zs mg) (D : Df K mg "kept" s_ekept P_ekept f fd) : FnOk P w K mg base CX0 1 f fd P_ekept spEKept := by
  refine D.F.ok sc_ekept (fun vs H Q E h => ?_) (fun cdv A outer s H vs Q E hr h => ?_)
  · obtain ⟨i, rfl, _⟩ := h
    rfl
  · obtain ⟨i, rfl, q⟩ := h
    have nd := sc_ekept.nd
    refine ⟨_,
    (pss_cons
    (ps_if (pt_val (pe_callB call_isi (by rfl) Z.z_isinstance (by decide +kernel) (pa_cons (pv 0) (pa_cons (pe_bltn (v := .ty "list") (by rfl) Z.z_list (by decide +kernel) rfl) pa_nil))))
      (pss_one
      ps_never)
      pss_nil)
    (pss_cons
    (ps_if (pt_val (pe_callB call_isi (by rfl) Z.z_isinstance (by decide +kernel) (pa_cons (pv 0) (pa_cons (pe_bltn (v := .ty "tuple") (by rfl) Z.z_tuple (by decide +kernel) rfl) pa_nil))))
      (pss_one
      ps_never)
      pss_nil)
    (pss_cons
    (ps_if (pt_val (pe_callB call_isi (by rfl) Z.z_isinstance (by decide +kernel) (pa_cons (pv 0) (pa_cons (pe_bltn (v := .ty "dict") (by rfl) Z.z_dict (by decide +kernel) rfl) pa_nil))))
      (pss_one
      ps_never)
      pss_nil)
    (pss_one
    (ps_ret (pv 0)))))), ?_⟩
    refine ⟨_, rfl, .int i, .ty "list", _, _, false, rfl, .ty _, .base (.int _), kit_ty (by decide +kernel), false, rfl, ifF rfl ?_⟩
    dsimp only [tNext]
    refine ⟨_, rfl, .int i, .ty "tuple", _, _, false, rfl, .ty _, .base (.int _), kit_ty (by decide +kernel), false, rfl, ifF rfl ?_⟩
    dsimp only [tNext]
    refine ⟨_, rfl, .int i, .ty "dict", _, _, false, rfl, .ty _, .base (.int _), kit_ty (by decide +kernel), false, rfl, ifF rfl ?_⟩
    exact ⟨_, rfl, q⟩
def spMany (CT : Addr) : Sp := fun vs H Q _ => ∃ a : Addr, vs = [.ref a, .int 4] ∧ H a = some (exo a CT none) ∧ ∀ dx, H dx = none → dx ≠ a → Q .non (upd (upd H dx (exd dx [("limit", .int 4)])) a (exo a CT (some dx)))
theorem okm_tinit (D : Dm K "__init__" "TooMany.__init__" s_tinit P_tinit f fd) (T : OexT K CT) (hno : PySem.W.findIn K (.ref CT) "limit" = some none) {f1 : Addr} {d1 : FuncData} (D_ekept : Cl P w K mg base "kept" 1 f1 d1 P_ekept spEKept) : FnOk P w K mg base CX0 2 f fd P_tinit (spMany CT) := by
  refine D.F.ok sc_tinit (fun vs H Q E h => ?_) (fun cdv A outer s H vs Q E hr h => ?_)
  · obtain ⟨a, rfl, _⟩ := h
    rfl
  · obtain ⟨a, rfl, ha, q⟩ := h
    have nd := sc_tinit.nd
    refine ⟨_,
    (pss_one
    (ps_ost1 T hno (pv 0) (pe_call D_ekept.ok (hr.mono (by decide)) (by rfl) D_ekept.g D_ekept.kp D_ekept.b .nil pass0 (pa_cons (pv 1) pa_nil)))), ?_⟩
    exact ⟨_, rfl, 4, rfl, _, rfl, a, rfl, ha, q⟩

/-- the two cutters joined; more than four parts are too many -/
def spShift (C CT : Addr) : Sp := fun vs H Q E => ∃ (x y : Addr) (ps qs : List Part), vs = [.ref x, .ref y] ∧ CutAt C H x ps ∧ CutAt C H y qs ∧
  ((ps ++ qs).length ≤ 4 → ∀ H' z, Same H H' → H z = none → CutAt C H' z (ps ++ qs) → Q (.ref z) H') ∧ (4 < (ps ++ qs).length → ∀ H' d, Same H H' → H' d = some (.xd [("limit", .int 4)]) → E (.ref CT) (some d) H')
theorem okm_rshift (Z : Zs mg) (D : Dm K "__rshift__" "Cutter.__rshift__" s_rshift P_rshift f fd) (c : CK K C) (hC : mg "Cutter" = some (.ref C)) {f1 fi fI : Addr} {d1 dI : FuncData} (D_check_cutter : Cl P w K mg base "check_cutter" 1 f1 d1 P_check_cutter (spChk C)) (M : Mk K C fi) (FI : FnR P w K mg base CX0 5 fi (spInit C))
    (T : OexT K CT) (gT : mg "TooMany" = some (.ref CT)) (iC : PySem.W.findIn K (.ref CT) "__init__" = some (some (.ref fI))) (tI : PySem.W.typeIn K (.ref fI) = some (.type "function")) (F_many : Cm P w K mg base 2 fI dI P_tinit (spMany CT)) : FnOk P w K mg base (L2.CX P w) 7 f fd P_rshift (spShift C CT) := by
  refine D.F.okX sc_rshift (fun vs H Q E h => ?_) (fun cdv A outer s H vs Q E hr h => ?_)
  · obtain ⟨x, y, ps, qs, rfl, _⟩ := h
    rfl
  · obtain ⟨x, y, ps, qs, rfl, hcx, hcy, qa, qb⟩ := h
    have nd := sc_rshift.nd
    obtain ⟨dx, p, t, ts, hx, hp, _⟩ := hcx.ex
    obtain ⟨dy, p', t', ts', hy, hp', _⟩ := hcy.ex
    have e : pV ps ++ pV qs = pV (ps ++ qs) := by
      unfold pV
      rw [List.map_append]
    have hok : ∀ p ∈ ps ++ qs, Ok p := fun p hp => (List.mem_append.mp hp).elim (hcx.ok p) (hcy.ok p)
    have h1 := hcx.le
    have h2 := hcy.le
    refine ⟨_,
    (pss_cons
    (ps_expr (pe_call D_check_cutter.ok (hr.mono (by decide)) (by rfl) D_check_cutter.g D_check_cutter.kp D_check_cutter.b .nil pass0 (pa_cons (pv 1) pa_nil)))
    (pss_cons
    (ps_set (i := 2) nd rfl (Or.inl rfl) (pe_op op_catA (pe_fld (pv 0) rfl) (pe_fld (pv 1) rfl)))
    (pss_cons
    (ps_if (pt_cmpR op_gt (pe_callB call_lenT (by rfl) Z.z_len (by decide +kernel) (pa_cons (pv 2) pa_nil)) (pe_gI rfl Z.g_MAX_PARTS) (nomark _))
      (pss_one
      (ps_raise rfl (takes_of rfl rfl rfl rfl) (pmk_any T iC tI F_many.ok (hr.mono (by decide)) F_many.b .nil pass0 (by rfl) gT (pa_cons (pe_gI rfl Z.g_MAX_PARTS) pa_nil))))
      pss_nil)
    (pss_one
    (ps_ret (pe_makeS M FI (hr.mono (by decide)) (by rfl) hC pass0 (pv 2))))))), ?_⟩
    refine ⟨_, rfl, y, qs, rfl, hcy, ?_⟩
    dsimp only
    refine asgS (fun v H1 => Same H H1 ∧ ∃ r, v = .ref r ∧ SqT K H1 r (pV (ps ++ qs))) (fun Q' q' => ?_) (fun v H1 hv => ?_)
    · refine ⟨_, rfl, x, C, dx, _, .ref p, rfl, hx, c.cls, c.np, rfl, _, rfl, y, C, dy, _, .ref p', rfl, hy, c.cls, c.np, rfl, p, p', pV ps, pV qs, rfl, rfl, .of hp, .of hp', ?_, fun e0 => ?_, fun _ e0 => ?_, fun _ _ r nr => ?_⟩
      · rw [pV_len, pV_len]
        exact sz1000 (by omega)
      · refine q' _ _ ⟨Same.refl H, p', rfl, .of ?_⟩
        rw [← e, e0, List.nil_append]
        exact hp'
      · refine q' _ _ ⟨Same.refl H, p, rfl, .of ?_⟩
        rw [← e, e0, List.append_nil]
        exact hp
      · refine q' _ _ ⟨same_new nr, r, rfl, .of ?_⟩
        rw [← e]
        exact upd_same
    obtain ⟨s1, r, rfl, hr1⟩ := hv
    by_cases hl : (ps ++ qs).length ≤ 4
    · refine ⟨_, rfl, r, _, rfl, hr1, _, _, rfl, rfl, _, rfl, ifF (decide_eq_false (by rw [pV_len]; omega)) ?_⟩
      dsimp only [tNext]
      refine ⟨rfl, _, rfl, r, pV (ps ++ qs), rfl, .inl hr1, fun z dz nz ndz hne => ⟨z, dz, ps ++ qs, rfl, upd_same, hok, hl, fun H' c' k => ⟨rfl, qa hl H' z (fun b o e => ?_) ?_ k⟩⟩⟩
      · have e1 := s1 _ _ e
        refine c' b o (ne_of_none e1 nz) ?_
        rw [upd_ne (ne_of_none e1 nz), upd_ne (ne_of_none e1 ndz)]
        exact e1
      · exact s1.free nz
    · refine ⟨_, rfl, r, _, rfl, hr1, _, _, rfl, rfl, _, rfl, ifT (decide_eq_true (by rw [pV_len]; omega)) ?_⟩
      refine ⟨by show 1 ≤ 1000; decide, fun a na => ⟨a, rfl, upd_same, fun d nd' hne => ⟨rfl, d, _, upd_same, ?_, ?_, qb (by omega) _ d (fun b o eb => ?_) upd_same⟩⟩⟩
      · rw [upd_ne hne]
        exact upd_same
      · rw [upd_ne hne] at nd'
        exact nd'
      · rw [upd_ne hne] at nd'
        have e1 := s1 _ _ eb
        have n1 := ne_of_none e1 na
        have n2 := ne_of_none e1 nd'
        rw [upd_ne n2, del_ne n1, upd_ne n1, upd_ne n2, upd_ne n1]
        exact e1

end
end K04
set_option Elab.async false
set_option linter.all false
set_option maxRecDepth 100000
set_option maxHeartbeats 4000000
/-! what cutters tell, as data that repr and == see -/
namespace Cut
open PySem PySem.Spec PyProof.Rows L2 Ly
theorem log_small {i : Int} (h : i.natAbs < 2 ^ 1900) : i.natAbs.log2 < 1920 := by
  by_cases h0 : i.natAbs = 0
  · rw [h0]
    decide
  · exact Nat.lt_of_lt_of_le ((Nat.log2_lt h0).mpr h) (by decide)
theorem rpAll_iV {H : Hp} : ∀ l : List Nat, (∀ i ∈ l, i ≤ 2000) → RpAll H (l.map fun (i : Nat) => PyData.int (i : Int)) (iV l)
  | [], _ => rfl
  | i :: l, h => by
    refine ⟨.int i, iV l, rfl, ⟨rfl, log_small ?_⟩, rpAll_iV l fun j hj => h j (List.mem_cons_of_mem _ hj)⟩
    have h1 := h i List.mem_cons_self
    have h2 : (2000 : Nat) < 2 ^ 1900 := by decide +kernel
    rw [Int.natAbs_natCast]
    omega
theorem rp_iV {H : Hp} {q : Addr} {l : List Nat} (e : H q = some (.tup (iV l))) (h : ∀ i ∈ l, i ≤ 2000) : Rp H (dI l) (.ref q) := ⟨q, iV l, rfl, e, rpAll_iV l h⟩
theorem bulk_ints : ∀ l : List Nat, PyData.bulkAll (l.map fun (i : Nat) => PyData.int (i : Int)) = l.length
  | [] => rfl
  | i :: l => by
    show 0 + 1 + PyData.bulkAll (l.map fun (i : Nat) => PyData.int (i : Int)) = l.length + 1
    rw [bulk_ints l]
    omega
theorem bulk_dI (l : List Nat) : (dI l).bulk = l.length := bulk_ints l
theorem depth_dI (l : List Nat) : (dI l).depth = 1 := by
  show PyData.depthAll (l.map fun (i : Nat) => PyData.int (i : Int)) + 1 = 1
  rw [(shp_ints l).2]
/-- the parts as data -/
def dP (ps : List Part) : List PyData := ps.map fun p => PyData.str p.text
theorem rpAll_pV {H : Hp} : ∀ ps : List Part, (∀ p ∈ ps, Ok p) → RpAll H (dP ps) (pV ps)
  | [], _ => rfl
  | p :: ps, h => ⟨.str p.text, pV ps, rfl, ⟨rfl, text_cs (h p List.mem_cons_self)⟩, rpAll_pV ps fun q hq => h q (List.mem_cons_of_mem _ hq)⟩
theorem bulk_dP : ∀ ps : List Part, (∀ p ∈ ps, Ok p) → PyData.bulkAll (dP ps) ≤ 11 * ps.length
  | [], _ => Nat.le_refl _
  | p :: ps, h => by
    have h1 := text_len (h p List.mem_cons_self)
    have h2 := bulk_dP ps fun q hq => h q (List.mem_cons_of_mem _ hq)
    show p.text.cps.size + 1 + PyData.bulkAll (dP ps) ≤ 11 * (ps.length + 1)
    have h3 : p.text.cps.size ≤ 10 := h1
    omega
theorem depth_dP : ∀ ps : List Part, PyData.depthAll (dP ps) = 0
  | [] => rfl
  | p :: ps => by
    show max 0 (PyData.depthAll (dP ps)) = 0
    rw [depth_dP ps]
    rfl
theorem text_pt {p : Part} (h : Ok p) : p.text.cps.all (· < 0x110000) = true := by
  rw [← Array.all_toList, List.all_eq_true]
  intro c hc
  cases p with
  | all =>
    have : ∀ c ∈ (Part.text .all).cps.toList, decide (c < 0x110000) = true := by decide +kernel
    exact this c hc
  | pat f b =>
    rcases (pat_facts h).cs c hc with e | e | e <;> rw [e] <;> decide
theorem canLay_dP : ∀ ps : List Part, (∀ p ∈ ps, Ok p) → PyData.canLayAll0 (dP ps) = true
  | [], _ => rfl
  | p :: ps, h => by
    show (PyData.strOk p.text && PyData.canLayAll0 (dP ps)) = true
    rw [canLay_dP ps fun q hq => h q (List.mem_cons_of_mem _ hq), Bool.and_true]
    exact text_pt (h p List.mem_cons_self)
theorem shp_list {ds : List PyData} (h : PyData.canLayAll0 ds = true) (hd : PyData.depthAll ds = 0) : SeqAt.shaped (.list ds) = true := by
  show (PyData.canLayAll0 ds && decide (PyData.depthAll ds + 1 ≤ 64)) = true
  rw [h, hd]
  rfl
theorem dpAll_pV {K : PySem.W.Frag} {H : Hp} : ∀ ps : List Part, DpAll K H (pV ps) (dP ps)
  | [] => .nil
  | p :: ps => .cons (.str _) (dpAll_pV ps)
theorem eqv_empty (ds : List PyData) : PyData.eqv (.list ds) (.list []) = ds.isEmpty := by cases ds <;> rfl
/-! ### texts of cutters -/
theorem join_len (sep : Str) : ∀ xs : List Str, (Str.join sep xs).length ≤ (xs.map fun x => x.length + sep.length).sum
  | [] => Nat.zero_le _
  | [x] => by
    show x.length ≤ x.length + sep.length + 0
    omega
  | x :: y :: r => by
    have h := join_len sep (y :: r)
    show (x ++ sep ++ Str.join sep (y :: r) : Str).length ≤ _
    rw [← str_len, app_cps, app_cps, List.length_append, List.length_append, str_len, str_len, str_len, List.map_cons, List.sum_cons]
    omega
theorem join_mem (sep : Str) : ∀ (xs : List Str) (c : Nat), c ∈ (Str.join sep xs).cps.toList → c ∈ sep.cps.toList ∨ ∃ x ∈ xs, c ∈ x.cps.toList
  | [], c, h => absurd (show c ∈ ([] : List Nat) from h) List.not_mem_nil
  | [x], c, h => .inr ⟨x, List.mem_cons_self, h⟩
  | x :: y :: r, c, h => by
    have h' : c ∈ (x ++ sep ++ Str.join sep (y :: r) : Str).cps.toList := h
    rw [app_cps, app_cps, List.mem_append, List.mem_append] at h'
    rcases h' with (h' | h') | h'
    · exact .inr ⟨x, List.mem_cons_self, h'⟩
    · exact .inl h'
    · rcases join_mem sep (y :: r) c h' with h' | ⟨z, hz, h'⟩
      · exact .inl h'
      · exact .inr ⟨z, List.mem_cons_of_mem _ hz, h'⟩
theorem cutText_cs {ps : List Part} (h : ∀ p ∈ ps, Ok p) : ∀ c ∈ (cutText ps).cps.toList, c < 16 ^ 8 := by
  intro c hc
  unfold cutText at hc
  by_cases e : ps = []
  · rw [if_pos e] at hc
    have : ∀ c ∈ (Str.ofString "all").cps.toList, c < 16 ^ 8 := by decide +kernel
    exact this c hc
  · rw [if_neg e, show Txt.join " > " (ps.map Part.text) = Str.join " > " (ps.map Part.text) from StrLaws.glued_eq_join _ _] at hc
    rcases join_mem _ _ _ hc with hc | ⟨x, hx, hc⟩
    · have : ∀ c ∈ (Str.ofString " > ").cps.toList, c < 16 ^ 8 := by decide +kernel
      exact this c hc
    · obtain ⟨p, hp, rfl⟩ := List.mem_map.mp hx
      exact text_cs (h p hp) c hc
theorem cutText_len {ps : List Part} (h : ∀ p ∈ ps, Ok p) (hl : ps.length ≤ 4) : (cutText ps).length ≤ 60 := by
  unfold cutText
  by_cases e : ps = []
  · rw [if_pos e]
    decide +kernel
  · rw [if_neg e, show Txt.join " > " (ps.map Part.text) = Str.join " > " (ps.map Part.text) from StrLaws.glued_eq_join _ _]
    refine Nat.le_trans (join_len _ _) ?_
    have e3 : (Str.ofString " > ").length = 3 := by decide +kernel
    have hb : ∀ l : List Part, (∀ p ∈ l, Ok p) → ((l.map Part.text).map fun x => x.length + 3).sum ≤ 13 * l.length := by
      intro l
      induction l with
      | nil => intro _; exact Nat.le_refl _
      | cons a l ih =>
        intro h
        have h1 := text_len (h a List.mem_cons_self)
        have h2 := ih fun p hp => h p (List.mem_cons_of_mem _ hp)
        rw [List.map_cons, List.map_cons, List.sum_cons, List.length_cons]
        omega
    have := hb ps h
    show ((ps.map Part.text).map fun x => x.length + (Str.ofString " > ").length).sum ≤ 60
    rw [e3]
    omega
theorem join_size {ps : List Part} (h : ∀ p ∈ ps, Ok p) (hl : ps.length ≤ 4) : ((ps.map Part.text).map fun x => x.length).sum + (ps.map Part.text).length * (Str.ofString " > ").length ≤ 16777216 := by
  have hb : ∀ l : List Part, (∀ p ∈ l, Ok p) → ((l.map Part.text).map fun x => x.length).sum ≤ 10 * l.length := by
    intro l
    induction l with
    | nil => intro _; exact Nat.le_refl _
    | cons a l ih =>
      intro h
      have h1 := text_len (h a List.mem_cons_self)
      have h2 := ih fun p hp => h p (List.mem_cons_of_mem _ hp)
      rw [List.map_cons, List.map_cons, List.sum_cons, List.length_cons]
      omega
  have h1 := hb ps h
  have e3 : (Str.ofString " > ").length = 3 := by decide +kernel
  rw [List.length_map, e3]
  omega
/-! ### rows of small data -/
theorem rpAll_append {H : Hp} : ∀ {ds : List PyData} {xs : List V} {es : List PyData} {ys : List V}, RpAll H ds xs → RpAll H es ys → RpAll H (ds ++ es) (xs ++ ys)
  | [], xs, es, ys, h, k => by
    have h' : xs = [] := h
    subst h'
    exact k
  | d :: ds, xs, es, ys, h, k => by
    obtain ⟨x, r, rfl, h1, h2⟩ := (show ∃ x r, xs = x :: r ∧ Rp H d x ∧ RpAll H ds r from h)
    exact ⟨x, r ++ ys, rfl, h1, rpAll_append h2 k⟩
theorem rpAll_len {H : Hp} : ∀ {ds : List PyData} {xs : List V}, RpAll H ds xs → ds.length = xs.length
  | [], xs, h => by
    have h' : xs = [] := h
    subst h'
    rfl
  | d :: ds, xs, h => by
    obtain ⟨x, r, rfl, h1, h2⟩ := (show ∃ x r, xs = x :: r ∧ Rp H d x ∧ RpAll H ds r from h)
    rw [List.length_cons, List.length_cons, rpAll_len h2]
theorem rpAll_get {H : Hp} : ∀ {ds : List PyData} {xs : List V} (i : Nat), RpAll H ds xs → (∃ d x, ds[i]? = some d ∧ xs[i]? = some x ∧ Rp H d x) ∨ (ds[i]? = none ∧ xs[i]? = none)
  | [], xs, i, h => by
    have h' : xs = [] := h
    subst h'
    exact .inr ⟨rfl, rfl⟩
  | d :: ds, xs, i, h => by
    obtain ⟨x, r, rfl, h1, h2⟩ := (show ∃ x r, xs = x :: r ∧ Rp H d x ∧ RpAll H ds r from h)
    cases i with
    | zero => exact .inl ⟨d, x, rfl, rfl, h1⟩
    | succ i => exact rpAll_get i h2
theorem rpAll_sel {H : Hp} {ds : List PyData} {xs : List V} (h : RpAll H ds xs) : ∀ l : List Nat, RpAll H (l.filterMap fun i => ds[i]?) (l.filterMap fun i => xs[i]?)
  | [] => rfl
  | i :: l => by
    rw [List.filterMap_cons, List.filterMap_cons]
    rcases rpAll_get i h with ⟨d, x, e1, e2, h1⟩ | ⟨e1, e2⟩
    · rw [e1, e2]
      exact ⟨x, _, rfl, h1, rpAll_sel h l⟩
    · rw [e1, e2]
      exact rpAll_sel h l
theorem rpAll_run {H : Hp} {ds : List PyData} {xs : List V} (ps : List Part) (h : RpAll H ds xs) : RpAll H (run ps ds) (run ps xs) := by
  rw [run_get, run_get, rpAll_len h]
  exact rpAll_sel h _
/-- small data -/
def Sm (ds : List PyData) : Prop := ∀ e ∈ ds, e.bulk ≤ 3 ∧ e.depth ≤ 1
theorem Sm.bulk : ∀ {ds : List PyData}, Sm ds → PyData.bulkAll ds ≤ 4 * ds.length
  | [], _ => Nat.le_refl _
  | d :: ds, h => by
    have h1 := (h d List.mem_cons_self).1
    have h2 := Sm.bulk fun e he => h e (List.mem_cons_of_mem _ he)
    show d.bulk + 1 + PyData.bulkAll ds ≤ 4 * (ds.length + 1)
    omega
theorem Sm.depth : ∀ {ds : List PyData}, Sm ds → PyData.depthAll ds ≤ 1
  | [], _ => Nat.zero_le _
  | d :: ds, h => by
    have h1 := (h d List.mem_cons_self).2
    have h2 := Sm.depth fun e he => h e (List.mem_cons_of_mem _ he)
    show max d.depth (PyData.depthAll ds) ≤ 1
    omega
theorem Sm.run {ds : List PyData} (h : Sm ds) (ps : List Part) : Sm (run ps ds) := fun e he => h e (run_sub ps ds e he)
/-- a row of small data, whatever the dice do -/
def RowD (d : Addr) (H : Hp) (xs : List V) (ds : List PyData) : Prop := Sm ds ∧ ∀ H', Chg d H H' → RpAll H' ds xs
theorem RowD.mono {d : Addr} {H H1 : Hp} {xs : List V} {ds : List PyData} (h : RowD d H xs ds) (c : Chg d H H1) : RowD d H1 xs ds := ⟨h.1, fun H' c' => h.2 H' (c.trans c')⟩
theorem RowD.snoc {d : Addr} {H : Hp} {xs : List V} {ds : List PyData} {x : V} {e : PyData} (h : RowD d H xs ds) (hb : e.bulk ≤ 3) (hd : e.depth ≤ 1) (k : ∀ H', Chg d H H' → Rp H' e x) : RowD d H (xs ++ [x]) (ds ++ [e]) := by
  refine ⟨fun y hy => ?_, fun H' c => rpAll_append (h.2 H' c) ⟨x, [], rfl, k H' c, rfl⟩⟩
  rcases List.mem_append.mp hy with hy | hy
  · exact h.1 y hy
  · rw [List.mem_singleton.mp hy]
    exact ⟨hb, hd⟩
/-- .. and whatever the list does in which the row is gathered -/
def Chg2 (d L : Addr) (H H' : Hp) : Prop := ∀ b o, b ≠ d → b ≠ L → H b = some o → H' b = some o
theorem Chg2.trans {d L : Addr} {H H1 H2 : Hp} (a : Chg2 d L H H1) (b : Chg2 d L H1 H2) : Chg2 d L H H2 := fun x o n m h => b x o n m (a x o n m h)
theorem Chg2.of {d L : Addr} {H H' : Hp} (c : Chg d H H') : Chg2 d L H H' := fun x o n _ h => c x o n h
theorem Chg2.upd {d L : Addr} {H H' : Hp} {o : HO} (c : Chg2 d L H H') : Chg2 d L H (L2.upd H' L o) := fun x u n m h => by
  rw [upd_ne m]
  exact c x u n m h
def RowL (d L : Addr) (H : Hp) (xs : List V) (ds : List PyData) : Prop := Sm ds ∧ ∀ H', Chg2 d L H H' → RpAll H' ds xs
theorem RowL.row {d L : Addr} {H : Hp} {xs : List V} {ds : List PyData} (h : RowL d L H xs ds) : RowD d H xs ds := ⟨h.1, fun H' c => h.2 H' (.of c)⟩
theorem RowL.mono {d L : Addr} {H H1 : Hp} {xs : List V} {ds : List PyData} (h : RowL d L H xs ds) (c : Chg2 d L H H1) : RowL d L H1 xs ds := ⟨h.1, fun H' c' => h.2 H' (c.trans c')⟩
theorem RowL.snoc {d L : Addr} {H : Hp} {xs : List V} {ds : List PyData} {x : V} {e : PyData} (h : RowL d L H xs ds) (hb : e.bulk ≤ 3) (hd : e.depth ≤ 1) (k : ∀ H', Chg2 d L H H' → Rp H' e x) : RowL d L H (xs ++ [x]) (ds ++ [e]) := by
  refine ⟨fun y hy => ?_, fun H' c => rpAll_append (h.2 H' c) ⟨x, [], rfl, k H' c, rfl⟩⟩
  rcases List.mem_append.mp hy with hy | hy
  · exact h.1 y hy
  · rw [List.mem_singleton.mp hy]
    exact ⟨hb, hd⟩
/-- the parts that are not all -/
theorem noAll (ps : List Part) : (ps.filter fun p => !decide (p = .all)).isEmpty = keepsAll ps := by
  induction ps with
  | nil => rfl
  | cons p ps ih =>
    show _ = (decide (p = .all) && keepsAll ps)
    rw [List.filter_cons]
    by_cases h : p = .all
    · rw [decide_eq_true h, Bool.true_and, ← ih]
      rfl
    · rw [decide_eq_false h, Bool.false_and]
      rfl
theorem places_zero (ps : List Part) : places ps 0 = [] := List.eq_nil_of_length_eq_zero (Nat.le_zero.mp (places_len ps 0))
theorem places_one (ps : List Part) : places ps 1 = [] ∨ places ps 1 = [0] := by
  have hl := places_len ps 1
  have hlt := fun i (h : i ∈ places ps 1) => places_lt h
  generalize places ps 1 = l at hl hlt
  match l, hl, hlt with
  | [], _, _ => exact .inl rfl
  | [i], _, hlt =>
    have := hlt i List.mem_cons_self
    have e : i = 0 := by omega
    subst e
    exact .inr rfl
  | _ :: _ :: _, hl, _ =>
    simp only [List.length_cons] at hl
    omega
end Cut

set_option Elab.async false
set_option linter.all false
set_option maxRecDepth 100000
set_option maxHeartbeats 8000000
namespace K04
open PySem PySem.Spec PyProof.Rows L2 Ly Cut

abbrev s_joined : Stmt := topS 35
abbrev N_joined : List Str := ["_law_one", "_law_other", "e"]
abbrev P_joined : List Str := ["_law_one", "_law_other"]
theorem sc_joined : FnScope N_joined P_joined (defScope s_joined) := ⟨rfl, rfl, rfl, by decide +kernel, rfl, by decide +kernel, by decide +kernel⟩

abbrev s_is : Stmt := topS 36
abbrev N_is : List Str := ["_law_made", "_law_parts_here", "_law_many", "_law_row", "_law_place"]
abbrev P_is : List Str := ["_law_made", "_law_parts_here"]
theorem sc_is : FnScope N_is P_is (defScope s_is) := ⟨rfl, rfl, rfl, by decide +kernel, rfl, by decide +kernel, by decide +kernel⟩

section
variable {P : Program} {w : World} {K : PySem.W.Frag} {mg : Str → Option Value} {base : Heap} {f C CT : Addr} {fd : FuncData}
/-- one >> other, or the limit of the error -/
def spJoined (C : Addr) : Sp := fun vs H Q _ => ∃ (x y : Addr) (ps qs : List Part), vs = [.ref x, .ref y] ∧ CutAt C H x ps ∧ CutAt C H y qs ∧
  ((ps ++ qs).length ≤ 4 → ∀ H' z, Same H H' → H z = none → CutAt C H' z (ps ++ qs) → Q (.ref z) H') ∧ (4 < (ps ++ qs).length → ∀ H', Same H H' → Q (.int 4) H')
theorem ok_joined (Z : Zs mg) (D : Df K mg "_law_joined" s_joined P_joined f fd) (gT : mg "TooMany" = some (.ref CT)) (XT : XfC K CT) (nL : PySem.W.findIn K (.ref CT) "limit" = some none) (eT : PySem.W.exmOne K (.ref CT) (.ref CT) = some true) {g : Addr}
    (oS : PySem.W.findIn K (.ref C) "__rshift__" = some (some (.ref g))) (oF : PySem.W.isFn K (.ref g) = true) (oC : PySem.W.selfFirst K C = true) (F_rshift : FnR P w K mg base (L2.CX P w) 7 g (spShift C CT)) : FnOk P w K mg base CX0 8 f fd P_joined (spJoined C) := by
  refine D.F.ok sc_joined (fun vs H Q E h => ?_) (fun cdv A outer s H vs Q E hr h => ?_)
  · obtain ⟨x, y, ps, qs, rfl, _⟩ := h
    rfl
  · obtain ⟨x, y, ps, qs, rfl, hcx, hcy, qa, qb⟩ := h
    have nd := sc_joined.nd
    refine ⟨_, pss_one (ps_try_as (i := 2) (tb := fun W => tRet (tOpS C (spShift C CT) (WE W) (tVar 0) (tVar 1))) (ts := fun a cls d => tRet (tXf a cls d CT "limit" (tVar 2))) (Wout := fun _ _ _ _ => False) rfl rfl nd rfl rfl ⟨rfl, by decide, Or.inl gT⟩ takes0
      (fun W pn xe tk _ => pss_one (ps_ret (pe_opS oS oF oC F_rshift hr (fun σ => passAt tk σ) (pv 0) (pv 1))))
      (fun a oe cls d pn hz hf => pss_one (ps_ret (pe_xf XT nL hz hf (pv 2))))), ?_⟩
    obtain ⟨dx, _, _, _, hx, _⟩ := hcx.ex
    obtain ⟨dy, _, _, _, hy, _⟩ := hcy.ex
    refine ⟨_, rfl, _, rfl, x, y, dx, dy, _, _, rfl, rfl, hx, hy, x, y, ps, qs, rfl, hcx, hcy, fun hl H' z s nz cz => ⟨⟨z, rfl⟩, qa hl H' z s nz cz⟩, fun hl H' d s hd => ?_⟩
    refine ⟨true, eT, fun _ a _ => ?_, fun q => Bool.noConfusion q⟩
    exact ⟨_, rfl, rfl, rfl, d, _, .int 4, rfl, hd, rfl, qb hl H' s⟩

def spLKept2 (K : PySem.W.Frag) : Sp := fun vs H Q _ => ∃ (a r : Addr) (ps : List Part) (xs : List V), vs = [.ref a, .ref r] ∧ H a = some (.lst (pV ps)) ∧ H r = some (.tup xs) ∧ (∀ p ∈ ps, Ok p) ∧ xs.length ≤ 1000 ∧ ∀ H' q, Same H H' → H' q = some (.tup (run ps xs)) → Q (.ref q) H'
theorem ok_lkept2 (Z : Zs mg) (D : Df K mg "_law_kept" s_kept P_kept f fd) : FnOk P w K mg base CX0 1 f fd P_kept (spLKept2 K) := by
  refine D.F.ok sc_kept (fun vs H Q E h => ?_) (fun cdv A outer s H vs Q E hr h => ?_)
  · obtain ⟨a, r, ps, xs, rfl, _⟩ := h
    rfl
  · obtain ⟨a, r, ps, xs, rfl, ha, hr', hok, hl, q⟩ := h
    have nd := sc_kept.nd
    refine ⟨_,
    (pss_cons
    (ps_set (i := 1) nd rfl (Or.inl rfl) (pe_callTy call_tuple_of (by rfl) Z.z_tuple (by decide +kernel) (pa_cons (pv 1) pa_nil)))
    (pss_cons
    (ps_for PassesOwn.never rfl (pi_list (pv 0)) (pg_name (i := 2) nd rfl (Or.inl rfl))
      (pss_one
      (ps_if (pt_cmpR op_ne (pv 2) pe_str (nomark _))
        (pss_cons
        (ps_asg (pe_split (pv 2) pe_str) (pg_lst rfl (pgs_cons (pg_name (i := 3) nd rfl (Or.inl rfl)) (pgs_cons (pg_name (i := 4) nd rfl (Or.inl rfl)) pgs_nil))))
        (pss_cons
        (ps_par (i := 5) (j := 6) (by rfl) nd rfl rfl (by decide) rfl rfl (pa_cons (pe_callB call_lenT (by rfl) Z.z_len (by decide +kernel) (pa_cons (pv 1) pa_nil)) (pa_cons (pe_lst pa_nil) pa_nil)) (by rfl))
        (pss_cons
        (ps_for PassesOwn.never rfl (pi_range1 (by rfl) Z.z_range (pa_cons (pv 5) pa_nil)) (pg_name (i := 7) nd rfl (Or.inl rfl))
          (pss_cons
          (ps_set (i := 8) nd rfl (Or.inl rfl) (pe_and (pe_cmpR op_lt (pv 7) (pe_callB call_len_str (by rfl) Z.z_len (by decide +kernel) (pa_cons (pv 3) pa_nil)) (nomark _)) (pe_one (pe_cmpR op_eq (pe_ix ix_str (pv 3) (pv 7) (fun _ _ => rfl)) pe_str (nomark _)))))
          (pss_one
          (ps_if (PW.pt (pw_or (pt_val (pv 8)) (pw_or1 (PW.pt (pw_and (pt_cmpR op_le (pe_op op_sub (pv 5) (pv 7)) (pe_callB call_len_str (by rfl) Z.z_len (by decide +kernel) (pa_cons (pv 4) pa_nil)) (nomark _)) (pw_and1 (pt_cmpR op_eq (pe_ix ix_str (pv 4) (pe_op op_add (pe_op op_sub (pe_callB call_len_str (by rfl) Z.z_len (by decide +kernel) (pa_cons (pv 4) pa_nil)) (pv 5)) (pv 7)) (fun _ _ => rfl)) pe_str (nomark _))))))))
            (pss_one
            (ps_expr (pe_bm PySem.F.plainAttrs_list PySem.F.slot_list_append PySem.F.type_list_append mt_append (pv 6) (pa_cons (pe_ix ix_tup (pv 1) (pv 7) (fun _ _ => rfl)) pa_nil))))
            pss_nil))))
        (pss_one
        (ps_set (i := 1) nd rfl (Or.inl rfl) (pe_callTy call_tuple_of (by rfl) Z.z_tuple (by decide +kernel) (pa_cons (pv 6) pa_nil)))))))
        pss_nil)))
    (pss_one
    (ps_ret (pv 1))))), ?_⟩
    refine ⟨_, rfl, r, xs, rfl, .inr ⟨.of hr', ?_⟩⟩
    have s0 := Same.refl H
    refine ⟨_, rfl, a, rfl, ⟨_, .of (s0 _ _ ha)⟩, ?_⟩
    refine for_list (xs := pV ps) (fun i σ' H' => Same H H' ∧ ∃ (t : Addr) (x2 x3 x4 x5 x6 x7 x8 : Option V), σ' = [some (.ref a), some (.ref t), x2, x3, x4, x5, x6, x7, x8] ∧ H' t = some (.tup (run (ps.take i) xs)))
      ⟨s0, r, none, none, none, none, none, none, none, rfl, hr'⟩ (fun i σ' H' _ hP => .of (hP.1 _ _ ha)) (fun i x σ' H1 hx hP => ?_) (fun σ' H1 hP => ?_)
    · obtain ⟨s1, t, x2, x3, x4, x5, x6, x7, x8, rfl, ht⟩ := hP
      obtain ⟨pt, hpt, rfl⟩ := pV_get hx
      have hokp := hok pt (List.mem_of_getElem? hpt)
      generalize hrow : run (ps.take i) xs = row at ht
      have hrl : row.length ≤ xs.length := by
        rw [← hrow]
        exact run_len _ _
      have hnext : run (ps.take (i + 1)) xs = pick pt row := by
        rw [List.take_add_one, hpt, ← hrow]
        exact run_append _ _ _
      refine ⟨_, rfl, rfl, _, rfl, ?_⟩
      cases pt with
      | all =>
        refine ifF (by rw [decide_eq_true (show V.str Part.all.text = V.str "all" from rfl)]; rfl) ?_
        dsimp only [tNext]
        exact ⟨s1, t, _, _, _, _, _, _, _, rfl, by rw [hnext, pick_all]; exact ht⟩
      | pat fr bk =>
        have F := pat_facts hokp
        obtain ⟨hf, hb⟩ := (show fr.length ≤ 2 ∧ bk.length ≤ 3 from hokp)
        refine ifT (by rw [decide_eq_false fun z => F.ne (V.str.inj z)]; rfl) ?_
        refine ⟨_, rfl, ⟨_, rfl⟩, _, _, rfl, rfl, by decide +kernel, sz1000 (by have := F.len; omega), fun l0 nl0 => ?_⟩
        rw [F.spl]
        refine ⟨l0, _, rfl, .of upd_same, rfl, _, _, rfl, _, _, rfl, rfl, ?_⟩
        have s2 := s1.trans (same_new (o := .lst ([sT fr, sT bk].map V.str)) nl0)
        have ht2 := same_new (o := .lst ([sT fr, sT bk].map V.str)) nl0 _ _ ht
        generalize upd H1 l0 _ = H2 at s2 ht2 ⊢
        refine ⟨_, rfl, t, row, rfl, .of ht2, by show 0 ≤ sizeLine; decide, fun D9 nD => ⟨_, _, rfl, ?_⟩⟩
        refine ⟨_, rfl, row.length, rfl, by omega, by omega, ?_⟩
        refine for_range (lo := 0) (n := (row.length : Int).toNat) (fun j σ' H' => Same H2 H' ∧ ∃ (y7 y8 : Option V), σ' = [some (.ref a), some (.ref t), some (.str (Part.pat fr bk).text), some (.str (sT fr)), some (.str (sT bk)), some (.int row.length), some (.ref D9), y7, y8] ∧ H' D9 = some (.lst (((List.range j).filter (kat fr bk row.length)).filterMap fun i => row[i]?)))
          ⟨same_new nD, _, _, rfl, upd_same⟩ (fun j σ' H3 hj hP3 => ?_) (fun σ' H3 hP3 => ?_)
        · obtain ⟨s3, y7, y8, rfl, hd⟩ := hP3
          have hjl : j < row.length := by omega
          have z0 : (0 : Int) + (j : Int) = (j : Int) := Int.zero_add _
          rw [z0]
          refine asgS (fun v H' => v = .bl (hp fr j) ∧ H' = H3) (fun Q' q' => ?_) (fun v H' hv => ?_)
          · refine ⟨_, rfl, _, rfl, sT fr, rfl, by rw [sT_len]; exact sz1000 (by omega), _, _, rfl, rfl, _, rfl, ?_⟩
            rw [sT_len]
            by_cases h1 : (j : Int) < (fr.length : Int)
            · refine ifT (decide_eq_true h1) ⟨_, rfl, _, rfl, sT fr, j, sgn (fr.getD j false), rfl, rfl, by rw [sT_len]; exact sz1000 (by omega), atI_nat (sT_get (by omega)), rfl, ?_⟩
              rw [plusV]
              refine q' _ _ ⟨congrArg V.bl ?_, rfl⟩
              unfold hp
              rw [decide_eq_true h1, decide_eq_true (show (0 : Int) ≤ j by omega), Int.toNat_natCast]
              rfl
            · refine ifF (decide_eq_false h1) (q' _ _ ⟨congrArg V.bl ?_, rfl⟩)
              exact (hp_out (by omega)).symm
          obtain ⟨rfl, rfl⟩ := hv
          have grow : kat fr bk row.length j = true → (((List.range (j + 1)).filter (kat fr bk row.length)).filterMap fun i => row[i]?) = (((List.range j).filter (kat fr bk row.length)).filterMap fun i => row[i]?) ++ [row[j]] := fun hc => by
            have e1 : [j].filter (kat fr bk row.length) = [j] := by rw [List.filter_cons, hc]; rfl
            rw [List.range_succ, List.filter_append, e1, List.filterMap_append, List.filterMap_cons, List.getElem?_eq_getElem hjl]
            rfl
          have stay : kat fr bk row.length j = false → (((List.range (j + 1)).filter (kat fr bk row.length)).filterMap fun i => row[i]?) = (((List.range j).filter (kat fr bk row.length)).filterMap fun i => row[i]?) := fun hc => by
            have e1 : [j].filter (kat fr bk row.length) = [] := by rw [List.filter_cons, hc]; rfl
            rw [List.range_succ, List.filter_append, e1, List.append_nil]
          have small : (((List.range j).filter (kat fr bk row.length)).filterMap fun i => row[i]?).length < sizeLine := by
            refine Nat.lt_of_le_of_lt (List.length_filterMap_le _ _) (Nat.lt_of_le_of_lt (List.length_filter_le _ _) ?_)
            rw [List.length_range]
            exact small1000 (by omega)
          have fin := fun (hc : kat fr bk row.length j = true) => (show _ from ⟨same_set (o := .lst ((((List.range j).filter (kat fr bk row.length)).filterMap fun i => row[i]?) ++ [row[j]])) s3 nD, some (V.int (j : Int)), some (V.bl (hp fr (j : Int))), rfl, by rw [upd_same, grow hc]⟩ : Same H2 (upd H' D9 (.lst ((((List.range j).filter (kat fr bk row.length)).filterMap fun i => row[i]?) ++ [row[j]]))) ∧ ∃ (y7 y8 : Option V), [some (.ref a), some (.ref t), some (.str (Part.pat fr bk).text), some (.str (sT fr)), some (.str (sT bk)), some (.int row.length), some (.ref D9), some (V.int (j : Int)), some (V.bl (hp fr (j : Int)))] = [some (.ref a), some (.ref t), some (.str (Part.pat fr bk).text), some (.str (sT fr)), some (.str (sT bk)), some (.int row.length), some (.ref D9), y7, y8] ∧
            (upd H' D9 (.lst ((((List.range j).filter (kat fr bk row.length)).filterMap fun i => row[i]?) ++ [row[j]]))) D9 = some (.lst (((List.range (j + 1)).filter (kat fr bk row.length)).filterMap fun i => row[i]?)))
          have not_ := fun (hc : kat fr bk row.length j = false) => (show _ from ⟨s3, some (V.int (j : Int)), some (V.bl (hp fr (j : Int))), rfl, by rw [stay hc]; exact hd⟩ : Same H2 H' ∧ ∃ (y7 y8 : Option V), [some (.ref a), some (.ref t), some (.str (Part.pat fr bk).text), some (.str (sT fr)), some (.str (sT bk)), some (.int row.length), some (.ref D9), some (V.int (j : Int)), some (V.bl (hp fr (j : Int)))] = [some (.ref a), some (.ref t), some (.str (Part.pat fr bk).text), some (.str (sT fr)), some (.str (sT bk)), some (.int row.length), some (.ref D9), y7, y8] ∧
            H' D9 = some (.lst (((List.range (j + 1)).filter (kat fr bk row.length)).filterMap fun i => row[i]?)))
          refine ⟨_, rfl, hp fr j, rfl, ?_⟩
          by_cases h1 : hp fr j = true
          · have hc : kat fr bk row.length j = true := by
              unfold kat
              rw [h1, Bool.true_or]
            exact ifT h1 (ifT rfl ⟨_, rfl, .inl ⟨rfl, _, .of hd⟩, _, rfl, _, rfl, t, row, (j : Int), row[j], rfl, rfl, .of (s3 _ _ ht2), atI_nat (List.getElem?_eq_getElem hjl), D9, _, row[j], rfl, rfl, hd, small, fin hc⟩)
          · have h1' := eq_false_of_ne_true h1
            have ec : kat fr bk row.length j = hp bk ((j : Int) - ((row.length : Int) - bk.length)) := by
              unfold kat
              rw [h1', Bool.false_or]
            refine ifF h1' ⟨_, rfl, _, rfl, _, _, rfl, rfl, _, rfl, sT bk, rfl, by rw [sT_len]; exact sz1000 (by omega), _, _, rfl, rfl, _, rfl, ?_⟩
            rw [sT_len]
            by_cases h2 : (row.length : Int) - (j : Int) ≤ (bk.length : Int)
            · refine ifT (decide_eq_true h2) ⟨_, rfl, _, rfl, sT bk, rfl, by rw [sT_len]; exact sz1000 (by omega), _, rfl, _, _, rfl, rfl, _, rfl, _, _, rfl, rfl, sT bk, (bk.length : Int) - row.length + j, sgn (bk.getD ((bk.length : Int) - row.length + j).toNat false), rfl, by rw [sT_len], by rw [sT_len]; exact sz1000 (by omega), ?_, rfl, _, rfl, ?_⟩
              · exact at_nat (by omega) (sT_get (by omega))
              · rw [plusV]
                have eb : hp bk ((j : Int) - ((row.length : Int) - bk.length)) = bk.getD ((bk.length : Int) - row.length + j).toNat false := by
                  unfold hp
                  rw [decide_eq_true (show (0 : Int) ≤ (j : Int) - ((row.length : Int) - bk.length) by omega), decide_eq_true (show (j : Int) - ((row.length : Int) - bk.length) < (bk.length : Int) by omega), show (j : Int) - ((row.length : Int) - bk.length) = (bk.length : Int) - row.length + j by omega]
                  rfl
                rw [← eb, ← ec]
                by_cases hc : kat fr bk row.length j = true
                · exact ifT hc ⟨_, rfl, .inl ⟨rfl, _, .of hd⟩, _, rfl, _, rfl, t, row, (j : Int), row[j], rfl, rfl, .of (s3 _ _ ht2), atI_nat (List.getElem?_eq_getElem hjl), D9, _, row[j], rfl, rfl, hd, small, fin hc⟩
                · exact ifF (eq_false_of_ne_true hc) (not_ (eq_false_of_ne_true hc))
            · refine ifF (decide_eq_false h2) (ifF rfl (not_ ?_))
              rw [ec, hp_neg (by omega)]
        · obtain ⟨s3, y7, y8, rfl, hd⟩ := hP3
          refine ⟨_, rfl, D9, _, rfl, .inl ⟨.of hd, fun t' nt' => ?_⟩⟩
          exact ⟨(s2.trans s3).trans (same_new nt'), t', _, _, _, _, _, _, _, rfl, by rw [upd_same, hnext]; rfl⟩
    · obtain ⟨s1, t, x2, x3, x4, x5, x6, x7, x8, rfl, ht⟩ := hP
      have e1 : ps.take (pV ps).length = ps := List.take_of_length_le (by rw [pV_len]; exact Nat.le_refl _)
      rw [e1] at ht
      exact ⟨_, rfl, q H1 t s1 ht⟩

def spKeptB (K : PySem.W.Frag) : Sp := fun vs H Q E => spLKept K vs H Q E ∨ spLKept2 K vs H Q E
/-- the value ('v', i) of a row -/
def rowD (n : Nat) : List PyData := (List.range n).map fun (i : Nat) => .tuple [.str "v", .int (i : Int)]
def IsRow (H : Hp) (xs : List V) : Prop := ∀ (i : Nat) (x : V), xs[i]? = some x → ∃ t, x = .ref t ∧ H t = some (.tup [.str "v", .int (i : Int)])
theorem IsRow.same {H H' : Hp} {xs : List V} (s : Same H H') (h : IsRow H xs) : IsRow H' xs := fun i x e => by
  obtain ⟨t, e1, e2⟩ := h i x e
  exact ⟨t, e1, s _ _ e2⟩
theorem IsRow.dp {K : PySem.W.Frag} {H : Hp} {xs : List V} (h : IsRow H xs) : DpAll K H xs (rowD xs.length) := by
  refine dpAll_of (fun (i : Nat) => PyData.tuple [.str "v", .int (i : Int)]) (List.range xs.length) xs (List.length_range).symm fun i x hx => ?_
  obtain ⟨hi, e⟩ := List.getElem?_eq_some_iff.mp hx
  rw [List.length_range] at hi
  rw [List.getElem_range] at e
  subst e
  obtain ⟨t, e1, e2⟩ := h i _ (List.getElem?_eq_getElem hi)
  exact ⟨_, List.getElem?_eq_getElem hi, by rw [e1]; exact .tup (.of e2) (.cons (.str _) (.cons (.int _) .nil))⟩
theorem dpAll_get {K : PySem.W.Frag} {H : Hp} {ds : List PyData} {xs : List V} (h : DpAll K H xs ds) : ∀ i : Nat, (∃ d x, ds[i]? = some d ∧ xs[i]? = some x ∧ Dp K H x d) ∨ (ds[i]? = none ∧ xs[i]? = none) := by
  induction ds generalizing xs with
  | nil => cases h; exact fun i => .inr ⟨rfl, rfl⟩
  | cons d ds ih =>
    cases h with
    | cons h1 h2 =>
      intro i
      cases i with
      | zero => exact .inl ⟨_, _, rfl, rfl, h1⟩
      | succ i => exact ih h2 i
theorem dpAll_sel {K : PySem.W.Frag} {H : Hp} {ds : List PyData} {xs : List V} (h : DpAll K H xs ds) : ∀ l : List Nat, DpAll K H (l.filterMap fun i => xs[i]?) (l.filterMap fun i => ds[i]?)
  | [] => .nil
  | i :: l => by
    rw [List.filterMap_cons, List.filterMap_cons]
    rcases dpAll_get h i with ⟨d, x, e1, e2, h1⟩ | ⟨e1, e2⟩
    · rw [e1, e2]
      exact .cons h1 (dpAll_sel h l)
    · rw [e1, e2]
      exact dpAll_sel h l
theorem dpAll_len {K : PySem.W.Frag} {H : Hp} {ds : List PyData} {xs : List V} (h : DpAll K H xs ds) : ds.length = xs.length := by
  induction ds generalizing xs with
  | nil => cases h; rfl
  | cons d ds ih =>
    cases h with
    | cons h1 h2 => rw [List.length_cons, List.length_cons, ih h2]
theorem dpAll_run {K : PySem.W.Frag} {H : Hp} {ds : List PyData} {xs : List V} (ps : List Part) (h : DpAll K H xs ds) : DpAll K H (run ps xs) (run ps ds) := by
  rw [run_get, run_get, dpAll_len h]
  exact dpAll_sel h _
theorem eqv_self : ∀ ds : List PyData, (∀ d ∈ ds, PyData.eqv d d = true) → PyData.eqvAll ds ds = true
  | [], _ => rfl
  | d :: ds, h => by
    show (PyData.eqv d d && PyData.eqvAll ds ds) = true
    rw [h d List.mem_cons_self, eqv_self ds fun x hx => h x (List.mem_cons_of_mem _ hx)]
    rfl
theorem rowD_mem {n : Nat} {d : PyData} (h : d ∈ rowD n) : ∃ i : Nat, d = .tuple [.str "v", .int (i : Int)] := by
  obtain ⟨i, _, e⟩ := List.mem_map.mp h
  exact ⟨i, e.symm⟩
theorem eqv_row (ps : List Part) (n : Nat) : PyData.eqv (.tuple (run ps (rowD n))) (.tuple (run ps (rowD n))) = true := by
  refine eqv_self _ fun d hd => ?_
  obtain ⟨i, rfl⟩ := rowD_mem (run_sub ps _ d hd)
  show (PyData.eqv (.str "v") (.str "v") && (((i : Int) == (i : Int)) && true)) = true
  rw [beq_self_eq_true]
  decide +kernel
theorem shp_rows : ∀ ds : List PyData, (∀ d ∈ ds, ∃ i : Nat, d = .tuple [.str "v", .int (i : Int)]) → PyData.canLayAll0 ds = true ∧ PyData.depthAll ds ≤ 1
  | [], _ => ⟨rfl, Nat.zero_le _⟩
  | d :: ds, h => by
    obtain ⟨h1, h2⟩ := shp_rows ds fun x hx => h x (List.mem_cons_of_mem _ hx)
    obtain ⟨i, rfl⟩ := h d List.mem_cons_self
    refine ⟨?_, ?_⟩
    · have e : PyData.canLayAll0 [.str "v", .int (i : Int)] = PyData.canLayAll0 [.str "v", .int 0] := rfl
      show (PyData.canLayAll0 [.str "v", .int (i : Int)] && PyData.canLayAll0 ds) = true
      rw [h1, e]
      decide +kernel
    · show max (max 0 (max 0 0) + 1) (PyData.depthAll ds) ≤ 1
      omega
theorem shp_row (ps : List Part) (n : Nat) : SeqAt.shaped (.tuple (run ps (rowD n))) = true := by
  obtain ⟨h1, h2⟩ := shp_rows (run ps (rowD n)) fun d hd => rowD_mem (run_sub ps _ d hd)
  show (PyData.canLayAll0 (run ps (rowD n)) && decide (PyData.depthAll (run ps (rowD n)) + 1 ≤ 64)) = true
  rw [h1]
  show decide _ = true
  exact decide_eq_true (by omega)
theorem shp_tupP {ps : List Part} (h : ∀ p ∈ ps, Ok p) : SeqAt.shaped (.tuple (dP ps)) = true := by
  show (PyData.canLayAll0 (dP ps) && decide (PyData.depthAll (dP ps) + 1 ≤ 64)) = true
  rw [canLay_dP ps h, depth_dP]
  rfl
theorem eqv_dP (ps : List Part) : PyData.eqv (.tuple (dP ps)) (.tuple (dP ps)) = true := by
  refine eqv_self _ fun d hd => ?_
  obtain ⟨p, _, rfl⟩ := List.mem_map.mp hd
  show (p.text == p.text) = true
  exact beq_self_eq_true _
def spIs (C : Addr) : Sp := fun vs H Q _ => ∃ (x a : Addr) (ps : List Part), vs = [.ref x, .ref a] ∧ CutAt C H x ps ∧ H a = some (.lst (pV ps)) ∧ ∀ H', Same H H' → Q (.bl true) H'

theorem ok_is (Z : Zs mg) (D : Df K mg "_law_is" s_is P_is f fd) (c : CK K C) {f2 f3 f5 f6 f7 p3 : Addr} {d2 d3 d6 : FuncData} (D_kept : Cl P w K mg base "_law_kept" 1 f2 d2 P_kept (spKeptB K)) (pr_parts : PropOf K C "parts" p3 f3) (M_parts : Cm P w K mg base 1 f3 d3 P_parts (spParts C))
    (cO : StX.CallO K C f5) (F_call : FnR P w K mg base CX0 4 f5 (spCutCall C)) (me_places : Meth K C "places" f6) (M_places : Cm P w K mg base 3 f6 d6 P_places (spCutPlaces C)) (sp_len : Sp1 K C f7 "__len__") (F_len : FnR P w K mg base CX0 1 f7 (spCutLen C)) : FnOk P w K mg base CX0 5 f fd P_is (spIs C) := by
  refine D.F.ok sc_is (fun vs H Q E h => ?_) (fun cdv A outer s H vs Q E hr h => ?_)
  · obtain ⟨x, a, ps, rfl, _⟩ := h
    rfl
  · obtain ⟨x, a, ps, rfl, hc, ha, q⟩ := h
    have nd := sc_is.nd
    have hu : (A.deeper (envOfC "_law_is" (defScope s_is) s.heap.objs.size f cdv)).units + 64 < cLine := by
      have := hr.un
      omega
    refine ⟨_,
    (pss_cons
    (ps_if (PW.pt (pw_or (pt_cmpR (op_neD hu) (pe_prop (pv 0) c.cls pr_parts M_parts.ok (hr.mono (by decide)) M_parts.b .nil pass0 rfl) (pe_callTy call_tuple_of (by rfl) Z.z_tuple (by decide +kernel) (pa_cons (pv 1) pa_nil)) (nomark _)) (pw_or1 (pt_cmpR op_ne (pe_callB (call_lenO sp_len F_len (hr.mono (by decide)) pass0) (by rfl) Z.z_len (by decide +kernel) (pa_cons (pv 0) pa_nil)) (pe_callB call_lenL (by rfl) Z.z_len (by decide +kernel) (pa_cons (pv 1) pa_nil)) (nomark _)))))
      (pss_one
      (ps_ret pe_bl))
      pss_nil)
    (pss_cons
    (ps_for PassesOwn.never rfl (pi_range1 (by rfl) Z.z_range (pa_cons pe_int pa_nil)) (pg_name (i := 2) nd rfl (Or.inl rfl))
      (pss_cons
      (ps_set (i := 3) nd rfl (Or.inl rfl) (pe_callTy call_tuple_of (by rfl) Z.z_tuple (by decide +kernel) (pa_cons (pe_lc (own := [("_law_place", 4)]) (g := gName 4) (tt := tYes) rfl nd (pi_range1 (by rfl) Z.z_range (pa_cons (pv 2) pa_nil)) (blkOk_by (N := N_is) (sc := defScope s_is) (by decide +kernel)) (fun _ _ _ _ _ => (pg_name (i := 4) nd rfl (Or.inl rfl))) (fun _ _ _ _ _ => pts_nil) (fun _ _ _ _ _ => (pe_tup (pa_cons pe_str (pa_cons (pv 4) pa_nil))))) pa_nil)))
      (pss_one
      (ps_if (PW.pt (pw_or (pt_cmpR (op_neD hu) (StX.pe_callO (pv 0) cO F_call (hr.mono (by decide)) pass0 (pa_cons (pv 3) pa_nil)) (pe_call D_kept.ok (hr.mono (by decide)) (by rfl) D_kept.g D_kept.kp D_kept.b .nil pass0 (pa_cons (pv 1) (pa_cons (pv 3) pa_nil))) (nomark _)) (pw_or1 (pt_cmpR (op_neD hu) (pe_meth (pv 0) c.cls me_places M_places.ok (hr.mono (by decide)) M_places.b .nil pass0 (pa_cons (pv 2) pa_nil)) (pe_call D_kept.ok (hr.mono (by decide)) (by rfl) D_kept.g D_kept.kp D_kept.b .nil pass0 (pa_cons (pv 1) (pa_cons (pe_listRg rfl (by rfl) Z.z_list (prg_1 (by rfl) Z.z_range (pv 2))) pa_nil))) (nomark _)))))
        (pss_one
        (ps_ret pe_bl))
        pss_nil))))
    (pss_one
    (ps_ret pe_bl)))), ?_⟩
    obtain ⟨dx, p, tb, ts, hx, hp, ht, hlen, hts⟩ := id hc.ex
    have hok := hc.ok
    refine ⟨_, rfl, x, dx, _, rfl, hx, x, ps, rfl, hc, fun p' hp' => ?_⟩
    refine ⟨_, rfl, a, _, rfl, .inl ⟨.of ha, fun t0 n0 => ?_⟩⟩
    have s0 := same_new (o := .tup (pV ps)) n0
    refine ⟨.tuple (dP ps), .tuple (dP ps), .tup (.of (s0 _ _ hp')) (dpAll_pV ps), .tup (.of upd_same) (dpAll_pV ps), shp_tupP hok, shp_tupP hok, _, rfl, ifF ?_ ?_⟩
    · rw [eqv_dP]
      rfl
    refine ⟨_, rfl, x, dx, _, rfl, s0 _ _ hx, x, ps, rfl, hc.same s0, ps.length, rfl, Nat.lt_of_le_of_lt hc.le (by decide), ?_⟩
    refine ⟨_, rfl, a, _, rfl, .of (s0 _ _ ha), rfl, _, rfl, ifF ?_ ?_⟩
    · rw [pV_len, decide_eq_true rfl]
      rfl
    dsimp only [tNext]
    have ha0 := s0 _ _ ha
    have hc0 := hc.same s0
    generalize upd H t0 (.tup (pV ps)) = H0 at s0 ha0 hc0 ⊢
    refine ⟨10, rfl, by decide, by decide, ?_⟩
    refine for_range (lo := 0) (n := 10) (fun i σ' H' => Same H0 H' ∧ ∃ a2 a3, σ' = [some (.ref x), some (.ref a), a2, a3, none]) ⟨Same.refl H0, none, none, rfl⟩ (fun i σ' H1 hi hP => ?_) (fun σ' H1 hP => ?_)
    · obtain ⟨s1, a2, a3, rfl⟩ := hP
      rw [show (0 : Int) + (i : Int) = (i : Int) from Int.zero_add _]
      refine asgS (fun v H2 => ∃ r xs, v = .ref r ∧ Same H1 H2 ∧ H2 r = some (.tup xs) ∧ xs.length = i ∧ IsRow H2 xs) (fun Q' q' => ?_) (fun v H2 hv => ?_)
      · refine ⟨_, rfl, i, rfl, by omega, by omega, fun L nL => ?_⟩
        refine lc_range (lo := 0) (n := (i : Int).toNat) (fun j H2 => Same H1 H2 ∧ ∃ xs, H2 L = some (.lst xs) ∧ xs.length = j ∧ IsRow H2 xs) ⟨same_new nL, [], upd_same, rfl, fun i x e => by cases e⟩ (fun j H2 hj hP2 => ?_) (fun H2 hP2 => ?_)
        · obtain ⟨s2, xs, hL, hlx, hrow⟩ := hP2
          rw [show (0 : Int) + (j : Int) = (j : Int) from Int.zero_add _]
          refine ⟨rfl, _, rfl, by show 2 ≤ sizeLine; decide, fun t nt => ⟨xs, same_new nt _ _ hL, by rw [hlx]; exact small1000 (by omega), same_set (s2.trans (same_new nt)) nL, xs ++ [.ref t], upd_same, by rw [List.length_append, hlx]; rfl, fun k y e => ?_⟩⟩
          have htL : t ≠ L := fun z => by rw [z, hL] at nt; cases nt
          rcases Nat.lt_or_ge k xs.length with hk | hk
          · rw [List.getElem?_append_left hk] at e
            obtain ⟨t', rfl, e2⟩ := hrow k y e
            refine ⟨t', rfl, ?_⟩
            have n1 : t' ≠ L := fun z => by rw [z, hL] at e2; cases e2
            rw [upd_ne n1]
            exact same_new nt _ _ e2
          · rw [List.getElem?_append_right hk] at e
            have e0 : k - xs.length = 0 := by
              have := (List.getElem?_eq_some_iff.mp e).1
              simp only [List.length_cons, List.length_nil] at this
              omega
            rw [e0] at e
            cases e
            refine ⟨t, rfl, ?_⟩
            rw [upd_ne htL, upd_same, show k = j by omega]
        · obtain ⟨s2, xs, hL, hlx, hrow⟩ := hP2
          exact ⟨L, xs, rfl, .inl ⟨.of hL, fun r nr => q' _ _ ⟨r, xs, rfl, s2.trans (same_new nr), upd_same, by omega, hrow.same (same_new nr)⟩⟩⟩
      obtain ⟨r, xs, rfl, s2, hr2, hlx, hrow⟩ := hv
      have s12 := s1.trans s2
      have hc2 := hc0.same s12
      have ha2 := s12 _ _ ha0
      obtain ⟨dx2, _, _, _, hx2, _⟩ := id hc2.ex
      have row : run ps (rowD xs.length) = run ps (rowD i) := by rw [hlx]
      refine ⟨_, rfl, x, rfl, _, rfl, .inr ⟨dx2, _, hx2⟩, x, r, ps, xs, rfl, hc2, hr2, by omega, fun H3 r3 s3 nr3 hr3 => ?_⟩
      refine ⟨_, rfl, _, rfl, .inr ⟨a, r, ps, xs, rfl, s3 _ _ ha2, s3 _ _ hr2, hok, by omega, fun H4 r4 s4 hr4 => ?_⟩⟩
      have hrow4 := hrow.same (s3.trans s4)
      refine ⟨.tuple (run ps (rowD xs.length)), .tuple (run ps (rowD xs.length)), .tup (.of (s4 _ _ hr3)) (dpAll_run ps hrow4.dp), .tup (.of hr4) (dpAll_run ps hrow4.dp), shp_row _ _, shp_row _ _, _, rfl, ifF (by rw [eqv_row]; rfl) ?_⟩
      have s34 := s3.trans s4
      have hc4 := hc2.same s34
      have ha4 := s34 _ _ ha2
      obtain ⟨dx4, _, _, _, hx4, _⟩ := id hc4.ex
      refine ⟨_, rfl, x, dx4, _, rfl, hx4, rfl, _, rfl, x, ps, i, rfl, hc4, by omega, fun H5 r5 s5 hr5 => ?_⟩
      refine ⟨_, rfl, _, rfl, i, rfl, .of_le (by decide) (by omega) (by decide) (by omega), fun l6 nl6 => ?_⟩
      have s6 := same_new (o := .lst (rgV 0 (i : Int))) nl6
      refine .inl ⟨a, l6, ps, iV (List.range i), rfl, s6 _ _ (s5 _ _ ha4), by rw [← rgV_iV]; exact upd_same, hok, by rw [iV_len, List.length_range]; omega, fun H7 r7 s7 nr7 hr7 => ?_⟩
      have er : run ps (iV (List.range i)) = iV (Cut.places ps i) := run_map _ _ _
      rw [er] at hr7
      refine ⟨dI (Cut.places ps i), dI (Cut.places ps i), dp_iV (s7 _ _ (s6 _ _ hr5)), dp_iV hr7, shp_dI _, shp_dI _, _, rfl, ifF (by rw [eqv_dI, decide_eq_true rfl]; rfl) ?_⟩
      exact ⟨(s12.trans s34).trans ((s5.trans s6).trans s7), _, _, rfl⟩
    · obtain ⟨s1, a2, a3, rfl⟩ := hP
      exact q _ (s0.trans s1)

end
end K04
set_option Elab.async false
set_option linter.all false
set_option maxRecDepth 100000
set_option maxHeartbeats 8000000
namespace K04
open PySem PySem.Spec PyProof.Rows L2 Ly Cut

abbrev s_pair : Stmt := topS 37
abbrev N_pair : List Str := ["_law_one", "_law_other", "_law_first", "_law_last", "_law_found", "_law_many", "_law_row", "_law_is_whole", "_law_part_here"]
abbrev P_pair : List Str := ["_law_one", "_law_other", "_law_first", "_law_last"]
theorem sc_pair : FnScope N_pair P_pair (defScope s_pair) := ⟨rfl, rfl, rfl, by decide +kernel, rfl, by decide +kernel, by decide +kernel⟩

section
variable {P : Program} {w : World} {K : PySem.W.Frag} {mg : Str → Option Value} {base : Heap} {f C CT : Addr} {fd : FuncData}
theorem pick_sub {α : Type} (p : Part) (xs : List α) : (pick p xs).Sublist xs := by
  have h : (sel p xs.length).Sublist (List.range xs.length) := by
    cases p with
    | all => exact List.Sublist.refl _
    | pat f b => exact List.filter_sublist
  have h2 := h.filterMap fun i => xs[i]?
  rw [get_range] at h2
  exact h2
theorem run_subl {α : Type} : ∀ (ps : List Part) (xs : List α), (run ps xs).Sublist xs
  | [], xs => List.Sublist.refl _
  | p :: ps, xs => (run_subl ps (pick p xs)).trans (pick_sub p xs)
theorem within_app (ps qs : List Part) : withinB (ps ++ qs) ps = true := by
  refine List.all_eq_true.mpr fun n _ => List.all_eq_true.mpr fun k hk => decide_eq_true ?_
  have e : Cut.places (ps ++ qs) n = run qs (Cut.places ps n) := run_append _ _ _
  rw [e] at hk
  exact (run_subl qs _).subset hk
theorem keeps_app (ps qs : List Part) : keepsAll (ps ++ qs) = (keepsAll ps && keepsAll qs) := by
  unfold keepsAll
  exact List.all_append
theorem pV_app (ps qs : List Part) : pV ps ++ pV qs = pV (ps ++ qs) := List.map_append.symm
theorem efs : ∀ l : List Part, (∀ p ∈ l, Ok p) → (pV l).filterMap (fun v => if v = V.str "all" then none else some v) = pV (l.filter fun p => !decide (p = .all)) := by
  intro l
  induction l with
  | nil => intro _; rfl
  | cons pt l ih =>
    intro h
    have ih := ih fun p hp => h p (List.mem_cons_of_mem _ hp)
    have et := text_all (h pt List.mem_cons_self)
    rw [List.filter_cons]
    show (V.str pt.text :: pV l).filterMap _ = _
    rw [List.filterMap_cons]
    by_cases e : pt = .all
    · subst e
      rw [if_pos (show V.str Part.all.text = V.str "all" from rfl), decide_eq_true rfl]
      exact ih
    · have en : ¬ V.str pt.text = V.str "all" := fun z => by
        rw [V.str.inj z, decide_eq_true rfl, decide_eq_false e] at et
        cases et
      rw [if_neg en, decide_eq_false e]
      show V.str pt.text :: _ = V.str pt.text :: _
      rw [ih]
      rfl
def spPair (C : Addr) : Sp := fun vs H Q _ => ∃ (a b x y : Addr) (ps qs : List Part), vs = [.ref a, .ref b, .ref x, .ref y] ∧ H a = some (.lst (pV ps)) ∧ H b = some (.lst (pV qs)) ∧ CutAt C H x ps ∧ CutAt C H y qs ∧ ∀ H', Same H H' → Q (.bl true) H'
theorem ok_pair (Z : Zs mg) (D : Df K mg "_law_pair_right" s_pair P_pair f fd) (c : CK K C) (hC : mg "Cutter" = some (.ref C)) {f1 f2 f4 f5 fb p4 : Addr} {d1 d2 d4 db : FuncData} (D_joined : Cl P w K mg base "_law_joined" 8 f1 d1 P_joined (spJoined C)) (D_is : Cl P w K mg base "_law_is" 5 f2 d2 P_is (spIs C))
    (pr_keeps_all : PropOf K C "keeps_all" p4 f4) (M_keeps_all : Cm P w K mg base 1 f4 d4 P_keeps_all (spKeeps C)) (cO : StX.CallO K C f5) (F_call : FnR P w K mg base CX0 4 f5 (spCutCall C)) (me_within : Meth K C "is_within" fb) (M_within : Cm P w K mg base 2 fb db P_within (spWithin C)) : FnOk P w K mg base CX0 9 f fd P_pair (spPair C) := by
  refine D.F.ok sc_pair (fun vs H Q E h => ?_) (fun cdv A outer s H vs Q E hr h => ?_)
  · obtain ⟨a, b, x, y, ps, qs, rfl, _⟩ := h
    rfl
  · obtain ⟨a, b, x, y, ps, qs, rfl, ha, hb, hcx, hcy, q⟩ := h
    have nd := sc_pair.nd
    have hu : (A.deeper (envOfC "_law_pair_right" (defScope s_pair) s.heap.objs.size f cdv)).units + 64 < cLine := by
      have := hr.un
      omega
    refine ⟨_,
    (pss_cons
    (ps_set (i := 4) nd rfl (Or.inl rfl) (pe_call D_joined.ok (hr.mono (by decide)) (by rfl) D_joined.g D_joined.kp D_joined.b .nil pass0 (pa_cons (pv 2) (pa_cons (pv 3) pa_nil))))
    (pss_cons
    (ps_if (pt_cmpR op_gt (pe_op op_add (pe_callB call_lenL (by rfl) Z.z_len (by decide +kernel) (pa_cons (pv 0) pa_nil)) (pe_callB call_lenL (by rfl) Z.z_len (by decide +kernel) (pa_cons (pv 1) pa_nil))) pe_int (nomark _))
      (pss_one
      (ps_ret (pe_and (pe_cmpR op_eq (pv 4) pe_int (nomark _)) (pe_and (pe_call D_is.ok (hr.mono (by decide)) (by rfl) D_is.g D_is.kp D_is.b .nil pass0 (pa_cons (pv 2) (pa_cons (pv 0) pa_nil))) (pe_one (pe_call D_is.ok (hr.mono (by decide)) (by rfl) D_is.g D_is.kp D_is.b .nil pass0 (pa_cons (pv 3) (pa_cons (pv 1) pa_nil))))))))
      pss_nil)
    (pss_cons
    (ps_if (PW.pt (pw_or (pt_not (pt_val (pe_callB call_isi (by rfl) Z.z_isinstance (by decide +kernel) (pa_cons (pv 4) (pa_cons (pe_glob (v := .ref C) rfl hC rfl) pa_nil))))) (pw_or (pt_not (pt_val (pe_call D_is.ok (hr.mono (by decide)) (by rfl) D_is.g D_is.kp D_is.b .nil pass0 (pa_cons (pv 4) (pa_cons (pe_op op_cat (pv 0) (pv 1)) pa_nil))))) (pw_or1 (pt_cmpR op_notBl (pe_meth (pv 4) c.cls me_within M_within.ok (hr.mono (by decide)) M_within.b .nil pass0 (pa_cons (pv 2) pa_nil)) pe_bl (nomark _))))))
      (pss_one
      (ps_ret pe_bl))
      pss_nil)
    (pss_cons
    (ps_for PassesOwn.never rfl (pi_tup (pe_tup (pa_cons pe_int (pa_cons pe_int (pa_cons pe_int (pa_cons pe_int (pa_cons pe_int pa_nil))))))) (pg_name (i := 5) nd rfl (Or.inl rfl))
      (pss_cons
      (ps_set (i := 6) nd rfl (Or.inl rfl) (pe_tupRg rfl (by rfl) Z.z_tuple (prg_1 (by rfl) Z.z_range (pv 5))))
      (pss_one
      (ps_if (pt_cmpR (op_neD hu) (StX.pe_callO (pv 4) cO F_call (hr.mono (by decide)) pass0 (pa_cons (pv 6) pa_nil)) (StX.pe_callO (pv 3) cO F_call (hr.mono (by decide)) pass0 (pa_cons (StX.pe_callO (pv 2) cO F_call (hr.mono (by decide)) pass0 (pa_cons (pv 6) pa_nil)) pa_nil)) (nomark _))
        (pss_one
        (ps_ret pe_bl))
        pss_nil))))
    (pss_cons
    (ps_set (i := 7) nd rfl (Or.inl rfl) (pe_cmpR (op_eqD hu) (pe_lc (own := [("_law_part_here", 8)]) (g := gName 8) rfl nd (pi_list (pe_op op_cat (pv 0) (pv 1))) (blkOk_by (N := N_pair) (sc := defScope s_pair) (by decide +kernel)) (fun _ _ _ _ _ => (pg_name (i := 8) nd rfl (Or.inl rfl))) (fun _ _ _ _ _ => (pts_one (pt_cmpR op_ne (pv 8) pe_str (nomark _)))) (fun _ _ _ _ _ => (pv 8))) (pe_lst pa_nil) (nomark _)))
    (pss_one
    (ps_ret (pe_cmpR op_eq (pe_callB call_reprB (by rfl) Z.z_repr (by decide +kernel) (pa_cons (pe_prop (pv 4) c.cls pr_keeps_all M_keeps_all.ok (hr.mono (by decide)) M_keeps_all.b .nil pass0 rfl) pa_nil)) (pe_callB call_reprB (by rfl) Z.z_repr (by decide +kernel) (pa_cons (pv 7) pa_nil)) (nomark _))))))))), ?_⟩
    have el : (ps ++ qs).length = ps.length + qs.length := List.length_append
    have l1 := hcx.le
    have l2 := hcy.le
    by_cases hl : (ps ++ qs).length ≤ 4
    · refine asgS (fun v H1 => ∃ z, v = .ref z ∧ Same H H1 ∧ CutAt C H1 z (ps ++ qs)) (fun Q' q' => ?_) (fun v H1 hv => ?_)
      · exact ⟨_, rfl, _, rfl, x, y, ps, qs, rfl, hcx, hcy, fun _ H' z s nz cz => q' _ _ ⟨z, rfl, s, cz⟩, fun h => absurd hl (by omega)⟩
      obtain ⟨z, rfl, s1, hz⟩ := hv
      have hcx := hcx.same s1
      have hcy := hcy.same s1
      have ha := s1 _ _ ha
      have hb := s1 _ _ hb
      obtain ⟨dz, _, _, _, hdz, _⟩ := id hz.ex
      refine ⟨_, rfl, a, _, rfl, .of ha, _, rfl, b, _, rfl, .of hb, _, _, rfl, rfl, _, _, rfl, rfl, _, rfl, ifF (decide_eq_false (by rw [pV_len, pV_len]; omega)) ?_⟩
      dsimp only [tNext]
      refine ⟨_, rfl, .ref z, .ref C, _, _, true, rfl, .own C, c.ty hdz, c.kit, true, rfl, ifF rfl ?_⟩
      refine ⟨_, rfl, _, rfl, _, rfl, a, b, _, _, rfl, rfl, ha, hb, by rw [pV_len, pV_len]; exact sz1000 (by omega), fun l nl => ?_⟩
      have s2 := same_new (o := .lst (pV ps ++ pV qs)) nl
      refine ⟨z, l, ps ++ qs, rfl, hz.same s2, by rw [upd_same, pV_app], fun H2 s3 => ⟨true, rfl, ifF rfl ?_⟩⟩
      have s12 := s2.trans s3
      have hz2 := hz.same s12
      refine ⟨_, rfl, z, dz, _, rfl, s12 _ _ hdz, rfl, _, rfl, z, x, ps ++ qs, ps, rfl, hz2, hcx.same s12, fun H3 s4 => ⟨_, _, rfl, rfl, _, rfl, ifF (by rw [within_app]; rfl) ?_⟩⟩
      dsimp only [tNext]
      have s03 := s12.trans s4
      refine ⟨by show 5 ≤ sizeLine; decide, fun T nT => ⟨T, rfl, ⟨_, .of upd_same⟩, ?_⟩⟩
      have s5 := s03.trans (same_new (o := .tup [V.int 0, .int 3, .int 5, .int 6, .int 9]) nT)
      have hT : (upd H3 T (.tup [V.int 0, .int 3, .int 5, .int 6, .int 9])) T = some _ := upd_same
      generalize upd H3 T (.tup [V.int 0, .int 3, .int 5, .int 6, .int 9]) = H4 at s5 hT ⊢
      refine for_tup (xs := [V.int 0, .int 3, .int 5, .int 6, .int 9]) (fun i σ' H' => Same H4 H' ∧ ∃ a5 a6, σ' = [some (.ref a), some (.ref b), some (.ref x), some (.ref y), some (.ref z), a5, a6, none, none]) ⟨Same.refl _, none, none, rfl⟩ (fun i σ' H' _ hP => .of (hP.1 _ _ hT)) (fun i v σ' H5 hv hP => ?_) (fun σ' H5 hP => ?_)
      · obtain ⟨s6, a5, a6, rfl⟩ := hP
        obtain ⟨n, rfl, hn⟩ : ∃ n : Nat, v = .int (n : Int) ∧ n ≤ 9 := by
          have m := List.mem_of_getElem? hv
          simp only [List.mem_cons, List.not_mem_nil, or_false] at m
          rcases m with e | e | e | e | e
          · exact ⟨0, e, by decide⟩
          · exact ⟨3, e, by decide⟩
          · exact ⟨5, e, by decide⟩
          · exact ⟨6, e, by decide⟩
          · exact ⟨9, e, by decide⟩
        refine asgS (fun v H6 => ∃ r, v = .ref r ∧ Same H5 H6 ∧ H6 r = some (.tup (iV (List.range n)))) (fun Q' q' => ?_) (fun v H6 hv => ?_)
        · refine ⟨_, rfl, n, rfl, .of_le (by decide) (by omega) (by decide) (by omega), fun p2 np2 => ?_⟩
          rw [rgV_iV]
          exact q' _ _ ⟨p2, rfl, same_new np2, upd_same⟩
        obtain ⟨r, rfl, s7, hr6⟩ := hv
        have s57 := (s5.trans s6).trans s7
        have cz := hz.same s57
        have cx := hcx.same s57
        have cy := hcy.same s57
        obtain ⟨_, _, _, _, gz, _⟩ := id cz.ex
        have ln : (iV (List.range n)).length ≤ 1000 := by rw [iV_len, List.length_range]; omega
        refine ⟨_, rfl, z, rfl, _, rfl, .inr ⟨_, _, gz⟩, z, r, ps ++ qs, iV (List.range n), rfl, cz, hr6, ln, fun H7 r7 s8 nr7 hr7 => ?_⟩
        have cx7 := cx.same s8
        obtain ⟨_, _, _, _, gx, _⟩ := id cx7.ex
        refine ⟨_, rfl, y, rfl, _, rfl, x, rfl, _, rfl, .inr ⟨_, _, gx⟩, x, r, ps, iV (List.range n), rfl, cx7, s8 _ _ hr6, ln, fun H8 r8 s9 nr8 hr8 => ?_⟩
        have cy8 := (cy.same s8).same s9
        obtain ⟨_, _, _, _, gy, _⟩ := id cy8.ex
        refine ⟨.inr ⟨_, _, gy⟩, y, r8, qs, run ps (iV (List.range n)), rfl, cy8, hr8, Nat.le_trans (run_len _ _) ln, fun H9 r9 s10 nr9 hr9 => ?_⟩
        have er : run (ps ++ qs) (iV (List.range n)) = iV (Cut.places (ps ++ qs) n) := run_map _ _ _
        rw [← run_append, er] at hr9
        rw [er] at hr7
        refine ⟨dI (Cut.places (ps ++ qs) n), dI (Cut.places (ps ++ qs) n), dp_iV (s10 _ _ (s9 _ _ hr7)), dp_iV hr9, shp_dI _, shp_dI _, _, rfl, ifF (by rw [eqv_dI, decide_eq_true rfl]; rfl) ?_⟩
        exact ⟨((s6.trans s7).trans s8).trans (s9.trans s10), _, _, rfl⟩
      · obtain ⟨s6, a5, a6, rfl⟩ := hP
        have s56 := s5.trans s6
        have ok2 : ∀ p ∈ ps ++ qs, Ok p := hz.ok
        have ha5 := s56 _ _ ha
        have hb5 := s56 _ _ hb
        dsimp only
        refine asgS (fun v H6 => v = .bl (keepsAll (ps ++ qs)) ∧ Same H5 H6) (fun Q' q' => ?_) (fun v H6 hv => ?_)
        · refine ⟨_, rfl, _, rfl, a, b, _, _, rfl, rfl, ha5, hb5, by rw [pV_len, pV_len]; exact sz1000 (by omega), fun l0 nl0 => ⟨l0, rfl, ⟨_, .of upd_same⟩, fun D9 nD => ?_⟩⟩
          rw [pV_app] at nD ⊢
          have t1 := same_new (o := .lst (pV (ps ++ qs))) nl0
          refine lc_mapL (pV (ps ++ qs)) (fun v => if v = V.str "all" then none else some v) (.of upd_same) nD (by rw [pV_len]; exact sz1000 (by omega)) (fun i v H1 Q1 N hv s1 ky kn => ?_) (fun H1 s1 hd => ?_)
          · obtain ⟨pt, _, rfl⟩ := pV_get hv
            refine ⟨rfl, _, rfl, rfl, _, rfl, ?_⟩
            by_cases e : V.str pt.text = V.str "all"
            · refine ifF (by rw [decide_eq_true e]; rfl) (kn ?_ H1 (Same.refl H1))
              rw [if_pos e]
            · refine ifT (by rw [decide_eq_false e]; rfl) ⟨_, rfl, ky _ H1 ?_ (Same.refl H1)⟩
              rw [if_neg e]
          · rw [efs (ps ++ qs) ok2] at hd
            refine ⟨by show 0 ≤ sizeLine; decide, fun l nl => ?_⟩
            have t2 := same_new (o := .lst []) nl
            refine ⟨.list (dP ((ps ++ qs).filter fun p => !decide (p = .all))), .list [], .lst (.of (t2 _ _ hd)) (dpAll_pV _), .lst (.of upd_same) .nil, shp_list (canLay_dP _ fun p hp => ok2 p (List.mem_filter.mp hp).1) (depth_dP _), by decide +kernel, ?_⟩
            rw [eqv_empty]
            have e1 : (dP ((ps ++ qs).filter fun p => !decide (p = .all))).isEmpty = keepsAll (ps ++ qs) := by
              rw [← noAll (ps ++ qs)]
              unfold dP
              exact List.isEmpty_map
            rw [e1]
            exact q' _ _ ⟨rfl, (t1.trans s1).trans t2⟩
        obtain ⟨rfl, s7⟩ := hv
        have s57 := s56.trans s7
        have cz := hz.same s57
        obtain ⟨_, _, _, _, gz, _⟩ := id cz.ex
        refine ⟨_, rfl, z, _, _, rfl, gz, z, ps ++ qs, rfl, cz, fun H8 s8 => ⟨_, rfl, _, rfl, _, rfl, rfl, ?_⟩⟩
        rw [decide_eq_true rfl]
        exact q _ (s1.trans (s57.trans s8))
    · refine asgS (fun v H1 => v = .int 4 ∧ Same H H1) (fun Q' q' => ?_) (fun v H1 hv => ?_)
      · exact ⟨_, rfl, _, rfl, x, y, ps, qs, rfl, hcx, hcy, fun h => absurd h hl, fun _ H' s => q' _ _ ⟨rfl, s⟩⟩
      obtain ⟨rfl, s1⟩ := hv
      have hcx := hcx.same s1
      have hcy := hcy.same s1
      have ha := s1 _ _ ha
      have hb := s1 _ _ hb
      refine ⟨_, rfl, a, _, rfl, .of ha, _, rfl, b, _, rfl, .of hb, _, _, rfl, rfl, _, _, rfl, rfl, _, rfl, ifT (decide_eq_true (by rw [pV_len, pV_len]; omega)) ?_⟩
      refine ⟨_, rfl, rfl, true, rfl, ifT rfl ⟨_, rfl, _, rfl, x, a, ps, rfl, hcx, ha, fun H2 s2 => ⟨true, rfl, ifT rfl ⟨_, rfl, _, rfl, y, b, qs, rfl, hcy.same s2, s2 _ _ hb, fun H3 s3 => q _ ((s1.trans s2).trans s3)⟩⟩⟩⟩

end
end K04
set_option Elab.async false
set_option linter.all false
set_option maxRecDepth 100000
set_option maxHeartbeats 8000000
namespace K04
open PySem PySem.Spec PyProof.Rows L2 Ly Cut

abbrev s_right : Stmt := topS 38
abbrev N_right : List Str := ["_law_dice_here", "_law_plain", "_law_turn", "_law_made", "_law_parts_here", "_law_at", "_law_spot", "_law_empty", "_law_ways"]
abbrev P_right : List Str := ["_law_dice_here"]
theorem sc_right : FnScope N_right P_right (defScope s_right) := ⟨rfl, rfl, rfl, by decide +kernel, rfl, by decide +kernel, by decide +kernel⟩

section
variable {P : Program} {w : World} {K : PySem.W.Frag} {mg : Str → Option Value} {base : Heap} {f C CT : Addr} {fd : FuncData}
theorem passN {X : Cx} : Passes (L2.CX X.prog X.w) X E0 := fun _ _ _ _ _ _ _ ⟨_, _, _, _, _, _, _, _, _, _, _, _, h⟩ => False.elim h
def rTupOf (K : PySem.W.Frag) : List V → Hp → VK → Prop := fun xs H Q => ∃ p ys, xs = [.ref p] ∧ ((SqL K H p ys ∧ ∀ l, H l = none → Q (.ref l) (upd H l (.tup ys))) ∨ (SqT K H p ys ∧ Q (.ref p) H))
theorem tupOfK {X : Cx} (h : X.K = K) : CallR X (.type "tuple") (rTupOf K) := h ▸ call_tuple_of
theorem mk_cut {H0 : Hp} {vs : List V} {R : Hp → Prop} {x dx : Addr} (ps : List Part) (hv : vs = pV ps) (hok : ∀ p ∈ ps, Ok p) (hl : ps.length ≤ 4) (nx : H0 x = none) (ndx : H0 dx = none) (q : ∀ H', Same H0 H' → CutAt C H' x ps → R H') :
    spInit C (V.ref x :: vs) (upd (upd H0 dx (.own x)) x (.ins C dx [])) (fun v H2 => v = .non ∧ R H2) E0 := by
  subst hv
  refine ⟨x, dx, ps, rfl, upd_same, hok, hl, fun H' c' k => ⟨rfl, q H' (fun b o e => ?_) k⟩⟩
  refine c' b o (ne_of_none e nx) ?_
  rw [upd_ne (ne_of_none e nx), upd_ne (ne_of_none e ndx)]
  exact e
theorem alike_refl (ps : List Part) : alike ps ps = true := List.all_eq_true.mpr fun _ _ => decide_eq_true rfl
/-- the lists of parts and the cutters of them -/
structure G (C : Addr) (H : Hp) (L M : Addr) (as xs : List V) : Prop where
  l : H L = some (.lst as)
  m : H M = some (.lst xs)
  at_ : ∀ i, i < 3 → ∃ a x ps, as[i]? = some (.ref a) ∧ xs[i]? = some (.ref x) ∧ H a = some (.lst (pV ps)) ∧ CutAt C H x ps ∧ ps.length ≤ 3
theorem G.same {H H' : Hp} {L M : Addr} {as xs : List V} (s : Same H H') (h : G C H L M as xs) : G C H' L M as xs := ⟨s _ _ h.l, s _ _ h.m, fun i hi => by
  obtain ⟨a, x, ps, e1, e2, e3, e4, e5⟩ := h.at_ i hi
  exact ⟨a, x, ps, e1, e2, s _ _ e3, e4.same s, e5⟩⟩
/-- if c: t, what follows told by P alone -/
theorem tIf_join {c : TT} {t r : TS} {D : Ends} {σ : L2.St} {H : Hp} (P : L2.St → Hp → Prop) (h : ∀ D' : Ends, (∀ σ' H', P σ' H' → D'.nx σ' H') → (tIfS c t tNext) D' σ H) (k : ∀ σ' H', P σ' H' → r D σ' H') : tSeq (tIfS c t tNext) r D σ H :=
  h { D with nx := r D } k
def spRight : Sp := fun vs H Q _ => ∃ d : Addr, vs = [.ref d] ∧ Dice H d ∧ ∀ H', Chg d H H' → Q (.bl true) H'
theorem ok_right (Z : Zs mg) (D : Df K mg "_law_right" s_right P_right f fd) (c : CK K C) (hC : mg "Cutter" = some (.ref C)) {fi f1 f2 f3 f6 f7 f9 g p9 pm : Addr} {mc : Value} {d1 d2 d3 d9 : FuncData} (D_parts : Cl P w K mg base "_law_parts" 5 f1 d1 P_lparts spLParts)
    (D_is : Cl P w K mg base "_law_is" 5 f2 d2 P_is (spIs C)) (D_pair : Cl P w K mg base "_law_pair_right" 9 f3 d3 P_pair (spPair C)) (M : Mk K C fi) (FI : FnR P w K mg base CX0 5 fi (spInit C))
    (cr : ClX.CRead K C mc) (cm : ClX.CMet K C mc "of" pm f6) (F_of : FnR P w K mg base CX0 7 f6 (spCutOf C)) (sp_eq : Sp1 K C f7 "__eq__") (F_eq : FnR P w K mg base CX0 1 f7 (spCutEq C)) (ne : NeO K C) (pr_parts : PropOf K C "parts" p9 f9) (M_parts : Cm P w K mg base 1 f9 d9 P_parts (spParts C))
    (oS : PySem.W.findIn K (.ref C) "__rshift__" = some (some (.ref g))) (oF : PySem.W.isFn K (.ref g) = true) (oC : PySem.W.selfFirst K C = true) (F_rshift : FnR P w K mg base (L2.CX P w) 7 g (spShift C CT)) : FnOk P w K mg base CX0 10 f fd P_right spRight := by
  refine D.F.ok sc_right (fun vs H Q E h => ?_) (fun cdv A outer s H vs Q E hr h => ?_)
  · obtain ⟨d, rfl, _⟩ := h
    rfl
  · obtain ⟨d, rfl, hD, q⟩ := h
    have nd := sc_right.nd
    have hu : (A.deeper (envOfC "_law_right" (defScope s_right) s.heap.objs.size f cdv)).units + 64 < cLine := by
      have := hr.un
      omega
    refine ⟨_,
    (pss_cons
    (ps_set (i := 1) nd rfl (Or.inr rfl) (pe_lc (own := [("_law_turn", 2)]) (g := gName 2) (tt := tYes) rfl nd (pi_range1 (by rfl) Z.z_range (pa_cons pe_int pa_nil)) (blkOk_by (N := N_right) (sc := defScope s_right) (by decide +kernel)) (fun _ _ _ _ _ => (pg_name (i := 2) nd rfl (Or.inl rfl))) (fun _ _ _ _ _ => pts_nil) (fun _ _ _ _ _ => (pe_call D_parts.ok (hr.mono (by decide)) (by rfl) D_parts.g D_parts.kp D_parts.b .nil pass0 (pa_cons (pv 0) (pa_cons pe_int pa_nil))))))
    (pss_cons
    (ps_set (i := 3) nd rfl (Or.inr rfl) (pe_lc (own := [("_law_parts_here", 4)]) (g := gName 4) (tt := tYes) rfl nd (pi_list (pv 1)) (blkOk_by (N := N_right) (sc := defScope s_right) (by decide +kernel)) (fun _ _ _ _ _ => (pg_name (i := 4) nd rfl (Or.inl rfl))) (fun _ _ _ _ _ => pts_nil) (fun _ _ _ _ _ => (ClX.pe_cmeth (pe_glob (v := .ref C) rfl hC rfl) cr cm F_of (hr.mono (by decide)) pass0 (pa_cons (pe_callTy (tupOfK (K := K) rfl) (by rfl) Z.z_tuple (by decide +kernel) (pa_cons (pv 4) pa_nil)) pa_nil)))))
    (pss_cons
    (ps_for PassesOwn.never rfl (pi_range1 (by rfl) Z.z_range (pa_cons pe_int pa_nil)) (pg_name (i := 5) nd rfl (Or.inl rfl))
      (pss_one
      (ps_for PassesOwn.never rfl (pi_range1 (by rfl) Z.z_range (pa_cons pe_int pa_nil)) (pg_name (i := 6) nd rfl (Or.inl rfl))
        (pss_one
        (ps_if (pt_not (pt_val (pe_call D_pair.ok (hr.mono (by decide)) (by rfl) D_pair.g D_pair.kp D_pair.b .nil pass0 (pa_cons (pe_ix ix_list (pv 1) (pv 5) (fun _ _ => rfl)) (pa_cons (pe_ix ix_list (pv 1) (pv 6) (fun _ _ => rfl)) (pa_cons (pe_ix ix_list (pv 3) (pv 5) (fun _ _ => rfl)) (pa_cons (pe_ix ix_list (pv 3) (pv 6) (fun _ _ => rfl)) pa_nil)))))))
          (pss_one
          (ps_ret pe_bl))
          pss_nil)))))
    (pss_cons
    (ps_set (i := 7) nd rfl (Or.inl rfl) (pe_makeR0 M FI (hr.mono (by decide)) (by rfl) hC pass0))
    (pss_cons
    (ps_for PassesOwn.never rfl (pi_range1 (by rfl) Z.z_range (pa_cons pe_int pa_nil)) (pg_name (i := 5) nd rfl (Or.inl rfl))
      (pss_one
      (ps_if (PW.pt (pw_or (pt_cmpR (op_neD hu) (pe_prop (pe_op (op_ownO (op := .RShift) oS oF oC F_rshift (hr.mono (by decide)) passN) (pe_ix ix_list (pv 3) (pv 5) (fun _ _ => rfl)) (pv 7)) c.cls pr_parts M_parts.ok (hr.mono (by decide)) M_parts.b .nil pass0 rfl) (pe_prop (pe_ix ix_list (pv 3) (pv 5) (fun _ _ => rfl)) c.cls pr_parts M_parts.ok (hr.mono (by decide)) M_parts.b .nil pass0 rfl) (nomark _)) (pw_or1 (pt_cmpR (op_neO sp_eq ne F_eq (hr.mono (by decide)) pass0) (pe_op (op_ownO (op := .RShift) oS oF oC F_rshift (hr.mono (by decide)) passN) (pv 7) (pe_ix ix_list (pv 3) (pv 5) (fun _ _ => rfl))) (pe_ix ix_list (pv 3) (pv 5) (fun _ _ => rfl)) (nomark _)))))
        (pss_one
        (ps_ret pe_bl))
        pss_nil)))
    (pss_cons
    (ps_if (pt_cmpR op_lt (pe_op op_add (pe_op op_add (pe_callB call_lenL (by rfl) Z.z_len (by decide +kernel) (pa_cons (pe_ix ix_list (pv 1) pe_int (fun _ _ => rfl)) pa_nil)) (pe_callB call_lenL (by rfl) Z.z_len (by decide +kernel) (pa_cons (pe_ix ix_list (pv 1) pe_int (fun _ _ => rfl)) pa_nil))) (pe_callB call_lenL (by rfl) Z.z_len (by decide +kernel) (pa_cons (pe_ix ix_list (pv 1) pe_int (fun _ _ => rfl)) pa_nil))) pe_int (nomark _))
      (pss_cons
      (ps_set (i := 8) nd rfl (Or.inl rfl) (pe_lst (pa_cons (pe_op (op_ownO (op := .RShift) oS oF oC F_rshift (hr.mono (by decide)) passN) (pe_op (op_ownO (op := .RShift) oS oF oC F_rshift (hr.mono (by decide)) passN) (pe_ix ix_list (pv 3) pe_int (fun _ _ => rfl)) (pe_ix ix_list (pv 3) pe_int (fun _ _ => rfl))) (pe_ix ix_list (pv 3) pe_int (fun _ _ => rfl))) (pa_cons (pe_op (op_ownO (op := .RShift) oS oF oC F_rshift (hr.mono (by decide)) passN) (pe_ix ix_list (pv 3) pe_int (fun _ _ => rfl)) (pe_op (op_ownO (op := .RShift) oS oF oC F_rshift (hr.mono (by decide)) passN) (pe_ix ix_list (pv 3) pe_int (fun _ _ => rfl)) (pe_ix ix_list (pv 3) pe_int (fun _ _ => rfl)))) pa_nil))))
      (pss_one
      (ps_if (PW.pt (pw_or (pt_cmpR (op_neO sp_eq ne F_eq (hr.mono (by decide)) pass0) (pe_ix ix_list (pv 8) pe_int (fun _ _ => rfl)) (pe_ix ix_list (pv 8) pe_int (fun _ _ => rfl)) (nomark _)) (pw_or (pt_cmpR (op_neD hu) (pe_prop (pe_ix ix_list (pv 8) pe_int (fun _ _ => rfl)) c.cls pr_parts M_parts.ok (hr.mono (by decide)) M_parts.b .nil pass0 rfl) (pe_prop (pe_ix ix_list (pv 8) pe_int (fun _ _ => rfl)) c.cls pr_parts M_parts.ok (hr.mono (by decide)) M_parts.b .nil pass0 rfl) (nomark _)) (pw_or1 (pt_not (pt_val (pe_call D_is.ok (hr.mono (by decide)) (by rfl) D_is.g D_is.kp D_is.b .nil pass0 (pa_cons (pe_ix ix_list (pv 8) pe_int (fun _ _ => rfl)) (pa_cons (pe_op op_cat (pe_op op_cat (pe_ix ix_list (pv 1) pe_int (fun _ _ => rfl)) (pe_ix ix_list (pv 1) pe_int (fun _ _ => rfl))) (pe_ix ix_list (pv 1) pe_int (fun _ _ => rfl))) pa_nil)))))))))
        (pss_one
        (ps_ret pe_bl))
        pss_nil)))
      pss_nil)
    (pss_one
    (ps_ret (pe_cmpR (op_eqD hu) (pe_lc (own := [("_law_at", 5)]) (g := gName 5) rfl nd (pi_range1 (by rfl) Z.z_range (pa_cons pe_int pa_nil)) (blkOk_by (N := N_right) (sc := defScope s_right) (by decide +kernel)) (fun _ _ _ _ _ => (pg_name (i := 5) nd rfl (Or.inl rfl))) (fun _ _ _ _ _ => (pts_one (pt_not (pt_val (pe_call D_is.ok (hr.mono (by decide)) (by rfl) D_is.g D_is.kp D_is.b .nil pass0 (pa_cons (pe_ix (ixL (K := K) rfl) (pv 3) (pv 5) (fun _ _ => rfl)) (pa_cons (pe_ix (ixL (K := K) rfl) (pv 1) (pv 5) (fun _ _ => rfl)) pa_nil))))))) (fun _ _ _ _ _ => (pv 5))) (pe_lst pa_nil) (nomark _)))))))))), ?_⟩
    -- plain
    refine asgS (fun v H1 => ∃ L as, v = .ref L ∧ Chg d H H1 ∧ H1 L = some (.lst as) ∧ as.length = 3 ∧ ∀ k, k < 3 → ∃ a ps, as[k]? = some (.ref a) ∧ H1 a = some (.lst (pV ps)) ∧ (∀ p ∈ ps, Ok p) ∧ ps.length ≤ 3) (fun Q' q' => ?_) (fun v H1 hv => ?_)
    · refine ⟨3, rfl, by decide, by decide, fun L nL => ?_⟩
      have ne := dice_ne hD nL
      refine lc_range (lo := 0) (n := 3) (fun i H2 => Chg d H H2 ∧ Dice H2 d ∧ ∃ as, H2 L = some (.lst as) ∧ as.length = i ∧ ∀ k, k < i → ∃ a ps, as[k]? = some (.ref a) ∧ a ≠ d ∧ a ≠ L ∧ H2 a = some (.lst (pV ps)) ∧ (∀ p ∈ ps, Ok p) ∧ ps.length ≤ 3)
        ⟨Chg.of (same_new nL), hD.new nL, [], upd_same, rfl, fun k h => absurd h (Nat.not_lt_zero k)⟩ (fun i H2 hi hP => ?_) (fun H2 hP => ?_)
      · obtain ⟨c2, D2, as, hL, hla, hk⟩ := hP
        refine ⟨rfl, _, rfl, d, 3, rfl, D2, by decide, by decide, fun H3 a ps c3 D3 na ha hok hl => ?_⟩
        have had : a ≠ d := (dice_ne D2 na).symm
        have haL : a ≠ L := fun e => by rw [e, hL] at na; cases na
        have hL3 := c3 _ _ ne.symm hL
        refine ⟨as, hL3, by rw [hla]; exact small1000 (by omega), fun b o nb eb => ?_, ?_, as ++ [.ref a], upd_same, by rw [List.length_append, hla]; rfl, fun k hk' => ?_⟩
        · rw [upd_ne (ne_of_none eb nL)]
          exact (c2.trans c3) b o nb eb
        · obtain ⟨z1, z2, z3, ed, B⟩ := D3
          exact ⟨z1, z2, z3, by rw [upd_ne ne]; exact ed, B⟩
        · by_cases h : k < as.length
          · obtain ⟨b, qs, e1, e2, e3, e4, e5, e6⟩ := hk k (by omega)
            exact ⟨b, qs, by rw [List.getElem?_append_left h]; exact e1, e2, e3, by rw [upd_ne e3]; exact c3 _ _ e2 e4, e5, e6⟩
          · have ek : k = as.length := by omega
            subst ek
            exact ⟨a, ps, by rw [List.getElem?_append_right (Nat.le_refl _), Nat.sub_self]; rfl, had, haL, by rw [upd_ne haL]; exact ha, hok, hl⟩
      · obtain ⟨c2, D2, as, hL, hla, hk⟩ := hP
        refine q' _ _ ⟨L, as, rfl, c2, hL, hla, fun k h => ?_⟩
        obtain ⟨b, qs, e1, e2, e3, e4, e5, e6⟩ := hk k h
        exact ⟨b, qs, e1, e4, e5, e6⟩
    obtain ⟨L, as, rfl, c1, hL, hla, hk⟩ := hv
    -- made
    refine asgS (fun v H2 => ∃ M xs, v = .ref M ∧ Same H1 H2 ∧ G C H2 L M as xs) (fun Q' q' => ?_) (fun v H2 hv => ?_)
    · refine ⟨_, rfl, L, rfl, ⟨_, .of hL⟩, fun D9 nD => ?_⟩
      refine lc_list (xs := as) (fun i H2 => Same H1 H2 ∧ ∃ xs, H2 D9 = some (.lst xs) ∧ xs.length = i ∧ ∀ k, k < i → ∃ a x ps, as[k]? = some (.ref a) ∧ xs[k]? = some (.ref x) ∧ H1 a = some (.lst (pV ps)) ∧ CutAt C H2 x ps ∧ ps.length ≤ 3)
        ⟨same_new nD, [], upd_same, rfl, fun k h => absurd h (Nat.not_lt_zero k)⟩ (fun i H2 _ hP => .of (hP.1 _ _ hL)) (fun i v H2 hv hP => ?_) (fun H2 hP => ?_)
      · obtain ⟨s2, xs, hD9, hlx, hk2⟩ := hP
        have hi : i < 3 := by
          have := (List.getElem?_eq_some_iff.mp hv).1
          omega
        obtain ⟨a, ps, e1, e2, e3, e4⟩ := hk i hi
        rw [e1] at hv
        cases hv
        refine ⟨rfl, rfl, _, rfl, a, _, rfl, .inl ⟨.of (s2 _ _ e2), fun t nt => ?_⟩⟩
        have s3 := same_new (o := .tup (pV ps)) nt
        refine ⟨t, ps, rfl, upd_same, e3, by omega, fun H3 x s4 nx cx => ?_⟩
        have s34 := s3.trans s4
        have hD3 := s34 _ _ hD9
        have cD : Chg D9 H3 (upd H3 D9 (.lst (xs ++ [.ref x]))) := (Chg.refl D9 H3).upd
        refine ⟨xs, hD3, by rw [hlx]; exact small1000 (by omega), same_set (s2.trans s34) nD, xs ++ [.ref x], upd_same, by rw [List.length_append, hlx]; rfl, fun k hk' => ?_⟩
        by_cases h : k < xs.length
        · obtain ⟨b, y, qs, f1, f2, f3, f4, f5⟩ := hk2 k (by omega)
          exact ⟨b, y, qs, f1, by rw [List.getElem?_append_left h]; exact f2, f3, (f4.same s34).chg cD hD3, f5⟩
        · have ek : k = xs.length := by omega
          subst ek
          exact ⟨a, x, ps, by rw [hlx]; exact e1, by rw [List.getElem?_append_right (Nat.le_refl _), Nat.sub_self]; rfl, e2, cx.chg cD hD3, e4⟩
      · obtain ⟨s2, xs, hD9, hlx, hk2⟩ := hP
        refine q' _ _ ⟨D9, xs, rfl, s2, s2 _ _ hL, hD9, fun i hi => ?_⟩
        obtain ⟨a, x, ps, f1, f2, f3, f4, f5⟩ := hk2 i (by omega)
        exact ⟨a, x, ps, f1, f2, s2 _ _ f3, f4, f5⟩
    obtain ⟨M, xs, rfl, s2, hG⟩ := hv
    have c2 := c1.trans (.of s2)
    clear s2 hk hL c1
    -- all pairs
    refine ⟨3, rfl, by decide, by decide, ?_⟩
    refine for_range (lo := 0) (n := 3) (fun i σ' H' => Same H2 H' ∧ ∃ a5 a6, σ' = [some (.ref d), some (.ref L), none, some (.ref M), none, a5, a6, none, none]) ⟨Same.refl _, none, none, rfl⟩ (fun i σ' H3 hi hP => ?_) (fun σ' H3 hP => ?_)
    · obtain ⟨s3, a5, a6, rfl⟩ := hP
      rw [show (0 : Int) + (i : Int) = (i : Int) from Int.zero_add _]
      refine ⟨3, rfl, by decide, by decide, ?_⟩
      refine for_range (lo := 0) (n := 3) (fun j σ' H' => Same H3 H' ∧ ∃ a6, σ' = [some (.ref d), some (.ref L), none, some (.ref M), none, some (.int i), a6, none, none]) ⟨Same.refl _, _, rfl⟩ (fun j σ' H4 hj hP2 => ?_) (fun σ' H4 hP2 => ?_)
      · obtain ⟨s4, b6, rfl⟩ := hP2
        rw [show (0 : Int) + (j : Int) = (j : Int) from Int.zero_add _]
        have hG := hG.same (s3.trans s4)
        obtain ⟨a, x, ps, f1, f2, f3, f4, f5⟩ := hG.at_ i hi
        obtain ⟨b, y, qs, g1, g2, g3, g4, g5⟩ := hG.at_ j hj
        refine ⟨_, rfl, _, rfl, L, as, i, _, rfl, rfl, .of hG.l, atI_nat f1, _, rfl, _, rfl, L, as, j, _, rfl, rfl, .of hG.l, atI_nat g1, _, rfl, _, rfl, M, xs, i, _, rfl, rfl, .of hG.m, atI_nat f2, _, rfl, _, rfl, M, xs, j, _, rfl, rfl, .of hG.m, atI_nat g2, ?_⟩
        exact ⟨a, b, x, y, ps, qs, rfl, f3, g3, f4, g4, fun H5 s5 => ⟨true, rfl, ifF rfl ⟨s4.trans s5, _, rfl⟩⟩⟩
      · obtain ⟨s4, b6, rfl⟩ := hP2
        exact ⟨s3.trans s4, _, _, rfl⟩
    obtain ⟨s3, a5, a6, rfl⟩ := hP
    have hG := hG.same s3
    have c3 := c2.trans (.of s3)
    clear c2 s3
    -- the empty one
    dsimp only
    refine asgS (fun v H4 => ∃ e, v = .ref e ∧ Same H3 H4 ∧ CutAt C H4 e []) (fun Q' q' => ?_) (fun v H4 hv => ?_)
    · intro x dx nx ndx hne
      exact mk_cut [] rfl (fun _ h => by cases h) (by decide) nx ndx fun H' s cx => q' _ _ ⟨x, rfl, s, cx⟩
    obtain ⟨e, rfl, s4, ce⟩ := hv
    have hG := hG.same s4
    have c4 := c3.trans (.of s4)
    clear c3 s4
    refine ⟨3, rfl, by decide, by decide, ?_⟩
    refine for_range (lo := 0) (n := 3) (fun i σ' H' => Same H4 H' ∧ ∃ a5, σ' = [some (.ref d), some (.ref L), none, some (.ref M), none, a5, a6, some (.ref e), none]) ⟨Same.refl _, _, rfl⟩ (fun i σ' H5 hi hP => ?_) (fun σ' H5 hP => ?_)
    · obtain ⟨s5, b5, rfl⟩ := hP
      rw [show (0 : Int) + (i : Int) = (i : Int) from Int.zero_add _]
      have hG5 := hG.same s5
      have ce5 := ce.same s5
      obtain ⟨a, x, ps, f1, f2, f3, f4, f5⟩ := hG5.at_ i hi
      obtain ⟨_, _, _, _, gx, _⟩ := id f4.ex
      obtain ⟨_, _, _, _, ge, _⟩ := id ce5.ex
      have en : ps ++ [] = ps := List.append_nil ps
      have ok := f4.ok
      refine ⟨_, rfl, _, rfl, M, xs, i, _, rfl, rfl, .of hG5.m, atI_nat f2, _, rfl, x, e, _, _, _, _, rfl, rfl, gx, ge, x, e, ps, [], rfl, f4, ce5, fun _ H6 z s6 nz cz => ⟨⟨z, rfl⟩, ?_⟩, fun h => absurd h (by rw [en]; omega)⟩
      rw [en] at cz
      obtain ⟨_, _, _, _, gz, _⟩ := id cz.ex
      have hG6 := hG5.same s6
      have gx6 := s6 _ _ gx
      have f46 := f4.same s6
      have ce6 := ce5.same s6
      refine ⟨z, _, _, rfl, gz, z, ps, rfl, cz, fun p1 hp1 => ?_⟩
      refine ⟨_, rfl, _, rfl, M, xs, i, _, rfl, rfl, .of hG6.m, atI_nat f2, x, _, _, rfl, gx6, x, ps, rfl, f46, fun p2 hp2 => ?_⟩
      refine ⟨.tuple (dP ps), .tuple (dP ps), .tup (.of hp1) (dpAll_pV ps), .tup (.of hp2) (dpAll_pV ps), shp_tupP ok, shp_tupP ok, _, rfl, ifF (by rw [eqv_dP]; rfl) ?_⟩
      refine ⟨_, rfl, _, rfl, _, rfl, M, xs, i, _, rfl, rfl, .of hG6.m, atI_nat f2, e, x, _, _, _, _, rfl, rfl, s6 _ _ ge, gx6, e, x, [], ps, rfl, ce6, f46, fun _ H7 u s7 nu cu => ⟨⟨u, rfl⟩, ?_⟩, fun h => absurd h (by show ¬ 4 < ps.length; omega)⟩
      have hG7 := hG6.same s7
      obtain ⟨_, _, _, _, gu, _⟩ := id cu.ex
      refine ⟨_, rfl, _, rfl, M, xs, i, _, rfl, rfl, .of hG7.m, atI_nat f2, u, x, _, _, _, _, rfl, rfl, gu, s7 _ _ gx6, u, x, ps, ps, rfl, cu, f46.same s7, _, rfl, ?_⟩
      rw [alike_refl]
      exact ⟨_, rfl, ifF rfl ⟨(s5.trans s6).trans s7, _, rfl⟩⟩
    obtain ⟨s5, b5, rfl⟩ := hP
    have hG := hG.same s5
    have c5 := c4.trans (.of s5)
    clear c4 s5
    dsimp only
    refine tIf_join (fun σ' H' => Same H5 H' ∧ ∃ a8, σ' = [some (.ref d), some (.ref L), none, some (.ref M), none, b5, a6, some (.ref e), a8]) (fun D' kn => ?_) (fun σ' H6 hP => ?_)
    · obtain ⟨a0, x0, p0, f1, f2, f3, f4, f5⟩ := hG.at_ 0 (by decide)
      obtain ⟨a1, x1, p1, g1, g2, g3, g4, g5⟩ := hG.at_ 1 (by decide)
      obtain ⟨a2, x2, p2, h1, h2, h3, h4, h5⟩ := hG.at_ 2 (by decide)
      refine ⟨_, rfl, L, as, (0 : Nat), _, rfl, rfl, .of hG.l, atI_nat f1, _, _, rfl, .of f3, ?_⟩
      refine ⟨_, rfl, L, as, (1 : Nat), _, rfl, rfl, .of hG.l, atI_nat g1, _, _, rfl, .of g3, _, _, rfl, rfl, ?_⟩
      refine ⟨_, rfl, L, as, (2 : Nat), _, rfl, rfl, .of hG.l, atI_nat h1, _, _, rfl, .of h3, _, _, rfl, rfl, _, _, rfl, rfl, _, rfl, ?_⟩
      rw [pV_len, pV_len, pV_len]
      by_cases hl : (p0.length : Int) + p1.length + p2.length < 5
      · refine ifT (decide_eq_true hl) ?_
        have l01 : (p0 ++ p1).length = p0.length + p1.length := List.length_append
        have l12 : (p1 ++ p2).length = p1.length + p2.length := List.length_append
        have l012 : ((p0 ++ p1) ++ p2).length = p0.length + p1.length + p2.length := by rw [List.length_append, l01]
        have l012' : (p0 ++ (p1 ++ p2)).length = p0.length + p1.length + p2.length := by rw [List.length_append, l12]; omega
        refine asgS (fun v H6 => ∃ W u w', v = .ref W ∧ Same H5 H6 ∧ H6 W = some (.lst [.ref u, .ref w']) ∧ CutAt C H6 u (p0 ++ p1 ++ p2) ∧ CutAt C H6 w' (p0 ++ p1 ++ p2)) (fun Q' q' => ?_) (fun v H6 hv => ?_)
        · obtain ⟨_, _, _, _, k0, _⟩ := id f4.ex
          obtain ⟨_, _, _, _, k1, _⟩ := id g4.ex
          obtain ⟨_, _, _, _, k2, _⟩ := id h4.ex
          refine ⟨_, rfl, M, xs, (0 : Nat), _, rfl, rfl, .of hG.m, atI_nat f2, _, rfl, M, xs, (1 : Nat), _, rfl, rfl, .of hG.m, atI_nat g2, x0, x1, _, _, _, _, rfl, rfl, k0, k1, x0, x1, p0, p1, rfl, f4, g4, fun _ H6 z s6 nz cz => ⟨⟨z, rfl⟩, ?_⟩, fun h => absurd h (by omega)⟩
          have hG6 := hG.same s6
          obtain ⟨_, _, _, _, kz, _⟩ := id cz.ex
          refine ⟨_, rfl, M, xs, (2 : Nat), _, rfl, rfl, .of hG6.m, atI_nat h2, z, x2, _, _, _, _, rfl, rfl, kz, s6 _ _ k2, z, x2, p0 ++ p1, p2, rfl, cz, h4.same s6, fun _ H7 u s7 nu cu => ⟨⟨u, rfl⟩, ?_⟩, fun h => absurd h (by omega)⟩
          have s67 := s6.trans s7
          have hG7 := hG.same s67
          refine ⟨_, rfl, M, xs, (0 : Nat), _, rfl, rfl, .of hG7.m, atI_nat f2, _, rfl, M, xs, (1 : Nat), _, rfl, rfl, .of hG7.m, atI_nat g2, _, rfl, M, xs, (2 : Nat), _, rfl, rfl, .of hG7.m, atI_nat h2, x1, x2, _, _, _, _, rfl, rfl, s67 _ _ k1, s67 _ _ k2, x1, x2, p1, p2, rfl, g4.same s67, h4.same s67, fun _ H8 y s8 ny cy => ⟨⟨y, rfl⟩, ?_⟩, fun h => absurd h (by omega)⟩
          have s68 := s67.trans s8
          obtain ⟨_, _, _, _, ky, _⟩ := id cy.ex
          refine ⟨x0, y, _, _, _, _, rfl, rfl, s68 _ _ k0, ky, x0, y, p0, p1 ++ p2, rfl, f4.same s68, cy, fun _ H9 w' s9 nw cw => ⟨⟨w', rfl⟩, ?_⟩, fun h => absurd h (by omega)⟩
          rw [← List.append_assoc] at cw
          refine ⟨by show 2 ≤ sizeLine; decide, fun W nW => ?_⟩
          have s10 := same_new (o := .lst [V.ref u, .ref w']) nW
          exact q' _ _ ⟨W, u, w', rfl, (s68.trans s9).trans s10, upd_same, ((cu.same s8).same s9).same s10, cw.same s10⟩
        obtain ⟨W, u, w', rfl, s6, hW, cu, cw⟩ := hv
        have hG6 := hG.same s6
        have ok := cu.ok
        obtain ⟨_, _, _, _, ku, _⟩ := id cu.ex
        obtain ⟨_, _, _, _, kw, _⟩ := id cw.ex
        refine ⟨_, rfl, W, _, (0 : Nat), _, rfl, rfl, .of hW, atI_nat rfl, _, rfl, W, _, (1 : Nat), _, rfl, rfl, .of hW, atI_nat rfl, u, w', _, _, _, _, rfl, rfl, ku, kw, u, w', _, _, rfl, cu, cw, _, rfl, ?_⟩
        rw [alike_refl]
        refine ⟨_, rfl, ifF rfl ?_⟩
        refine ⟨_, rfl, W, _, (0 : Nat), _, rfl, rfl, .of hW, atI_nat rfl, u, _, _, rfl, ku, u, _, rfl, cu, fun q1 hq1 => ?_⟩
        refine ⟨_, rfl, W, _, (1 : Nat), _, rfl, rfl, .of hW, atI_nat rfl, w', _, _, rfl, kw, w', _, rfl, cw, fun q2 hq2 => ?_⟩
        refine ⟨.tuple (dP _), .tuple (dP _), .tup (.of hq1) (dpAll_pV _), .tup (.of hq2) (dpAll_pV _), shp_tupP ok, shp_tupP ok, _, rfl, ifF (by rw [eqv_dP]; rfl) ?_⟩
        refine ⟨_, rfl, W, _, (0 : Nat), _, rfl, rfl, .of hW, atI_nat rfl, ?_⟩
        refine ⟨_, rfl, L, as, (0 : Nat), _, rfl, rfl, .of hG6.l, atI_nat f1, _, rfl, L, as, (1 : Nat), _, rfl, rfl, .of hG6.l, atI_nat g1, a0, a1, _, _, rfl, rfl, s6 _ _ f3, s6 _ _ g3, by rw [pV_len, pV_len]; exact sz1000 (by omega), fun l1 nl1 => ?_⟩
        have t1 := same_new (o := .lst (pV p0 ++ pV p1)) nl1
        have hG7 := hG6.same t1
        refine ⟨_, rfl, L, as, (2 : Nat), _, rfl, rfl, .of hG7.l, atI_nat h1, l1, a2, _, _, rfl, rfl, upd_same, t1 _ _ (s6 _ _ h3), by rw [List.length_append, pV_len, pV_len, pV_len]; exact sz1000 (by omega), fun l2 nl2 => ?_⟩
        have t2 := t1.trans (same_new (o := .lst (pV p0 ++ pV p1 ++ pV p2)) nl2)
        refine ⟨u, l2, p0 ++ p1 ++ p2, rfl, cu.same t2, by rw [upd_same, pV_app, pV_app], fun H8 s8 => ⟨true, rfl, ifF rfl (kn _ _ ⟨s6.trans (t2.trans s8), _, rfl⟩)⟩⟩
      · exact ifF (decide_eq_false hl) (kn _ _ ⟨Same.refl _, _, rfl⟩)
    obtain ⟨s6, a8, rfl⟩ := hP
    have hG := hG.same s6
    have c6 := c5.trans (.of s6)
    refine ⟨3, rfl, by decide, by decide, fun D9 nD => ?_⟩
    refine lc_range (lo := 0) (n := 3) (fun i H' => Same H6 H' ∧ H' D9 = some (.lst [])) ⟨same_new nD, upd_same⟩ (fun i H' hi hP => ?_) (fun H' hP => ?_)
    · obtain ⟨s7, hd⟩ := hP
      have hG7 := hG.same s7
      obtain ⟨a, x, ps, f1, f2, f3, f4, f5⟩ := hG7.at_ i hi
      refine ⟨rfl, _, rfl, _, rfl, M, xs, i, _, rfl, by rw [Int.zero_add], .of hG7.m, atI_nat f2, _, rfl, _, rfl, L, as, i, _, rfl, by rw [Int.zero_add], .of hG7.l, atI_nat f1, x, a, ps, rfl, f4, f3, fun H8 s8 => ⟨true, rfl, ifF rfl ⟨s7.trans s8, s8 _ _ hd⟩⟩⟩
    · obtain ⟨s7, hd⟩ := hP
      refine ⟨by show 0 ≤ sizeLine; decide, fun l nl => ?_⟩
      have s8 := same_new (o := .lst []) nl
      refine ⟨.list [], .list [], .lst (.of (s8 _ _ hd)) .nil, .lst (.of upd_same) .nil, by decide +kernel, by decide +kernel, ?_⟩
      exact q _ (c6.trans (.of (s7.trans s8)))

end
end K04
set_option Elab.async false
set_option linter.all false
set_option maxRecDepth 100000
set_option maxHeartbeats 8000000
namespace K04
open PySem PySem.Spec PyProof.Rows L2 Ly Cut

abbrev s_law : Stmt := topS 39
abbrev N_law : List Str := ["_law_script", "_law_at", "_law_two", "_law_first", "_law_told"]
abbrev P_law : List Str := ["_law_script"]
theorem sc_law : FnScope N_law P_law (defScope s_law) := ⟨rfl, rfl, rfl, by decide +kernel, rfl, by decide +kernel, by decide +kernel⟩

section
variable {P : Program} {w : World} {K : PySem.W.Frag} {mg : Str → Option Value} {base : Heap} {f C CT : Addr} {fd : FuncData}
abbrev cD : Part := .pat [] [true, true]
abbrev cC : Part := .pat [true] []
theorem tC' : [V.str "+.."] = pV [cC] := by
  show [V.str "+.."] = [V.str cC.text]
  rw [show cC.text = Str.ofString "+.." by decide +kernel]
theorem tD : [V.str "..++"] = pV [cD] := by
  show [V.str "..++"] = [V.str cD.text]
  rw [show cD.text = Str.ofString "..++" by decide +kernel]
theorem okC : ∀ p ∈ [cC], Ok p := fun r hr => by
  rw [List.mem_singleton.mp hr]
  exact ⟨by decide, by decide⟩
theorem okD : ∀ p ∈ [cD], Ok p := fun r hr => by
  rw [List.mem_singleton.mp hr]
  exact ⟨by decide, by decide⟩
def spLaw (K : PySem.W.Frag) : Sp := fun vs H Q _ => ∃ (a : Addr) (ns : List Int), vs = [.ref a] ∧ SqL K H a (ns.map V.int) ∧ ns.length ≤ 63 ∧ ∀ H', Q (.bl true) H'
theorem ok_law (Z : Zs mg) (D : Df K mg "law" s_law P_law f fd) (c : CK K C) (hC : mg "Cutter" = some (.ref C)) {fi f1 f2 f3 f7 f8 fs g : Addr} {d1 d2 d3 d8 : FuncData} (D_dice : Cl P w K mg base "_law_dice" 1 f1 d1 P_dice (spDice K)) (D_right : Cl P w K mg base "_law_right" 10 f2 d2 P_right spRight)
    (D_joined : Cl P w K mg base "_law_joined" 8 f3 d3 P_joined (spJoined C)) (M : Mk K C fi) (FI : FnR P w K mg base CX0 5 fi (spInit C)) (sp_eq : Sp1 K C f7 "__eq__") (F_eq : FnR P w K mg base CX0 1 f7 (spCutEq C)) (me_places : Meth K C "places" f8) (M_places : Cm P w K mg base 3 f8 d8 P_places (spCutPlaces C))
    (sp_str : Sp1 K C fs "__str__") (F_str : FnR P w K mg base CX0 1 fs (spCutStr C)) (oS : PySem.W.findIn K (.ref C) "__rshift__" = some (some (.ref g))) (oF : PySem.W.isFn K (.ref g) = true) (oC : PySem.W.selfFirst K C = true) (F_rshift : FnR P w K mg base (L2.CX P w) 7 g (spShift C CT)) : FnOk P w K mg base CX0 11 f fd P_law (spLaw K) := by
  refine D.F.ok sc_law (fun vs H Q E h => ?_) (fun cdv A outer s H vs Q E hr h => ?_)
  · obtain ⟨a, ns, rfl, _⟩ := h
    rfl
  · obtain ⟨a, ns, rfl, hS, hl, q⟩ := h
    have nd := sc_law.nd
    have hu : (A.deeper (envOfC "law" (defScope s_law) s.heap.objs.size f cdv)).units + 64 < cLine := by
      have := hr.un
      omega
    refine ⟨_,
    (pss_cons
    (ps_for PassesOwn.never rfl (pi_range1 (by rfl) Z.z_range (pa_cons (pe_callB (call_max2 rfl) (by rfl) Z.z_max (by decide +kernel) (pa_cons pe_int (pa_cons (pe_callB (call_min2 rfl) (by rfl) Z.z_min (by decide +kernel) (pa_cons pe_int (pa_cons (pe_callB call_lenL (by rfl) Z.z_len (by decide +kernel) (pa_cons (pv 0) pa_nil)) pa_nil))) pa_nil))) pa_nil)) (pg_name (i := 1) nd rfl (Or.inl rfl))
      (pss_one
      (ps_if (pt_not (pt_val (pe_call D_right.ok (hr.mono (by decide)) (by rfl) D_right.g D_right.kp D_right.b .nil pass0 (pa_cons (pe_call D_dice.ok (hr.mono (by decide)) (by rfl) D_dice.g D_dice.kp D_dice.b .nil pass0 (pa_cons (pv 0) (pa_cons (pv 1) pa_nil))) pa_nil))))
        (pss_one
        (ps_ret pe_bl))
        pss_nil)))
    (pss_cons
    (ps_par (i := 2) (j := 3) (by rfl) nd rfl rfl (by decide) rfl rfl (pa_cons (StX.pe_makeR M FI (hr.mono (by decide)) (by rfl) hC pass0 (pa_cons pe_str pa_nil)) (pa_cons (StX.pe_makeR M FI (hr.mono (by decide)) (by rfl) hC pass0 (pa_cons pe_str pa_nil)) pa_nil)) (by rfl))
    (pss_cons
    (ps_set (i := 4) nd rfl (Or.inl rfl) (pe_lst (pa_cons (pe_meth (pe_op (op_ownO (op := .RShift) oS oF oC F_rshift (hr.mono (by decide)) passN) (pv 2) (pv 3)) c.cls me_places M_places.ok (hr.mono (by decide)) M_places.b .nil pass0 (pa_cons pe_int pa_nil)) (pa_cons (pe_meth (pe_op (op_ownO (op := .RShift) oS oF oC F_rshift (hr.mono (by decide)) passN) (pv 3) (pv 2)) c.cls me_places M_places.ok (hr.mono (by decide)) M_places.b .nil pass0 (pa_cons pe_int pa_nil)) (pa_cons (pe_callTy (call_strO sp_str F_str (hr.mono (by decide)) pass0) (by rfl) Z.z_str (by decide +kernel) (pa_cons (pe_op (op_ownO (op := .RShift) oS oF oC F_rshift (hr.mono (by decide)) passN) (pv 3) (pv 2)) pa_nil)) (pa_cons (pe_cmpR (op_eqO sp_eq F_eq (hr.mono (by decide)) pass0) (pe_op (op_ownO (op := .RShift) oS oF oC F_rshift (hr.mono (by decide)) passN) (pv 2) (pv 2)) (pv 2) (nomark _)) pa_nil))))))
    (pss_one
    (ps_ret (pe_and (pe_cmpR (op_eqD hu) (pv 4) (pe_lst (pa_cons (pe_tup (pa_cons pe_int pa_nil)) (pa_cons (pe_tup (pa_cons pe_int pa_nil)) (pa_cons pe_str (pa_cons pe_bl pa_nil))))) (nomark _)) (pe_one (pe_cmpR op_eq (pe_call D_joined.ok (hr.mono (by decide)) (by rfl) D_joined.g D_joined.kp D_joined.b .nil pass0 (pa_cons (pe_op (op_ownO (op := .RShift) oS oF oC F_rshift (hr.mono (by decide)) passN) (pv 2) (pv 2)) (pa_cons (pe_op (op_ownO (op := .RShift) oS oF oC F_rshift (hr.mono (by decide)) passN) (pe_op (op_ownO (op := .RShift) oS oF oC F_rshift (hr.mono (by decide)) passN) (pv 2) (pv 2)) (pv 2)) pa_nil))) pe_int (nomark _))))))))), ?_⟩
    refine ⟨_, rfl, a, _, rfl, hS, _, _, rfl, _, _, rfl, ?_⟩
    rw [List.length_map]
    generalize hn : (if (if (ns.length : Int) < 8 then (ns.length : Int) else 8) > 1 then (if (ns.length : Int) < 8 then (ns.length : Int) else 8) else 1) = n
    have n0 : 0 ≤ n ∧ n ≤ 8 := by
      rw [← hn]
      split <;> (try split) <;> omega
    refine ⟨n, rfl, by omega, by omega, ?_⟩
    refine for_range (lo := 0) (n := n.toNat) (fun i σ' H' => Same H H' ∧ ∃ x1, σ' = [some (.ref a), x1, none, none, none]) ⟨Same.refl H, none, rfl⟩ (fun i σ' H1 hi hP => ?_) (fun σ' H1 hP => ?_)
    · obtain ⟨s1, x1, rfl⟩ := hP
      refine ⟨_, rfl, _, rfl, a, ns, i, by simp, s1.seq hS, hl, by omega, fun H2 d s2 nd' D2 => ⟨d, rfl, D2, fun H3 c3 => ⟨true, rfl, ifF rfl ⟨fun b o e => ?_, _, rfl⟩⟩⟩⟩
      have e1 := s1 _ _ e
      exact c3 _ _ (ne_of_none e1 nd') (s2 _ _ e1)
    · obtain ⟨s1, x1, rfl⟩ := hP
      dsimp only
      intro x dx nx ndx hne
      refine mk_cut [cD] tD okD (by decide) nx ndx fun H2 s2 cx => ?_
      intro y dy ny ndy hne2
      refine mk_cut [cC] tC' okC (by decide) ny ndy fun H3 s3 cy => ?_
      have cx := cx.same s3
      have cx0 := cx
      have cy0 := cy
      refine ⟨_, _, rfl, ?_⟩
      dsimp only
      have two : ∀ p ∈ [cD] ++ [cD], Ok p := fun p hp => (List.mem_append.mp hp).elim (okD p) (okD p)
      refine asgS (fun v H4 => ∃ W r1 r2, v = .ref W ∧ Same H3 H4 ∧ H4 W = some (.lst [.ref r1, .ref r2, .str "+.. > ..++", .bl true]) ∧ H4 r1 = some (.tup [.int 3]) ∧ H4 r2 = some (.tup [.int 0])) (fun Q' q' => ?_) (fun v H4 hv => ?_)
      · obtain ⟨_, _, _, _, hx, _⟩ := id cx.ex
        obtain ⟨_, _, _, _, hy, _⟩ := id cy.ex
        refine ⟨_, rfl, _, rfl, x, y, _, _, _, _, rfl, rfl, hx, hy, x, y, [cD], [cC], rfl, cx, cy, fun _ H4 z s4 nz cz => ⟨⟨z, rfl⟩, ?_⟩, fun h => absurd h (by decide)⟩
        obtain ⟨_, _, _, _, hz, _⟩ := id cz.ex
        refine ⟨z, _, _, rfl, hz, rfl, z, _, 5, rfl, cz, by decide, fun H5 r1 s5 hr1 => ?_⟩
        rw [show Cut.places ([cD] ++ [cC]) 5 = [3] by decide +kernel] at hr1
        have s35 := s4.trans s5
        refine ⟨_, rfl, _, rfl, y, x, _, _, _, _, rfl, rfl, s35 _ _ hy, s35 _ _ hx, y, x, [cC], [cD], rfl, cy.same s35, cx.same s35, fun _ H6 u s6 nu cu => ⟨⟨u, rfl⟩, ?_⟩, fun h => absurd h (by decide)⟩
        obtain ⟨_, _, _, _, hu', _⟩ := id cu.ex
        refine ⟨u, _, _, rfl, hu', rfl, u, _, 5, rfl, cu, by decide, fun H7 r2 s7 hr2 => ?_⟩
        rw [show Cut.places ([cC] ++ [cD]) 5 = [0] by decide +kernel] at hr2
        have s37 := (s35.trans s6).trans s7
        refine ⟨_, rfl, _, rfl, y, x, _, _, _, _, rfl, rfl, s37 _ _ hy, s37 _ _ hx, y, x, [cC], [cD], rfl, cy.same s37, cx.same s37, fun _ H8 t s8 nt ct => ⟨⟨t, rfl⟩, ?_⟩, fun h => absurd h (by decide)⟩
        obtain ⟨_, _, _, _, ht, _⟩ := id ct.ex
        refine ⟨t, _, _, rfl, ht, t, _, rfl, ct, fun H9 s9 => ⟨_, rfl, ?_⟩⟩
        rw [show cutText ([cC] ++ [cD]) = Str.ofString "+.. > ..++" by decide +kernel]
        have s39 := (s37.trans s8).trans s9
        refine ⟨_, rfl, _, rfl, x, x, _, _, _, _, rfl, rfl, s39 _ _ hx, s39 _ _ hx, x, x, [cD], [cD], rfl, cx.same s39, cx.same s39, fun _ HA v sA nv cv => ⟨⟨v, rfl⟩, ?_⟩, fun h => absurd h (by decide)⟩
        obtain ⟨_, _, _, _, hv, _⟩ := id cv.ex
        have s3A := s39.trans sA
        refine ⟨_, rfl, v, x, _, _, _, _, rfl, rfl, hv, s3A _ _ hx, v, x, _, _, rfl, cv, cx.same s3A, _, rfl, ?_⟩
        rw [show alike ([cD] ++ [cD]) [cD] = true by decide +kernel]
        refine ⟨by show 4 ≤ sizeLine; decide, fun W nW => ?_⟩
        have sB := same_new (o := .lst [V.ref r1, .ref r2, .str "+.. > ..++", .bl true]) nW
        have s5B := (((((s6.trans s7).trans s8).trans s9).trans sA).trans sB)
        have s7B := (((s8.trans s9).trans sA).trans sB)
        exact q' _ _ ⟨W, r1, r2, rfl, s3A.trans sB, upd_same, s5B _ _ hr1, s7B _ _ hr2⟩
      obtain ⟨W, r1, r2, rfl, s4, hW, hr1, hr2⟩ := hv
      have cx := cx.same s4
      refine ⟨_, rfl, ?_⟩
      refine ⟨by show 1 ≤ sizeLine; decide, fun t1 n1 => ⟨by show 1 ≤ sizeLine; decide, fun t2 n2 => ⟨by show 4 ≤ sizeLine; decide, fun V1 n3 => ?_⟩⟩⟩
      have v1 := same_new (o := .tup [V.int 3]) n1
      have v2 := same_new (o := .tup [V.int 0]) n2
      have v3 := same_new (o := .lst [V.ref t1, .ref t2, .str "+.. > ..++", .bl true]) n3
      have v13 := (v1.trans v2).trans v3
      have b1 := v3 _ _ (v2 _ _ (upd_same (o := .tup [V.int 3])))
      have b2 := v3 _ _ (upd_same (o := .tup [V.int 0]))
      have b3 := upd_same (H := upd (upd H4 t1 (.tup [V.int 3])) t2 (.tup [V.int 0])) (a := V1) (o := .lst [V.ref t1, .ref t2, .str "+.. > ..++", .bl true])
      have a1 := v13 _ _ hr1
      have a2 := v13 _ _ hr2
      have a3 := v13 _ _ hW
      have cx := cx.same v13
      generalize upd (upd (upd H4 t1 (.tup [V.int 3])) t2 (.tup [V.int 0])) V1 (.lst [V.ref t1, .ref t2, .str "+.. > ..++", .bl true]) = HX at a1 a2 a3 b1 b2 b3 cx ⊢
      have dS : ∀ (y : Addr) (i : Int), HX y = some (.tup [.int i]) → Dp K HX (.ref y) (.tuple [.int i]) := fun y i hy => .tup (.of hy) (.cons (.int _) .nil)
      have dL : ∀ (y t1 t2 : Addr), HX y = some (.lst [.ref t1, .ref t2, .str "+.. > ..++", .bl true]) → HX t1 = some (.tup [.int 3]) → HX t2 = some (.tup [.int 0]) → Dp K HX (.ref y) (.list [.tuple [.int 3], .tuple [.int 0], .str "+.. > ..++", .bool true]) := fun y t1 t2 hy h1 h2 => .lst (.of hy) (.cons (dS _ _ h1) (.cons (dS _ _ h2) (.cons (.str _) (.cons (.bl _) .nil))))
      refine ⟨.list [.tuple [.int 3], .tuple [.int 0], .str "+.. > ..++", .bool true], .list [.tuple [.int 3], .tuple [.int 0], .str "+.. > ..++", .bool true], dL _ _ _ a3 a1 a2, dL _ _ _ b3 b1 b2, by decide +kernel, by decide +kernel, ?_⟩
      rw [show PyData.eqv (.list [.tuple [.int 3], .tuple [.int 0], .str "+.. > ..++", .bool true]) (.list [.tuple [.int 3], .tuple [.int 0], .str "+.. > ..++", .bool true]) = true by decide +kernel]
      refine ⟨true, rfl, ifT rfl ?_⟩
      obtain ⟨_, _, _, _, hx, _⟩ := id cx.ex
      refine ⟨_, rfl, _, rfl, x, x, _, _, _, _, rfl, rfl, hx, hx, x, x, [cD], [cD], rfl, cx, cx, fun _ H5 z s5 nz cz => ⟨⟨z, rfl⟩, ?_⟩, fun h => absurd h (by decide)⟩
      have cx5 := cx.same s5
      have hx5 := s5 _ _ hx
      refine ⟨_, rfl, _, rfl, x, x, _, _, _, _, rfl, rfl, hx5, hx5, x, x, [cD], [cD], rfl, cx5, cx5, fun _ H6 u s6 nu cu => ⟨⟨u, rfl⟩, ?_⟩, fun h => absurd h (by decide)⟩
      obtain ⟨_, _, _, _, hu', _⟩ := id cu.ex
      refine ⟨_, rfl, u, x, _, _, _, _, rfl, rfl, hu', s6 _ _ hx5, u, x, _, _, rfl, cu, cx5.same s6, fun _ H7 v s7 nv cv => ⟨⟨v, rfl⟩, ?_⟩, fun h => absurd h (by decide)⟩
      refine ⟨z, v, _, _, rfl, (cz.same s6).same s7, cv, fun h => absurd h (by decide), fun _ H8 s8 => ⟨rfl, ?_⟩⟩
      rw [decide_eq_true rfl]
      exact q _

end
end K04
set_option Elab.async false
set_option linter.all false
set_option maxRecDepth 100000
set_option maxHeartbeats 8000000
namespace K04
open PySem PySem.Spec PyProof.Rows L2 Ly Cut

theorem exm_own {K : PySem.W.Frag} {S : Addr} (h1 : PySem.W.subIn K (.ref S) (.type "BaseException") = some true) (h2 : PySem.W.isClsIn K S = true) (h3 : PySem.W.typeIn K (.ref S) = some (.type "type")) (h4 : PySem.W.subIn K (.ref S) (.ref S) = some true) : PySem.W.exmOne K (.ref S) (.ref S) = some true := by
  have h5 : (PySem.W.clsIn K S).isSome = true := h2
  unfold PySem.W.exmOne PySem.W.kitCls
  simp only [h1, h5, h3, h4, beq_self_eq_true, Bool.and_self, if_true]
theorem all_mk {l : PySem.W.OpenLaw} {w : World} {K : PySem.W.Frag} {h : Heap} {mg : Str → Option Value} {fa : Addr} (X : K.In h) (G : h.Ns mainGlobals mg) (hfa : mg "law" = some (.ref fa)) {f_is_whole : Addr} {od_is_whole an_is_whole : Option Addr} {sl_is_whole : Array (Option Value)} {oc_is_whole kV_is_whole dc_is_whole pm_is_whole cd_is_whole ct_is_whole : Value} {f_ekept : Addr} {od_ekept an_ekept : Option Addr} {sl_ekept : Array (Option Value)} {oc_ekept kV_ekept dc_ekept pm_ekept cd_ekept ct_ekept : Value} {f_is_part : Addr} {od_is_part an_is_part : Option Addr} {sl_is_part : Array (Option Value)} {oc_is_part kV_is_part dc_is_part pm_is_part cd_is_part ct_is_part : Value} {f_check_parts : Addr} {od_check_parts an_check_parts : Option Addr} {sl_check_parts : Array (Option Value)} {oc_check_parts kV_check_parts dc_check_parts pm_check_parts cd_check_parts ct_check_parts : Value} {f_has_plus : Addr} {od_has_plus an_has_plus : Option Addr} {sl_has_plus : Array (Option Value)} {oc_has_plus kV_has_plus dc_has_plus pm_has_plus cd_has_plus ct_has_plus : Value} {f_part_places : Addr} {od_part_places an_part_places : Option Addr} {sl_part_places : Array (Option Value)} {oc_part_places kV_part_places dc_part_places pm_part_places cd_part_places ct_part_places : Value} {f_kept_places : Addr} {od_kept_places an_kept_places : Option Addr} {sl_kept_places : Array (Option Value)} {oc_kept_places kV_kept_places dc_kept_places pm_kept_places cd_kept_places ct_kept_places : Value} {f_table_of : Addr} {od_table_of an_table_of : Option Addr} {sl_table_of : Array (Option Value)} {oc_table_of kV_table_of dc_table_of pm_table_of cd_table_of ct_table_of : Value} {f_keep_all : Addr} {od_keep_all an_keep_all : Option Addr} {sl_keep_all : Array (Option Value)} {oc_keep_all kV_keep_all dc_keep_all pm_keep_all cd_keep_all ct_keep_all : Value} {f_check_cutter : Addr} {od_check_cutter an_check_cutter : Option Addr} {sl_check_cutter : Array (Option Value)} {oc_check_cutter kV_check_cutter dc_check_cutter pm_check_cutter cd_check_cutter ct_check_cutter : Value} {f_dice : Addr} {od_dice an_dice : Option Addr} {sl_dice : Array (Option Value)} {oc_dice kV_dice dc_dice pm_dice cd_dice ct_dice : Value} {f_roll : Addr} {od_roll an_roll : Option Addr} {sl_roll : Array (Option Value)} {oc_roll kV_roll dc_roll pm_roll cd_roll ct_roll : Value} {f_one_of : Addr} {od_one_of an_one_of : Option Addr} {sl_one_of : Array (Option Value)} {oc_one_of kV_one_of dc_one_of pm_one_of cd_one_of ct_one_of : Value} {f_signs : Addr} {od_signs an_signs : Option Addr} {sl_signs : Array (Option Value)} {oc_signs kV_signs dc_signs pm_signs cd_signs ct_signs : Value} {f_part : Addr} {od_part an_part : Option Addr} {sl_part : Array (Option Value)} {oc_part kV_part dc_part pm_part cd_part ct_part : Value} {f_lparts : Addr} {od_lparts an_lparts : Option Addr} {sl_lparts : Array (Option Value)} {oc_lparts kV_lparts dc_lparts pm_lparts cd_lparts ct_lparts : Value} {f_kept : Addr} {od_kept an_kept : Option Addr} {sl_kept : Array (Option Value)} {oc_kept kV_kept dc_kept pm_kept cd_kept ct_kept : Value} {f_joined : Addr} {od_joined an_joined : Option Addr} {sl_joined : Array (Option Value)} {oc_joined kV_joined dc_joined pm_joined cd_joined ct_joined : Value} {f_is : Addr} {od_is an_is : Option Addr} {sl_is : Array (Option Value)} {oc_is kV_is dc_is pm_is cd_is ct_is : Value} {f_pair : Addr} {od_pair an_pair : Option Addr} {sl_pair : Array (Option Value)} {oc_pair kV_pair dc_pair pm_pair cd_pair ct_pair : Value} {f_right : Addr} {od_right an_right : Option Addr} {sl_right : Array (Option Value)} {oc_right kV_right dc_right pm_right cd_right ct_right : Value} {f_law : Addr} {od_law an_law : Option Addr} {sl_law : Array (Option Value)} {oc_law kV_law dc_law pm_law cd_law ct_law : Value} {C : Addr} {f_init : Addr} {od_init an_init : Option Addr} {sl_init : Array (Option Value)} {oc_init kV_init dc_init pm_init cd_init ct_init : Value} {p_of : Addr} {rest_of : List Value} {f_of : Addr} {od_of an_of : Option Addr} {sl_of : Array (Option Value)} {oc_of kV_of dc_of pm_of cd_of ct_of : Value} {p_parts : Addr} {rest_parts : List Value} {f_parts : Addr} {od_parts an_parts : Option Addr} {sl_parts : Array (Option Value)} {oc_parts kV_parts dc_parts pm_parts cd_parts ct_parts : Value} {p_keeps_all : Addr} {rest_keeps_all : List Value} {f_keeps_all : Addr} {od_keeps_all an_keeps_all : Option Addr} {sl_keeps_all : Array (Option Value)} {oc_keeps_all kV_keeps_all dc_keeps_all pm_keeps_all cd_keeps_all ct_keeps_all : Value} {f_callc : Addr} {od_callc an_callc : Option Addr} {sl_callc : Array (Option Value)} {oc_callc kV_callc dc_callc pm_callc cd_callc ct_callc : Value} {f_places : Addr} {od_places an_places : Option Addr} {sl_places : Array (Option Value)} {oc_places kV_places dc_places pm_places cd_places ct_places : Value} {f_rshift : Addr} {od_rshift an_rshift : Option Addr} {sl_rshift : Array (Option Value)} {oc_rshift kV_rshift dc_rshift pm_rshift cd_rshift ct_rshift : Value} {f_within : Addr} {od_within an_within : Option Addr} {sl_within : Array (Option Value)} {oc_within kV_within dc_within pm_within cd_within ct_within : Value} {f_lenc : Addr} {od_lenc an_lenc : Option Addr} {sl_lenc : Array (Option Value)} {oc_lenc kV_lenc dc_lenc pm_lenc cd_lenc ct_lenc : Value} {f_eqc : Addr} {od_eqc an_eqc : Option Addr} {sl_eqc : Array (Option Value)} {oc_eqc kV_eqc dc_eqc pm_eqc cd_eqc ct_eqc : Value} {f_strc : Addr} {od_strc an_strc : Option Addr} {sl_strc : Array (Option Value)} {oc_strc kV_strc dc_strc pm_strc cd_strc ct_strc : Value} {T : Addr} {nmT qT : Str} {NT : Addr} {bsT : List Value} {snT : List Str} {subT : List Value} {abT : Bool} {colT : Option Bool} {ddT : Option Addr} {x0T x1T x2T x3T x5T : Option Value} {f_tinit : Addr} {od_tinit an_tinit : Option Addr} {sl_tinit : Array (Option Value)} {oc_tinit kV_tinit dc_tinit pm_tinit cd_tinit ct_tinit : Value} {t_MAX_PARTS : Tok} {t_MAX_ROW : Tok} {t_KEEP_ALL : Tok} {t_DOTS : Tok} {t_MAX_FRONT : Tok} {t_MAX_BACK : Tok} {t_REACH : Tok}
    (a_is_whole : PySem.W.nsIn K mainGlobals "is_whole" = some (some (.ref f_is_whole)))
    (l_is_whole : K.lookup f_is_whole = some ⟨oc_is_whole, od_is_whole, .func (PySem.W.fnOf "is_whole" "is_whole" (defArgs s_is_whole) (defBody s_is_whole) (defScope s_is_whole) .none kV_is_whole dc_is_whole pm_is_whole an_is_whole cd_is_whole ct_is_whole), sl_is_whole⟩)
    (c_is_whole : PySem.W.codeIn K cd_is_whole "is_whole" = true)
    (k_is_whole : PySem.W.keepIn K (.ref f_is_whole) = true)
    (a_ekept : PySem.W.nsIn K mainGlobals "kept" = some (some (.ref f_ekept)))
    (l_ekept : K.lookup f_ekept = some ⟨oc_ekept, od_ekept, .func (PySem.W.fnOf "kept" "kept" (defArgs s_ekept) (defBody s_ekept) (defScope s_ekept) .none kV_ekept dc_ekept pm_ekept an_ekept cd_ekept ct_ekept), sl_ekept⟩)
    (c_ekept : PySem.W.codeIn K cd_ekept "kept" = true)
    (k_ekept : PySem.W.keepIn K (.ref f_ekept) = true)
    (a_is_part : PySem.W.nsIn K mainGlobals "is_part" = some (some (.ref f_is_part)))
    (l_is_part : K.lookup f_is_part = some ⟨oc_is_part, od_is_part, .func (PySem.W.fnOf "is_part" "is_part" (defArgs s_is_part) (defBody s_is_part) (defScope s_is_part) .none kV_is_part dc_is_part pm_is_part an_is_part cd_is_part ct_is_part), sl_is_part⟩)
    (c_is_part : PySem.W.codeIn K cd_is_part "is_part" = true)
    (k_is_part : PySem.W.keepIn K (.ref f_is_part) = true)
    (a_check_parts : PySem.W.nsIn K mainGlobals "check_parts" = some (some (.ref f_check_parts)))
    (l_check_parts : K.lookup f_check_parts = some ⟨oc_check_parts, od_check_parts, .func (PySem.W.fnOf "check_parts" "check_parts" (defArgs s_check_parts) (defBody s_check_parts) (defScope s_check_parts) .none kV_check_parts dc_check_parts pm_check_parts an_check_parts cd_check_parts ct_check_parts), sl_check_parts⟩)
    (c_check_parts : PySem.W.codeIn K cd_check_parts "check_parts" = true)
    (k_check_parts : PySem.W.keepIn K (.ref f_check_parts) = true)
    (a_has_plus : PySem.W.nsIn K mainGlobals "has_plus" = some (some (.ref f_has_plus)))
    (l_has_plus : K.lookup f_has_plus = some ⟨oc_has_plus, od_has_plus, .func (PySem.W.fnOf "has_plus" "has_plus" (defArgs s_has_plus) (defBody s_has_plus) (defScope s_has_plus) .none kV_has_plus dc_has_plus pm_has_plus an_has_plus cd_has_plus ct_has_plus), sl_has_plus⟩)
    (c_has_plus : PySem.W.codeIn K cd_has_plus "has_plus" = true)
    (k_has_plus : PySem.W.keepIn K (.ref f_has_plus) = true)
    (a_part_places : PySem.W.nsIn K mainGlobals "part_places" = some (some (.ref f_part_places)))
    (l_part_places : K.lookup f_part_places = some ⟨oc_part_places, od_part_places, .func (PySem.W.fnOf "part_places" "part_places" (defArgs s_part_places) (defBody s_part_places) (defScope s_part_places) .none kV_part_places dc_part_places pm_part_places an_part_places cd_part_places ct_part_places), sl_part_places⟩)
    (c_part_places : PySem.W.codeIn K cd_part_places "part_places" = true)
    (k_part_places : PySem.W.keepIn K (.ref f_part_places) = true)
    (a_kept_places : PySem.W.nsIn K mainGlobals "kept_places" = some (some (.ref f_kept_places)))
    (l_kept_places : K.lookup f_kept_places = some ⟨oc_kept_places, od_kept_places, .func (PySem.W.fnOf "kept_places" "kept_places" (defArgs s_kept_places) (defBody s_kept_places) (defScope s_kept_places) .none kV_kept_places dc_kept_places pm_kept_places an_kept_places cd_kept_places ct_kept_places), sl_kept_places⟩)
    (c_kept_places : PySem.W.codeIn K cd_kept_places "kept_places" = true)
    (k_kept_places : PySem.W.keepIn K (.ref f_kept_places) = true)
    (a_table_of : PySem.W.nsIn K mainGlobals "table_of" = some (some (.ref f_table_of)))
    (l_table_of : K.lookup f_table_of = some ⟨oc_table_of, od_table_of, .func (PySem.W.fnOf "table_of" "table_of" (defArgs s_table_of) (defBody s_table_of) (defScope s_table_of) .none kV_table_of dc_table_of pm_table_of an_table_of cd_table_of ct_table_of), sl_table_of⟩)
    (c_table_of : PySem.W.codeIn K cd_table_of "table_of" = true)
    (k_table_of : PySem.W.keepIn K (.ref f_table_of) = true)
    (a_keep_all : PySem.W.nsIn K mainGlobals "keep_all" = some (some (.ref f_keep_all)))
    (l_keep_all : K.lookup f_keep_all = some ⟨oc_keep_all, od_keep_all, .func (PySem.W.fnOf "keep_all" "keep_all" (defArgs s_keep_all) (defBody s_keep_all) (defScope s_keep_all) .none kV_keep_all dc_keep_all pm_keep_all an_keep_all cd_keep_all ct_keep_all), sl_keep_all⟩)
    (c_keep_all : PySem.W.codeIn K cd_keep_all "keep_all" = true)
    (k_keep_all : PySem.W.keepIn K (.ref f_keep_all) = true)
    (a_check_cutter : PySem.W.nsIn K mainGlobals "check_cutter" = some (some (.ref f_check_cutter)))
    (l_check_cutter : K.lookup f_check_cutter = some ⟨oc_check_cutter, od_check_cutter, .func (PySem.W.fnOf "check_cutter" "check_cutter" (defArgs s_check_cutter) (defBody s_check_cutter) (defScope s_check_cutter) .none kV_check_cutter dc_check_cutter pm_check_cutter an_check_cutter cd_check_cutter ct_check_cutter), sl_check_cutter⟩)
    (c_check_cutter : PySem.W.codeIn K cd_check_cutter "check_cutter" = true)
    (k_check_cutter : PySem.W.keepIn K (.ref f_check_cutter) = true)
    (a_dice : PySem.W.nsIn K mainGlobals "_law_dice" = some (some (.ref f_dice)))
    (l_dice : K.lookup f_dice = some ⟨oc_dice, od_dice, .func (PySem.W.fnOf "_law_dice" "_law_dice" (defArgs s_dice) (defBody s_dice) (defScope s_dice) .none kV_dice dc_dice pm_dice an_dice cd_dice ct_dice), sl_dice⟩)
    (c_dice : PySem.W.codeIn K cd_dice "_law_dice" = true)
    (k_dice : PySem.W.keepIn K (.ref f_dice) = true)
    (a_roll : PySem.W.nsIn K mainGlobals "_law_roll" = some (some (.ref f_roll)))
    (l_roll : K.lookup f_roll = some ⟨oc_roll, od_roll, .func (PySem.W.fnOf "_law_roll" "_law_roll" (defArgs s_roll) (defBody s_roll) (defScope s_roll) .none kV_roll dc_roll pm_roll an_roll cd_roll ct_roll), sl_roll⟩)
    (c_roll : PySem.W.codeIn K cd_roll "_law_roll" = true)
    (k_roll : PySem.W.keepIn K (.ref f_roll) = true)
    (a_one_of : PySem.W.nsIn K mainGlobals "_law_one_of" = some (some (.ref f_one_of)))
    (l_one_of : K.lookup f_one_of = some ⟨oc_one_of, od_one_of, .func (PySem.W.fnOf "_law_one_of" "_law_one_of" (defArgs s_one_of) (defBody s_one_of) (defScope s_one_of) .none kV_one_of dc_one_of pm_one_of an_one_of cd_one_of ct_one_of), sl_one_of⟩)
    (c_one_of : PySem.W.codeIn K cd_one_of "_law_one_of" = true)
    (k_one_of : PySem.W.keepIn K (.ref f_one_of) = true)
    (a_signs : PySem.W.nsIn K mainGlobals "_law_signs" = some (some (.ref f_signs)))
    (l_signs : K.lookup f_signs = some ⟨oc_signs, od_signs, .func (PySem.W.fnOf "_law_signs" "_law_signs" (defArgs s_signs) (defBody s_signs) (defScope s_signs) .none kV_signs dc_signs pm_signs an_signs cd_signs ct_signs), sl_signs⟩)
    (c_signs : PySem.W.codeIn K cd_signs "_law_signs" = true)
    (k_signs : PySem.W.keepIn K (.ref f_signs) = true)
    (a_part : PySem.W.nsIn K mainGlobals "_law_part" = some (some (.ref f_part)))
    (l_part : K.lookup f_part = some ⟨oc_part, od_part, .func (PySem.W.fnOf "_law_part" "_law_part" (defArgs s_part) (defBody s_part) (defScope s_part) .none kV_part dc_part pm_part an_part cd_part ct_part), sl_part⟩)
    (c_part : PySem.W.codeIn K cd_part "_law_part" = true)
    (k_part : PySem.W.keepIn K (.ref f_part) = true)
    (a_lparts : PySem.W.nsIn K mainGlobals "_law_parts" = some (some (.ref f_lparts)))
    (l_lparts : K.lookup f_lparts = some ⟨oc_lparts, od_lparts, .func (PySem.W.fnOf "_law_parts" "_law_parts" (defArgs s_lparts) (defBody s_lparts) (defScope s_lparts) .none kV_lparts dc_lparts pm_lparts an_lparts cd_lparts ct_lparts), sl_lparts⟩)
    (c_lparts : PySem.W.codeIn K cd_lparts "_law_parts" = true)
    (k_lparts : PySem.W.keepIn K (.ref f_lparts) = true)
    (a_kept : PySem.W.nsIn K mainGlobals "_law_kept" = some (some (.ref f_kept)))
    (l_kept : K.lookup f_kept = some ⟨oc_kept, od_kept, .func (PySem.W.fnOf "_law_kept" "_law_kept" (defArgs s_kept) (defBody s_kept) (defScope s_kept) .none kV_kept dc_kept pm_kept an_kept cd_kept ct_kept), sl_kept⟩)
    (c_kept : PySem.W.codeIn K cd_kept "_law_kept" = true)
    (k_kept : PySem.W.keepIn K (.ref f_kept) = true)
    (a_joined : PySem.W.nsIn K mainGlobals "_law_joined" = some (some (.ref f_joined)))
    (l_joined : K.lookup f_joined = some ⟨oc_joined, od_joined, .func (PySem.W.fnOf "_law_joined" "_law_joined" (defArgs s_joined) (defBody s_joined) (defScope s_joined) .none kV_joined dc_joined pm_joined an_joined cd_joined ct_joined), sl_joined⟩)
    (c_joined : PySem.W.codeIn K cd_joined "_law_joined" = true)
    (k_joined : PySem.W.keepIn K (.ref f_joined) = true)
    (a_is : PySem.W.nsIn K mainGlobals "_law_is" = some (some (.ref f_is)))
    (l_is : K.lookup f_is = some ⟨oc_is, od_is, .func (PySem.W.fnOf "_law_is" "_law_is" (defArgs s_is) (defBody s_is) (defScope s_is) .none kV_is dc_is pm_is an_is cd_is ct_is), sl_is⟩)
    (c_is : PySem.W.codeIn K cd_is "_law_is" = true)
    (k_is : PySem.W.keepIn K (.ref f_is) = true)
    (a_pair : PySem.W.nsIn K mainGlobals "_law_pair_right" = some (some (.ref f_pair)))
    (l_pair : K.lookup f_pair = some ⟨oc_pair, od_pair, .func (PySem.W.fnOf "_law_pair_right" "_law_pair_right" (defArgs s_pair) (defBody s_pair) (defScope s_pair) .none kV_pair dc_pair pm_pair an_pair cd_pair ct_pair), sl_pair⟩)
    (c_pair : PySem.W.codeIn K cd_pair "_law_pair_right" = true)
    (k_pair : PySem.W.keepIn K (.ref f_pair) = true)
    (a_right : PySem.W.nsIn K mainGlobals "_law_right" = some (some (.ref f_right)))
    (l_right : K.lookup f_right = some ⟨oc_right, od_right, .func (PySem.W.fnOf "_law_right" "_law_right" (defArgs s_right) (defBody s_right) (defScope s_right) .none kV_right dc_right pm_right an_right cd_right ct_right), sl_right⟩)
    (c_right : PySem.W.codeIn K cd_right "_law_right" = true)
    (k_right : PySem.W.keepIn K (.ref f_right) = true)
    (a_law : PySem.W.nsIn K mainGlobals "law" = some (some (.ref f_law)))
    (l_law : K.lookup f_law = some ⟨oc_law, od_law, .func (PySem.W.fnOf "law" "law" (defArgs s_law) (defBody s_law) (defScope s_law) .none kV_law dc_law pm_law an_law cd_law ct_law), sl_law⟩)
    (c_law : PySem.W.codeIn K cd_law "law" = true)
    (k_law : PySem.W.keepIn K (.ref f_law) = true)
    (aC : PySem.W.nsIn K mainGlobals "Cutter" = some (some (.ref C)))
    (C1 : PySem.W.makesIn K C = true)
    (C2 : PySem.W.keepIn K (.ref C) = true)
    (C3 : PySem.W.plainGet K C Str.empty = true)
    (C4 : PySem.W.hasDictIn K C = true)
    (C5 : PySem.W.plainOver K C = true)
    (C6 : PySem.W.findIn K (.ref C) "__setattr__" = some (some (.builtin "object.__setattr__")))
    (C_parts : PySem.W.findIn K (.ref C) "_parts" = some none)
    (C_table : PySem.W.findIn K (.ref C) "_table" = some none)
    (C_keeps_all : PySem.W.findIn K (.ref C) "_keeps_all" = some none)
    (C9 : PySem.W.findIn K (.ref C) "__class__" = some (some (.builtin "object.__class__")))
    (C10 : PySem.W.specialIn K (.builtin "object.__class__") "__get__" = some (some (.builtin "getset_descriptor.__get__")))
    (C11 : PySem.W.takesIn K (.builtin "object.__class__") = some true)
    (C12 : PySem.W.mroIn K C (.type "object") = some true)
    (C13 : PySem.W.findIn K (.ref C) "__ne__" = some (some (.builtin "object.__ne__")))
    (C16 : PySem.W.isClsIn K C = true)
    (C17 : PySem.W.typeIn K (.ref C) = some (.type "type"))
    (C14 : PySem.W.readsIn K C (.type "type") = true)
    (C15 : PySem.W.specialIn K (.ref C) "__getattribute__" = some (some (.builtin "type.__getattribute__")))
    (C18 : PySem.W.selfFirst K C = true)
    (t_init : PySem.W.findIn K (.ref C) "__init__" = some (some (.ref f_init)))
    (n_init : PySem.W.isFn K (.ref f_init) = true)
    (l_init : K.lookup f_init = some ⟨oc_init, od_init, .func (PySem.W.fnOf "__init__" "Cutter.__init__" (defArgs s_init) (defBody s_init) (defScope s_init) .none kV_init dc_init pm_init an_init cd_init ct_init), sl_init⟩)
    (c_init : PySem.W.codeIn K cd_init "Cutter.__init__" = true)
    (k_init : PySem.W.keepIn K (.ref f_init) = true)
    (t_of : PySem.W.findCls K (.ref C) (.type "type") "of" = some (.get (.builtin "classmethod.__get__") (.ref p_of) .none (.ref C)))
    (r_of : PySem.W.recIn K p_of "classmethod" = some (.ref f_of :: rest_of))
    (i_of : PySem.W.fnIn K f_of = true)
    (l_of : K.lookup f_of = some ⟨oc_of, od_of, .func (PySem.W.fnOf "of" "Cutter.of" (defArgs s_of) (defBody s_of) (defScope s_of) .none kV_of dc_of pm_of an_of cd_of ct_of), sl_of⟩)
    (c_of : PySem.W.codeIn K cd_of "Cutter.of" = true)
    (k_of : PySem.W.keepIn K (.ref f_of) = true)
    (t_parts : PySem.W.findIn K (.ref C) "parts" = some (some (.ref p_parts)))
    (g_parts : PySem.W.specialIn K (.ref p_parts) "__get__" = some (some (.builtin "property.__get__")))
    (u_parts : PySem.W.takesIn K (.ref p_parts) = some true)
    (r_parts : PySem.W.recIn K p_parts "property" = some (.ref f_parts :: rest_parts))
    (l_parts : K.lookup f_parts = some ⟨oc_parts, od_parts, .func (PySem.W.fnOf "parts" "Cutter.parts" (defArgs s_parts) (defBody s_parts) (defScope s_parts) .none kV_parts dc_parts pm_parts an_parts cd_parts ct_parts), sl_parts⟩)
    (c_parts : PySem.W.codeIn K cd_parts "Cutter.parts" = true)
    (k_parts : PySem.W.keepIn K (.ref f_parts) = true)
    (t_keeps_all : PySem.W.findIn K (.ref C) "keeps_all" = some (some (.ref p_keeps_all)))
    (g_keeps_all : PySem.W.specialIn K (.ref p_keeps_all) "__get__" = some (some (.builtin "property.__get__")))
    (u_keeps_all : PySem.W.takesIn K (.ref p_keeps_all) = some true)
    (r_keeps_all : PySem.W.recIn K p_keeps_all "property" = some (.ref f_keeps_all :: rest_keeps_all))
    (l_keeps_all : K.lookup f_keeps_all = some ⟨oc_keeps_all, od_keeps_all, .func (PySem.W.fnOf "keeps_all" "Cutter.keeps_all" (defArgs s_keeps_all) (defBody s_keeps_all) (defScope s_keeps_all) .none kV_keeps_all dc_keeps_all pm_keeps_all an_keeps_all cd_keeps_all ct_keeps_all), sl_keeps_all⟩)
    (c_keeps_all : PySem.W.codeIn K cd_keeps_all "Cutter.keeps_all" = true)
    (k_keeps_all : PySem.W.keepIn K (.ref f_keeps_all) = true)
    (t_callc : PySem.W.findIn K (.ref C) "__call__" = some (some (.ref f_callc)))
    (n_callc : PySem.W.isFn K (.ref f_callc) = true)
    (i_callc : PySem.W.fnIn K f_callc = true)
    (l_callc : K.lookup f_callc = some ⟨oc_callc, od_callc, .func (PySem.W.fnOf "__call__" "Cutter.__call__" (defArgs s_callc) (defBody s_callc) (defScope s_callc) .none kV_callc dc_callc pm_callc an_callc cd_callc ct_callc), sl_callc⟩)
    (c_callc : PySem.W.codeIn K cd_callc "Cutter.__call__" = true)
    (k_callc : PySem.W.keepIn K (.ref f_callc) = true)
    (t_places : PySem.W.findIn K (.ref C) "places" = some (some (.ref f_places)))
    (n_places : PySem.W.isFn K (.ref f_places) = true)
    (l_places : K.lookup f_places = some ⟨oc_places, od_places, .func (PySem.W.fnOf "places" "Cutter.places" (defArgs s_places) (defBody s_places) (defScope s_places) .none kV_places dc_places pm_places an_places cd_places ct_places), sl_places⟩)
    (c_places : PySem.W.codeIn K cd_places "Cutter.places" = true)
    (k_places : PySem.W.keepIn K (.ref f_places) = true)
    (t_rshift : PySem.W.findIn K (.ref C) "__rshift__" = some (some (.ref f_rshift)))
    (n_rshift : PySem.W.isFn K (.ref f_rshift) = true)
    (l_rshift : K.lookup f_rshift = some ⟨oc_rshift, od_rshift, .func (PySem.W.fnOf "__rshift__" "Cutter.__rshift__" (defArgs s_rshift) (defBody s_rshift) (defScope s_rshift) .none kV_rshift dc_rshift pm_rshift an_rshift cd_rshift ct_rshift), sl_rshift⟩)
    (c_rshift : PySem.W.codeIn K cd_rshift "Cutter.__rshift__" = true)
    (k_rshift : PySem.W.keepIn K (.ref f_rshift) = true)
    (t_within : PySem.W.findIn K (.ref C) "is_within" = some (some (.ref f_within)))
    (n_within : PySem.W.isFn K (.ref f_within) = true)
    (l_within : K.lookup f_within = some ⟨oc_within, od_within, .func (PySem.W.fnOf "is_within" "Cutter.is_within" (defArgs s_within) (defBody s_within) (defScope s_within) .none kV_within dc_within pm_within an_within cd_within ct_within), sl_within⟩)
    (c_within : PySem.W.codeIn K cd_within "Cutter.is_within" = true)
    (k_within : PySem.W.keepIn K (.ref f_within) = true)
    (t_lenc : PySem.W.findIn K (.ref C) "__len__" = some (some (.ref f_lenc)))
    (n_lenc : PySem.W.isFn K (.ref f_lenc) = true)
    (l_lenc : K.lookup f_lenc = some ⟨oc_lenc, od_lenc, .func (PySem.W.fnOf "__len__" "Cutter.__len__" (defArgs s_lenc) (defBody s_lenc) (defScope s_lenc) .none kV_lenc dc_lenc pm_lenc an_lenc cd_lenc ct_lenc), sl_lenc⟩)
    (c_lenc : PySem.W.codeIn K cd_lenc "Cutter.__len__" = true)
    (k_lenc : PySem.W.keepIn K (.ref f_lenc) = true)
    (t_eqc : PySem.W.findIn K (.ref C) "__eq__" = some (some (.ref f_eqc)))
    (n_eqc : PySem.W.isFn K (.ref f_eqc) = true)
    (l_eqc : K.lookup f_eqc = some ⟨oc_eqc, od_eqc, .func (PySem.W.fnOf "__eq__" "Cutter.__eq__" (defArgs s_eqc) (defBody s_eqc) (defScope s_eqc) .none kV_eqc dc_eqc pm_eqc an_eqc cd_eqc ct_eqc), sl_eqc⟩)
    (c_eqc : PySem.W.codeIn K cd_eqc "Cutter.__eq__" = true)
    (k_eqc : PySem.W.keepIn K (.ref f_eqc) = true)
    (t_strc : PySem.W.findIn K (.ref C) "__str__" = some (some (.ref f_strc)))
    (n_strc : PySem.W.isFn K (.ref f_strc) = true)
    (l_strc : K.lookup f_strc = some ⟨oc_strc, od_strc, .func (PySem.W.fnOf "__str__" "Cutter.__str__" (defArgs s_strc) (defBody s_strc) (defScope s_strc) .none kV_strc dc_strc pm_strc an_strc cd_strc ct_strc), sl_strc⟩)
    (c_strc : PySem.W.codeIn K cd_strc "Cutter.__str__" = true)
    (k_strc : PySem.W.keepIn K (.ref f_strc) = true)
    (aT : PySem.W.nsIn K mainGlobals "TooMany" = some (some (.ref T)))
    (Tl : K.lookup T = some (excClassObj nmT qT T NT bsT bmO true snT subT abT colT ddT x0T x1T x2T x3T x5T "OverflowError.__new__"))
    (Tsa : PySem.W.findIn K (.ref T) "__setattr__" = some (some (.builtin "object.__setattr__")))
    (Tex : PySem.W.subIn K (.ref T) (.type "BaseException") = some true)
    (Tty : PySem.W.typeIn K (.ref T) = some (.type "type"))
    (Tk : PySem.W.keepIn K (.ref T) = true)
    (Tga : PySem.W.findIn K (.ref T) "__getattribute__" = some (some (.builtin "BaseException.__getattribute__")))
    (Tgg : PySem.W.findIn K (.ref T) "__getattr__" = some none)
    (Thd : PySem.W.hasDictIn K T = true)
    (Tic : PySem.W.isClsIn K T = true)
    (Tss : PySem.W.subIn K (.ref T) (.ref T) = some true)
    (Tflimit : PySem.W.findIn K (.ref T) "limit" = some none)
    (Ti : PySem.W.findIn K (.ref T) "__init__" = some (some (.ref f_tinit)))
    (Tit : PySem.W.typeIn K (.ref f_tinit) = some (.type "function"))
    (l_tinit : K.lookup f_tinit = some ⟨oc_tinit, od_tinit, .func (PySem.W.fnOf "__init__" "TooMany.__init__" (defArgs s_tinit) (defBody s_tinit) (defScope s_tinit) .none kV_tinit dc_tinit pm_tinit an_tinit cd_tinit ct_tinit), sl_tinit⟩)
    (c_tinit : PySem.W.codeIn K cd_tinit "TooMany.__init__" = true)
    (k_tinit : PySem.W.keepIn K (.ref f_tinit) = true)
    (z_len : PySem.W.nsIn K mainGlobals "len" = some none)
    (z_int : PySem.W.nsIn K mainGlobals "int" = some none)
    (z_abs : PySem.W.nsIn K mainGlobals "abs" = some none)
    (z_max : PySem.W.nsIn K mainGlobals "max" = some none)
    (z_min : PySem.W.nsIn K mainGlobals "min" = some none)
    (z_range : PySem.W.nsIn K mainGlobals "range" = some none)
    (z_all : PySem.W.nsIn K mainGlobals "all" = some none)
    (z_isinstance : PySem.W.nsIn K mainGlobals "isinstance" = some none)
    (z_str : PySem.W.nsIn K mainGlobals "str" = some none)
    (z_repr : PySem.W.nsIn K mainGlobals "repr" = some none)
    (z_bool : PySem.W.nsIn K mainGlobals "bool" = some none)
    (z_list : PySem.W.nsIn K mainGlobals "list" = some none)
    (z_tuple : PySem.W.nsIn K mainGlobals "tuple" = some none)
    (z_enumerate : PySem.W.nsIn K mainGlobals "enumerate" = some none)
    (z_zip : PySem.W.nsIn K mainGlobals "zip" = some none)
    (z_dict : PySem.W.nsIn K mainGlobals "dict" = some none)
    (G_MAX_PARTS : PySem.W.nsIn K mainGlobals "MAX_PARTS" = some (some (.int 4 t_MAX_PARTS)))
    (G_MAX_ROW : PySem.W.nsIn K mainGlobals "MAX_ROW" = some (some (.int 1000 t_MAX_ROW)))
    (G_KEEP_ALL : PySem.W.nsIn K mainGlobals "KEEP_ALL" = some (some (.str "all" t_KEEP_ALL)))
    (G_DOTS : PySem.W.nsIn K mainGlobals "DOTS" = some (some (.str ".." t_DOTS)))
    (G_MAX_FRONT : PySem.W.nsIn K mainGlobals "MAX_FRONT" = some (some (.int 2 t_MAX_FRONT)))
    (G_MAX_BACK : PySem.W.nsIn K mainGlobals "MAX_BACK" = some (some (.int 3 t_MAX_BACK)))
    (G_REACH : PySem.W.nsIn K mainGlobals "REACH" = some (some (.int 5 t_REACH))) :
    ∀ base : Heap, K.In base → base.Ns mainGlobals mg → FnG l.prog w K mg base CX0 11 fa (spLaw K) := by
  have e := hfa.symm.trans (PySem.W.mg_of X G a_law)
  cases e
  have Z : Zs mg := ⟨PySem.W.mg_none_of X G z_len, PySem.W.mg_none_of X G z_int, PySem.W.mg_none_of X G z_abs, PySem.W.mg_none_of X G z_max, PySem.W.mg_none_of X G z_min, PySem.W.mg_none_of X G z_range, PySem.W.mg_none_of X G z_all, PySem.W.mg_none_of X G z_isinstance, PySem.W.mg_none_of X G z_str, PySem.W.mg_none_of X G z_repr, PySem.W.mg_none_of X G z_bool, PySem.W.mg_none_of X G z_list, PySem.W.mg_none_of X G z_tuple, PySem.W.mg_none_of X G z_enumerate, PySem.W.mg_none_of X G z_zip, PySem.W.mg_none_of X G z_dict, ⟨_, PySem.W.mg_of X G G_MAX_PARTS⟩, ⟨_, PySem.W.mg_of X G G_MAX_ROW⟩, ⟨_, PySem.W.mg_of X G G_KEEP_ALL⟩, ⟨_, PySem.W.mg_of X G G_DOTS⟩, ⟨_, PySem.W.mg_of X G G_MAX_FRONT⟩, ⟨_, PySem.W.mg_of X G G_MAX_BACK⟩, ⟨_, PySem.W.mg_of X G G_REACH⟩⟩
  have F_is_whole := fun_mk (st := s_is_whole) l_is_whole c_is_whole k_is_whole
  have D_is_whole : Df K mg "is_whole" s_is_whole P_is_whole f_is_whole _ := ⟨F_is_whole, F_is_whole.binds (ps := P_is_whole) fun _ _ _ _ _ _ us hl => match us, hl with | [_], _ => rfl, PySem.W.mg_of X G a_is_whole⟩
  have F_ekept := fun_mk (st := s_ekept) l_ekept c_ekept k_ekept
  have D_ekept : Df K mg "kept" s_ekept P_ekept f_ekept _ := ⟨F_ekept, F_ekept.binds (ps := P_ekept) fun _ _ _ _ _ _ us hl => match us, hl with | [_], _ => rfl, PySem.W.mg_of X G a_ekept⟩
  have F_is_part := fun_mk (st := s_is_part) l_is_part c_is_part k_is_part
  have D_is_part : Df K mg "is_part" s_is_part P_is_part f_is_part _ := ⟨F_is_part, F_is_part.binds (ps := P_is_part) fun _ _ _ _ _ _ us hl => match us, hl with | [_], _ => rfl, PySem.W.mg_of X G a_is_part⟩
  have F_check_parts := fun_mk (st := s_check_parts) l_check_parts c_check_parts k_check_parts
  have D_check_parts : Df K mg "check_parts" s_check_parts P_check_parts f_check_parts _ := ⟨F_check_parts, F_check_parts.binds (ps := P_check_parts) fun _ _ _ _ _ _ us hl => match us, hl with | [_], _ => rfl, PySem.W.mg_of X G a_check_parts⟩
  have F_has_plus := fun_mk (st := s_has_plus) l_has_plus c_has_plus k_has_plus
  have D_has_plus : Df K mg "has_plus" s_has_plus P_has_plus f_has_plus _ := ⟨F_has_plus, F_has_plus.binds (ps := P_has_plus) fun _ _ _ _ _ _ us hl => match us, hl with | [_, _], _ => rfl, PySem.W.mg_of X G a_has_plus⟩
  have F_part_places := fun_mk (st := s_part_places) l_part_places c_part_places k_part_places
  have D_part_places : Df K mg "part_places" s_part_places P_part_places f_part_places _ := ⟨F_part_places, F_part_places.binds (ps := P_part_places) fun _ _ _ _ _ _ us hl => match us, hl with | [_, _], _ => rfl, PySem.W.mg_of X G a_part_places⟩
  have F_kept_places := fun_mk (st := s_kept_places) l_kept_places c_kept_places k_kept_places
  have D_kept_places : Df K mg "kept_places" s_kept_places P_kept_places f_kept_places _ := ⟨F_kept_places, F_kept_places.binds (ps := P_kept_places) fun _ _ _ _ _ _ us hl => match us, hl with | [_, _], _ => rfl, PySem.W.mg_of X G a_kept_places⟩
  have F_table_of := fun_mk (st := s_table_of) l_table_of c_table_of k_table_of
  have D_table_of : Df K mg "table_of" s_table_of P_table_of f_table_of _ := ⟨F_table_of, F_table_of.binds (ps := P_table_of) fun _ _ _ _ _ _ us hl => match us, hl with | [_], _ => rfl, PySem.W.mg_of X G a_table_of⟩
  have F_keep_all := fun_mk (st := s_keep_all) l_keep_all c_keep_all k_keep_all
  have D_keep_all : Df K mg "keep_all" s_keep_all P_keep_all f_keep_all _ := ⟨F_keep_all, F_keep_all.binds (ps := P_keep_all) fun _ _ _ _ _ _ us hl => match us, hl with | [_], _ => rfl, PySem.W.mg_of X G a_keep_all⟩
  have F_check_cutter := fun_mk (st := s_check_cutter) l_check_cutter c_check_cutter k_check_cutter
  have D_check_cutter : Df K mg "check_cutter" s_check_cutter P_check_cutter f_check_cutter _ := ⟨F_check_cutter, F_check_cutter.binds (ps := P_check_cutter) fun _ _ _ _ _ _ us hl => match us, hl with | [_], _ => rfl, PySem.W.mg_of X G a_check_cutter⟩
  have F_dice := fun_mk (st := s_dice) l_dice c_dice k_dice
  have D_dice : Df K mg "_law_dice" s_dice P_dice f_dice _ := ⟨F_dice, F_dice.binds (ps := P_dice) fun _ _ _ _ _ _ us hl => match us, hl with | [_, _], _ => rfl, PySem.W.mg_of X G a_dice⟩
  have F_roll := fun_mk (st := s_roll) l_roll c_roll k_roll
  have D_roll : Df K mg "_law_roll" s_roll P_roll f_roll _ := ⟨F_roll, F_roll.binds (ps := P_roll) fun _ _ _ _ _ _ us hl => match us, hl with | [_, _], _ => rfl, PySem.W.mg_of X G a_roll⟩
  have F_one_of := fun_mk (st := s_one_of) l_one_of c_one_of k_one_of
  have D_one_of : Df K mg "_law_one_of" s_one_of P_one_of f_one_of _ := ⟨F_one_of, F_one_of.binds (ps := P_one_of) fun _ _ _ _ _ _ us hl => match us, hl with | [_, _], _ => rfl, PySem.W.mg_of X G a_one_of⟩
  have F_signs := fun_mk (st := s_signs) l_signs c_signs k_signs
  have D_signs : Df K mg "_law_signs" s_signs P_signs f_signs _ := ⟨F_signs, F_signs.binds (ps := P_signs) fun _ _ _ _ _ _ us hl => match us, hl with | [_, _], _ => rfl, PySem.W.mg_of X G a_signs⟩
  have F_part := fun_mk (st := s_part) l_part c_part k_part
  have D_part : Df K mg "_law_part" s_part P_part f_part _ := ⟨F_part, F_part.binds (ps := P_part) fun _ _ _ _ _ _ us hl => match us, hl with | [_], _ => rfl, PySem.W.mg_of X G a_part⟩
  have F_lparts := fun_mk (st := s_lparts) l_lparts c_lparts k_lparts
  have D_lparts : Df K mg "_law_parts" s_lparts P_lparts f_lparts _ := ⟨F_lparts, F_lparts.binds (ps := P_lparts) fun _ _ _ _ _ _ us hl => match us, hl with | [_, _], _ => rfl, PySem.W.mg_of X G a_lparts⟩
  have F_kept := fun_mk (st := s_kept) l_kept c_kept k_kept
  have D_kept : Df K mg "_law_kept" s_kept P_kept f_kept _ := ⟨F_kept, F_kept.binds (ps := P_kept) fun _ _ _ _ _ _ us hl => match us, hl with | [_, _], _ => rfl, PySem.W.mg_of X G a_kept⟩
  have F_joined := fun_mk (st := s_joined) l_joined c_joined k_joined
  have D_joined : Df K mg "_law_joined" s_joined P_joined f_joined _ := ⟨F_joined, F_joined.binds (ps := P_joined) fun _ _ _ _ _ _ us hl => match us, hl with | [_, _], _ => rfl, PySem.W.mg_of X G a_joined⟩
  have F_is := fun_mk (st := s_is) l_is c_is k_is
  have D_is : Df K mg "_law_is" s_is P_is f_is _ := ⟨F_is, F_is.binds (ps := P_is) fun _ _ _ _ _ _ us hl => match us, hl with | [_, _], _ => rfl, PySem.W.mg_of X G a_is⟩
  have F_pair := fun_mk (st := s_pair) l_pair c_pair k_pair
  have D_pair : Df K mg "_law_pair_right" s_pair P_pair f_pair _ := ⟨F_pair, F_pair.binds (ps := P_pair) fun _ _ _ _ _ _ us hl => match us, hl with | [_, _, _, _], _ => rfl, PySem.W.mg_of X G a_pair⟩
  have F_right := fun_mk (st := s_right) l_right c_right k_right
  have D_right : Df K mg "_law_right" s_right P_right f_right _ := ⟨F_right, F_right.binds (ps := P_right) fun _ _ _ _ _ _ us hl => match us, hl with | [_], _ => rfl, PySem.W.mg_of X G a_right⟩
  have F_law := fun_mk (st := s_law) l_law c_law k_law
  have D_law : Df K mg "law" s_law P_law fa _ := ⟨F_law, F_law.binds (ps := P_law) fun _ _ _ _ _ _ us hl => match us, hl with | [_], _ => rfl, PySem.W.mg_of X G a_law⟩
  have F_init := fun_mk (st := s_init) l_init c_init k_init
  have F_of := fun_mk (st := s_of) l_of c_of k_of
  have D_of : Dm K "of" "Cutter.of" s_of P_of f_of _ := ⟨F_of, F_of.binds (ps := P_of) fun _ _ _ _ _ _ us hl => match us, hl with | [_, _], _ => rfl⟩
  have F_parts := fun_mk (st := s_parts) l_parts c_parts k_parts
  have D_parts : Dm K "parts" "Cutter.parts" s_parts P_parts f_parts _ := ⟨F_parts, F_parts.binds (ps := P_parts) fun _ _ _ _ _ _ us hl => match us, hl with | [_], _ => rfl⟩
  have F_keeps_all := fun_mk (st := s_keeps_all) l_keeps_all c_keeps_all k_keeps_all
  have D_keeps_all : Dm K "keeps_all" "Cutter.keeps_all" s_keeps_all P_keeps_all f_keeps_all _ := ⟨F_keeps_all, F_keeps_all.binds (ps := P_keeps_all) fun _ _ _ _ _ _ us hl => match us, hl with | [_], _ => rfl⟩
  have F_callc := fun_mk (st := s_callc) l_callc c_callc k_callc
  have D_callc : Dm K "__call__" "Cutter.__call__" s_callc P_callc f_callc _ := ⟨F_callc, F_callc.binds (ps := P_callc) fun _ _ _ _ _ _ us hl => match us, hl with | [_, _], _ => rfl⟩
  have F_places := fun_mk (st := s_places) l_places c_places k_places
  have D_places : Dm K "places" "Cutter.places" s_places P_places f_places _ := ⟨F_places, F_places.binds (ps := P_places) fun _ _ _ _ _ _ us hl => match us, hl with | [_, _], _ => rfl⟩
  have F_rshift := fun_mk (st := s_rshift) l_rshift c_rshift k_rshift
  have D_rshift : Dm K "__rshift__" "Cutter.__rshift__" s_rshift P_rshift f_rshift _ := ⟨F_rshift, F_rshift.binds (ps := P_rshift) fun _ _ _ _ _ _ us hl => match us, hl with | [_, _], _ => rfl⟩
  have F_within := fun_mk (st := s_within) l_within c_within k_within
  have D_within : Dm K "is_within" "Cutter.is_within" s_within P_within f_within _ := ⟨F_within, F_within.binds (ps := P_within) fun _ _ _ _ _ _ us hl => match us, hl with | [_, _], _ => rfl⟩
  have F_lenc := fun_mk (st := s_lenc) l_lenc c_lenc k_lenc
  have D_lenc : Dm K "__len__" "Cutter.__len__" s_lenc P_lenc f_lenc _ := ⟨F_lenc, F_lenc.binds (ps := P_lenc) fun _ _ _ _ _ _ us hl => match us, hl with | [_], _ => rfl⟩
  have F_eqc := fun_mk (st := s_eqc) l_eqc c_eqc k_eqc
  have D_eqc : Dm K "__eq__" "Cutter.__eq__" s_eqc P_eqc f_eqc _ := ⟨F_eqc, F_eqc.binds (ps := P_eqc) fun _ _ _ _ _ _ us hl => match us, hl with | [_, _], _ => rfl⟩
  have F_strc := fun_mk (st := s_strc) l_strc c_strc k_strc
  have D_strc : Dm K "__str__" "Cutter.__str__" s_strc P_strc f_strc _ := ⟨F_strc, F_strc.binds (ps := P_strc) fun _ _ _ _ _ _ us hl => match us, hl with | [_], _ => rfl⟩
  have F_tinit := fun_mk (st := s_tinit) l_tinit c_tinit k_tinit
  have D_tinit : Dm K "__init__" "TooMany.__init__" s_tinit P_tinit f_tinit _ := ⟨F_tinit, F_tinit.binds (ps := P_tinit) fun _ _ _ _ _ _ us hl => match us, hl with | [_, _], _ => rfl⟩
  intro base _ _
  have cl : Cls K C := ⟨C3, C4, C5, C6⟩
  have c : CK K C := ⟨cl, C_parts, C_table, C_keeps_all, C9, C10, C11, C12, if_pos (beq_self_eq_true _)⟩
  have hC : mg "Cutter" = some (.ref C) := PySem.W.mg_of X G aC
  have hT : mg "TooMany" = some (.ref T) := PySem.W.mg_of X G aT
  have OT : OexT K T := ⟨F.excBase_OverflowError, fun _ => rfl, by decide +kernel, ⟨_, _, _, _, _, _, _, _, _, _, _, _, _, _, Tl⟩, Tsa, Tex, Tty, Tk⟩
  have XT : XfC K T := ⟨Tga, Tgg, Tex, Thd⟩
  have C_whole := D_is_whole.cl (P := l.prog) (w := w) (base := base) (ok_whole Z D_is_whole)
  have C_plus := D_has_plus.cl (P := l.prog) (w := w) (base := base) (ok_plus Z D_has_plus)
  have C_pplaces := D_part_places.cl (P := l.prog) (w := w) (base := base) (ok_places Z D_part_places C_plus)
  have C_kplaces := D_kept_places.cl (P := l.prog) (w := w) (base := base) (ok_kept Z D_kept_places C_pplaces)
  have C_table' := D_table_of.cl (P := l.prog) (w := w) (base := base) (ok_table Z D_table_of C_kplaces)
  have C_ispart := D_is_part.cl (P := l.prog) (w := w) (base := base) (ok_is_part Z D_is_part)
  have C_check := D_check_parts.cl (P := l.prog) (w := w) (base := base) (ok_check Z D_check_parts C_ispart)
  have C_keepall := D_keep_all.cl (P := l.prog) (w := w) (base := base) (ok_keep_all Z D_keep_all)
  have FI := ok_init (base := base) (P := l.prog) (w := w) Z F_init c C_check C_table' C_keepall
  have M : Mk K C f_init := ⟨C1, t_init, n_init, C2⟩
  have M_parts : Cm l.prog w K mg base 1 f_parts _ P_parts (spParts C) := ⟨okm_parts Z D_parts c, D_parts.b⟩
  have M_keeps : Cm l.prog w K mg base 1 f_keeps_all _ P_keeps_all (spKeeps C) := ⟨okm_keeps_all Z D_keeps_all c, D_keeps_all.b⟩
  have pr_parts : PropOf K C "parts" p_parts f_parts := ⟨t_parts, g_parts, u_parts, _, r_parts⟩
  have pr_keeps : PropOf K C "keeps_all" p_keeps_all f_keeps_all := ⟨t_keeps_all, g_keeps_all, u_keeps_all, _, r_keeps_all⟩
  have M_places : Cm l.prog w K mg base 3 f_places _ P_places (spCutPlaces C) := ⟨okm_places Z D_places c C_whole pr_keeps M_keeps, D_places.b⟩
  have me_places : Meth K C "places" f_places := ⟨t_places, n_places, k_places⟩
  have F_call := D_callc.raw (okm_callc (P := l.prog) (w := w) (base := base) Z D_callc c me_places M_places)
  have cO : StX.CallO K C f_callc := ⟨t_callc, n_callc, i_callc⟩
  have F_len := D_lenc.raw (okm_lenc (P := l.prog) (w := w) (base := base) Z D_lenc c)
  have F_eq := D_eqc.raw (okm_eqc (P := l.prog) (w := w) (base := base) Z D_eqc c hC)
  have F_str := D_strc.raw (okm_strc (P := l.prog) (w := w) (base := base) Z D_strc c)
  have F_of := D_of.raw (okm_of (P := l.prog) (w := w) (base := base) Z D_of M FI)
  have C_chk := D_check_cutter.cl (P := l.prog) (w := w) (base := base) (ok_chk Z D_check_cutter c hC)
  have M_within : Cm l.prog w K mg base 2 f_within _ P_within (spWithin C) := ⟨okm_within Z D_within c C_chk, D_within.b⟩
  have me_within : Meth K C "is_within" f_within := ⟨t_within, n_within, k_within⟩
  have C_ekept := D_ekept.cl (P := l.prog) (w := w) (base := base) (ok_ekept Z D_ekept)
  have M_tinit : Cm l.prog w K mg base 2 f_tinit _ P_tinit (spMany T) := ⟨okm_tinit D_tinit OT Tflimit C_ekept, D_tinit.b⟩
  have F_shift := D_rshift.raw (okm_rshift (P := l.prog) (w := w) (base := base) Z D_rshift c hC C_chk M FI OT hT Ti Tit M_tinit)
  have C_roll := D_roll.cl (P := l.prog) (w := w) (base := base) (ok_roll Z D_roll)
  have C_one := D_one_of.cl (P := l.prog) (w := w) (base := base) (ok_oneL Z D_one_of C_roll)
  have C_signs := D_signs.cl (P := l.prog) (w := w) (base := base) (ok_signs Z D_signs C_roll C_one)
  have C_part := D_part.cl (P := l.prog) (w := w) (base := base) (ok_part Z D_part C_roll C_one C_signs)
  have C_parts' := D_lparts.cl (P := l.prog) (w := w) (base := base) (ok_lparts Z D_lparts C_one C_part)
  have C_kept : Cl l.prog w K mg base "_law_kept" 1 f_kept _ P_kept (spKeptB K) := D_kept.cl (Ly.or_ok (ok_lkept Z D_kept) (ok_lkept2 Z D_kept))
  have C_joined := D_joined.cl (ok_joined (P := l.prog) (w := w) (base := base) Z D_joined hT XT Tflimit (exm_own Tex Tic Tty Tss) t_rshift n_rshift C18 F_shift)
  have C_is := D_is.cl (ok_is Z D_is c C_kept pr_parts M_parts cO F_call me_places M_places ⟨t_lenc, n_lenc⟩ F_len)
  have C_pair := D_pair.cl (ok_pair Z D_pair c hC C_joined C_is pr_keeps M_keeps cO F_call me_within M_within)
  have C_right := D_right.cl (ok_right Z D_right c hC C_parts' C_is C_pair M FI ⟨C14, C15⟩ ⟨t_of, ⟨_, r_of⟩, i_of⟩ F_of ⟨t_eqc, n_eqc⟩ F_eq ⟨C13, C12⟩ pr_parts M_parts t_rshift n_rshift C18 F_shift)
  exact (ok_law Z D_law c hC (D_dice.cl (ok_dice Z D_dice)) C_right C_joined M FI ⟨t_eqc, n_eqc⟩ F_eq me_places M_places ⟨t_strc, n_strc⟩ F_str t_rshift n_rshift C18 F_shift).quiet D_law.b
end K04
open PySem PySem.W PyProof.Rows
set_option maxHeartbeats 0 in
theorem PySem.Challenge.cw_namedabove_k04_cutters_one_after_another_holds : PySem.Challenge.rw_namedabove_k04_cutters_one_after_another.Holds := by
  w_on; o_law; k_head; (case hw => w_witness2)
  k_fill
  refine Ly.walk_ofG (l := PySem.Challenge.rw_namedabove_k04_cutters_one_after_another) (n := 63) (k := 11) (sp := fun w => K04.spLaw _) rfl (by decide) rfl ⟨rfl, by decide, by decide⟩ (fun w h Y => PySem.W.kIn_of Y) ?F (fun _ _ a ns hl _ hS => ⟨a, ns, rfl, hS, hl, fun _ => rfl⟩)
  case F =>
    intro w mg fa h KX G hmg
    refine' K04.all_mk KX G hmg ?a_is_whole ?l_is_whole ?c_is_whole ?k_is_whole ?a_ekept ?l_ekept ?c_ekept ?k_ekept ?a_is_part ?l_is_part ?c_is_part ?k_is_part ?a_check_parts ?l_check_parts ?c_check_parts ?k_check_parts ?a_has_plus ?l_has_plus ?c_has_plus ?k_has_plus ?a_part_places ?l_part_places ?c_part_places ?k_part_places ?a_kept_places ?l_kept_places ?c_kept_places ?k_kept_places ?a_table_of ?l_table_of ?c_table_of ?k_table_of ?a_keep_all ?l_keep_all ?c_keep_all ?k_keep_all ?a_check_cutter ?l_check_cutter ?c_check_cutter ?k_check_cutter ?a_dice ?l_dice ?c_dice ?k_dice ?a_roll ?l_roll ?c_roll ?k_roll ?a_one_of ?l_one_of ?c_one_of ?k_one_of ?a_signs ?l_signs ?c_signs ?k_signs ?a_part ?l_part ?c_part ?k_part ?a_lparts ?l_lparts ?c_lparts ?k_lparts ?a_kept ?l_kept ?c_kept ?k_kept ?a_joined ?l_joined ?c_joined ?k_joined ?a_is ?l_is ?c_is ?k_is ?a_pair ?l_pair ?c_pair ?k_pair ?a_right ?l_right ?c_right ?k_right ?a_law ?l_law ?c_law ?k_law ?aC ?C1 ?C2 ?C3 ?C4 ?C5 ?C6 ?C_parts ?C_table ?C_keeps_all ?C9 ?C10 ?C11 ?C12 ?C13 ?C16 ?C17 ?C14 ?C15 ?C18 ?t_init ?n_init ?l_init ?c_init ?k_init ?t_of ?r_of ?i_of ?l_of ?c_of ?k_of ?t_parts ?g_parts ?u_parts ?r_parts ?l_parts ?c_parts ?k_parts ?t_keeps_all ?g_keeps_all ?u_keeps_all ?r_keeps_all ?l_keeps_all ?c_keeps_all ?k_keeps_all ?t_callc ?n_callc ?i_callc ?l_callc ?c_callc ?k_callc ?t_places ?n_places ?l_places ?c_places ?k_places ?t_rshift ?n_rshift ?l_rshift ?c_rshift ?k_rshift ?t_within ?n_within ?l_within ?c_within ?k_within ?t_lenc ?n_lenc ?l_lenc ?c_lenc ?k_lenc ?t_eqc ?n_eqc ?l_eqc ?c_eqc ?k_eqc ?t_strc ?n_strc ?l_strc ?c_strc ?k_strc ?aT ?Tl ?Tsa ?Tex ?Tty ?Tk ?Tga ?Tgg ?Thd ?Tic ?Tss ?Tflimit ?Ti ?Tit ?l_tinit ?c_tinit ?k_tinit ?z_len ?z_int ?z_abs ?z_max ?z_min ?z_range ?z_all ?z_isinstance ?z_str ?z_repr ?z_bool ?z_list ?z_tuple ?z_enumerate ?z_zip ?z_dict ?G_MAX_PARTS ?G_MAX_ROW ?G_KEEP_ALL ?G_DOTS ?G_MAX_FRONT ?G_MAX_BACK ?G_REACH
    (case a_is_whole => k_is); (case l_is_whole => k_is); (case c_is_whole => k_is); (case k_is_whole => k_is); (case a_ekept => k_is); (case l_ekept => k_is); (case c_ekept => k_is); (case k_ekept => k_is); (case a_is_part => k_is); (case l_is_part => k_is); (case c_is_part => k_is); (case k_is_part => k_is); (case a_check_parts => k_is); (case l_check_parts => k_is); (case c_check_parts => k_is); (case k_check_parts => k_is); (case a_has_plus => k_is); (case l_has_plus => k_is); (case c_has_plus => k_is); (case k_has_plus => k_is); (case a_part_places => k_is); (case l_part_places => k_is); (case c_part_places => k_is); (case k_part_places => k_is); (case a_kept_places => k_is); (case l_kept_places => k_is); (case c_kept_places => k_is); (case k_kept_places => k_is); (case a_table_of => k_is); (case l_table_of => k_is); (case c_table_of => k_is); (case k_table_of => k_is); (case a_keep_all => k_is); (case l_keep_all => k_is); (case c_keep_all => k_is); (case k_keep_all => k_is); (case a_check_cutter => k_is); (case l_check_cutter => k_is); (case c_check_cutter => k_is); (case k_check_cutter => k_is); (case a_dice => k_is); (case l_dice => k_is); (case c_dice => k_is); (case k_dice => k_is); (case a_roll => k_is); (case l_roll => k_is); (case c_roll => k_is); (case k_roll => k_is); (case a_one_of => k_is); (case l_one_of => k_is); (case c_one_of => k_is); (case k_one_of => k_is); (case a_signs => k_is); (case l_signs => k_is); (case c_signs => k_is); (case k_signs => k_is); (case a_part => k_is); (case l_part => k_is); (case c_part => k_is); (case k_part => k_is); (case a_lparts => k_is); (case l_lparts => k_is); (case c_lparts => k_is); (case k_lparts => k_is); (case a_kept => k_is); (case l_kept => k_is); (case c_kept => k_is); (case k_kept => k_is); (case a_joined => k_is); (case l_joined => k_is); (case c_joined => k_is); (case k_joined => k_is); (case a_is => k_is); (case l_is => k_is); (case c_is => k_is); (case k_is => k_is); (case a_pair => k_is); (case l_pair => k_is); (case c_pair => k_is); (case k_pair => k_is); (case a_right => k_is); (case l_right => k_is); (case c_right => k_is); (case k_right => k_is); (case a_law => k_is); (case l_law => k_is); (case c_law => k_is); (case k_law => k_is); (case aC => k_is); (case C1 => k_is); (case C2 => k_is); (case C3 => k_is); (case C4 => k_is); (case C5 => k_is); (case C6 => k_is); (case C_parts => k_is); (case C_table => k_is); (case C_keeps_all => k_is); (case C9 => k_is); (case C10 => k_is); (case C11 => k_is); (case C12 => k_is); (case C13 => k_is); (case C16 => k_is); (case C17 => k_is); (case C14 => k_is); (case C15 => k_is); (case C18 => k_is); (case t_init => k_is); (case n_init => k_is); (case l_init => k_is); (case c_init => k_is); (case k_init => k_is); (case t_of => k_is); (case r_of => k_is); (case i_of => k_is); (case l_of => k_is); (case c_of => k_is); (case k_of => k_is); (case t_parts => k_is); (case g_parts => k_is); (case u_parts => k_is); (case r_parts => k_is); (case l_parts => k_is); (case c_parts => k_is); (case k_parts => k_is); (case t_keeps_all => k_is); (case g_keeps_all => k_is); (case u_keeps_all => k_is); (case r_keeps_all => k_is); (case l_keeps_all => k_is); (case c_keeps_all => k_is); (case k_keeps_all => k_is); (case t_callc => k_is); (case n_callc => k_is); (case i_callc => k_is); (case l_callc => k_is); (case c_callc => k_is); (case k_callc => k_is); (case t_places => k_is); (case n_places => k_is); (case l_places => k_is); (case c_places => k_is); (case k_places => k_is); (case t_rshift => k_is); (case n_rshift => k_is); (case l_rshift => k_is); (case c_rshift => k_is); (case k_rshift => k_is); (case t_within => k_is); (case n_within => k_is); (case l_within => k_is); (case c_within => k_is); (case k_within => k_is); (case t_lenc => k_is); (case n_lenc => k_is); (case l_lenc => k_is); (case c_lenc => k_is); (case k_lenc => k_is); (case t_eqc => k_is); (case n_eqc => k_is); (case l_eqc => k_is); (case c_eqc => k_is); (case k_eqc => k_is); (case t_strc => k_is); (case n_strc => k_is); (case l_strc => k_is); (case c_strc => k_is); (case k_strc => k_is); (case aT => k_is); (case Tl => k_is); (case Tsa => k_is); (case Tex => k_is); (case Tty => k_is); (case Tk => k_is); (case Tga => k_is); (case Tgg => k_is); (case Thd => k_is); (case Tic => k_is); (case Tss => k_is); (case Tflimit => k_is); (case Ti => k_is); (case Tit => k_is); (case l_tinit => k_is); (case c_tinit => k_is); (case k_tinit => k_is); (case z_len => k_is); (case z_int => k_is); (case z_abs => k_is); (case z_max => k_is); (case z_min => k_is); (case z_range => k_is); (case z_all => k_is); (case z_isinstance => k_is); (case z_str => k_is); (case z_repr => k_is); (case z_bool => k_is); (case z_list => k_is); (case z_tuple => k_is); (case z_enumerate => k_is); (case z_zip => k_is); (case z_dict => k_is); (case G_MAX_PARTS => k_is); (case G_MAX_ROW => k_is); (case G_KEEP_ALL => k_is); (case G_DOTS => k_is); (case G_MAX_FRONT => k_is); (case G_MAX_BACK => k_is); (case G_REACH => k_is)
