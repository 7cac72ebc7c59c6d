import PyProof.Rows.All
import Wide.All
import OpenK.AllK
import Wide.FinOn
import HandS.ForMost
import HandS.IsInst
import HandS.Style
import HandS.Wide
import HandS.Star
import HandS.Property
import HandS.ClsMeth
import HandS.OwnEq
import HandS.Conv
import KE.GoesEnum
import HandS.Zip
import HandS.ExcInit
import HandS.ExcField
import HandS.TryOnly
import HandS.WordsExc
import KE.KExcInit
import HandS.Strs
import HandS.SetFor
import HandS.SetBool
import HandS.TupAny
import KE.KStateDown
import HandS.Base
import HandS.Call
import HandS.Ends
import HandS.More
import HandS.Words
import HandS.Defaults
import HandS.Head0
import HandS.Head1
import HandS.Head2
import HandS.HeadEnd
import HandS.HeadHook1
import HandS.HeadHook2
import HandS.HeadNt
import PySem.Challenge.RW_namedabove_k24_short_forms
set_option Elab.async false
set_option linter.all false
set_option maxRecDepth 100000
set_option maxHeartbeats 4000000
/-! own layer: flat rules, what a list of three numbers keeps -/
namespace Ly
open PySem PySem.Spec PyProof.Rows L2

/-- all but d stands -/
def Chg (d : Addr) (H H' : Hp) : Prop := ∀ x o, x ≠ d → H x = some o → H' x = some o
theorem Chg.refl (d : Addr) (H : Hp) : Chg d H H := fun _ _ _ h => h
theorem Chg.trans {d : Addr} {H H1 H2 : Hp} (a : Chg d H H1) (b : Chg d H1 H2) : Chg d H H2 := fun x o n h => b x o n (a x o n h)
theorem Chg.of {d : Addr} {H H' : Hp} (s : Same H H') : Chg d H H' := fun x o _ h => s x o h
theorem Chg.upd {d : Addr} {H H' : Hp} {o : HO} (c : Chg d H H') : Chg d H (upd H' d o) := fun x u n h => by
  rw [upd_ne n]
  exact c x u n h
theorem same_new {H : Hp} {p : Addr} {o : HO} (h : H p = none) : Same H (upd H p o) := fun b x e => by
  rw [upd_ne (ne_of_none e h)]
  exact e
theorem Chg.new {d p : Addr} {H H' : Hp} {o : HO} (c : Chg d H H') (h : H' p = none) : Chg d H (L2.upd H' p o) := c.trans (.of (same_new h))

/-! ### rules with flat readings -/
section
variable {X : Cx}
theorem call_intI : CallR X (.type "int") (fun xs H Q => ∃ i, xs = [.int i] ∧ Q (.int i) H) := fun pins s σ H xs us Q I r ⟨i, e, q⟩ => call_int1 pins s σ H xs us Q I r (.inl ⟨i, e, q⟩)
theorem call_intB : CallR X (.type "int") (fun xs H Q => ∃ b : Bool, xs = [.bl b] ∧ Q (.int (if b then 1 else 0)) H) := fun pins s σ H xs us Q I r ⟨i, e, q⟩ => call_int1 pins s σ H xs us Q I r (.inr ⟨i, e, q⟩)
theorem call_lenL : CallR X (.builtin "len") (fun xs H Q => ∃ p ys, xs = [.ref p] ∧ SqL X.K H p ys ∧ Q (.int ys.length) H) := fun pins s σ H xs us Q I r ⟨p, ys, e, h, q⟩ => call_len_seq pins s σ H xs us Q I r ⟨p, ys, e, .inl h, q⟩
theorem call_lenT : CallR X (.builtin "len") (fun xs H Q => ∃ p ys, xs = [.ref p] ∧ SqT X.K H p ys ∧ Q (.int ys.length) H) := fun pins s σ H xs us Q I r ⟨p, ys, e, h, q⟩ => call_len_seq pins s σ H xs us Q I r ⟨p, ys, e, .inr h, q⟩
/-- powers of great numbers -/
def CPw (i j : Int) : Prop := 0 ≤ j ∧ (Builtin.Int.intBits i : Int) * j ≤ 2 ^ 27
theorem op_powW : OpR X (binaryOp .Pow) (rI CPw fun i j => .int (i ^ j.toNat)) := opI fun _ _ _ _ _ _ _ hc q => pow_int hc.1 hc.2 q
theorem call_reprB : CallR X (.builtin "repr") (fun xs H Q => ∃ b : Bool, xs = [.bl b] ∧ Q (.str (if b then "True" else "False")) H) := by
  intro pins s σ H xs us Q I r h
  obtain ⟨b, rfl, q⟩ := h
  obtain ⟨u, rfl, r1⟩ := vals1 r
  cases r1
  exact PySem.P.repr_of_bool ⟨.str (if b then "True" else "False"), H, I.tok _, ⟨_, rfl⟩, q⟩
end

/-! ### the three numbers of the dice -/
structure DB (a b c : Int) : Prop where
  a0 : 0 ≤ a
  aB : a.natAbs < 2 ^ 2000
  b0 : 0 ≤ b
  b1 : b < 2305843009213693951
  c0 : 0 ≤ c
def Dice (H : Hp) (d : Addr) : Prop := ∃ a b c : Int, H d = some (.lst [.int a, .int b, .int c]) ∧ DB a b c
theorem Dice.keep {H H' : Hp} {d : Addr} (s : Same H H') (h : Dice H d) : Dice H' d := by
  obtain ⟨a, b, c, e, D⟩ := h
  exact ⟨a, b, c, s _ _ e, D⟩
theorem Dice.chg {H H' : Hp} {d p : Addr} (s : Chg p H H') (n : d ≠ p) (h : Dice H d) : Dice H' d := by
  obtain ⟨a, b, c, e, D⟩ := h
  exact ⟨a, b, c, s _ _ n e, D⟩
theorem great_ok (x : Int) : 0 ≤ x % ((10 : Int) ^ (60 : Int).toNat) ^ (10 : Int).toNat ∧ (x % ((10 : Int) ^ (60 : Int).toNat) ^ (10 : Int).toNat).natAbs < 2 ^ 2000 := by
  have p : (0 : Int) < ((10 : Int) ^ (60 : Int).toNat) ^ (10 : Int).toNat := by decide +kernel
  have h0 := Int.emod_nonneg x (Int.ne_of_gt p)
  have h1 := Int.emod_lt_of_pos x p
  refine ⟨h0, ?_⟩
  have q : ((10 : Int) ^ (60 : Int).toNat) ^ (10 : Int).toNat < ((2 ^ 2000 : Nat) : Int) := by decide +kernel
  generalize ((10 : Int) ^ (60 : Int).toNat) ^ (10 : Int).toNat = m at *
  generalize (2 ^ 2000 : Nat) = n at *
  omega
theorem less_ok {x y : Int} (hx : 0 ≤ x) (hb : x.natAbs < 2 ^ 2000) (hy : 0 ≤ y) (h : y ≤ x) : y.natAbs < 2 ^ 2000 := by
  generalize (2 ^ 2000 : Nat) = n at *
  omega

/-! ### promises -/
def spDice (K : PySem.W.Frag) : Sp := fun vs H Q _ => ∃ (a : Addr) (ns : List Int) (k : Nat), vs = [.ref a, .int k] ∧ SqL K H a (ns.map V.int) ∧ ns.length ≤ 63 ∧ k < 64 ∧
  ∀ H' p, Same H H' → H p = none → Dice H' p → Q (.ref p) H'
def spRoll : Sp := fun vs H Q _ => ∃ (d : Addr) (n : Int), vs = [.ref d, .int n] ∧ Dice H d ∧ 0 < n ∧ n < 2 ^ 200 ∧ ∀ H' r, Chg d H H' → Dice H' d → 0 ≤ r → r < n → Q (.int r) H'
/-- an item of a list, or a sign of a text -/
def spOneL (K : PySem.W.Frag) : Sp := fun vs H Q _ => ∃ (d a : Addr) (xs : List V), vs = [.ref d, .ref a] ∧ Dice H d ∧ a ≠ d ∧ SqL K H a xs ∧ 0 < xs.length ∧ xs.length < 1000 ∧
  ∀ H' x, Chg d H H' → Dice H' d → x ∈ xs → Q x H'
def spOneS : Sp := fun vs H Q _ => ∃ (d : Addr) (z : Str), vs = [.ref d, .str z] ∧ Dice H d ∧ 0 < z.length ∧ z.length < 1000 ∧
  ∀ H' c, Chg d H H' → Dice H' d → c ∈ z.cps.toList → Q (.str ⟨#[c]⟩) H'
theorem Chg.seq {K : PySem.W.Frag} {H H' : Hp} {d a : Addr} {xs : List V} (e : Chg d H H') (n : a ≠ d) (h : SqL K H a xs) : SqL K H' a xs := by
  rcases h with (h | ⟨o, h⟩) | h
  · exact .inl (.inl (e _ _ n h))
  · exact .inl (.inr ⟨o, e _ _ n h⟩)
  · exact .inr h
end Ly
namespace Ly
open PySem PySem.Spec PyProof.Rows L2
/-- a value with its heap, told by P alone -/
theorem cutE {te : TE} {σ : L2.St} {H : Hp} {Q : VK} (P : V → Hp → Prop) (h : ∀ Q' : VK, (∀ v H', P v H' → Q' v H') → te σ H Q') (k : ∀ v H', P v H' → Q v H') : te σ H Q := h Q k
theorem cutT {te : TT} {σ : L2.St} {H : Hp} {Q : Bool → Hp → Prop} (P : Bool → Hp → Prop) (h : ∀ Q' : Bool → Hp → Prop, (∀ v H', P v H' → Q' v H') → te σ H Q') (k : ∀ v H', P v H' → Q v H') : te σ H Q := h Q k
/-- a def of the top: where it stands, how it is called -/
structure Df (K : PySem.W.Frag) (mg : Str → Option Value) (x : Str) (st : Stmt) (ps : List Str) (f : Addr) (fd : FuncData) : Prop where
  F : Fun K x x st f fd
  b : Binds K fd ps []
  g : mg x = some (.ref f)
theorem Df.kp {K : PySem.W.Frag} {mg : Str → Option Value} {x : Str} {st : Stmt} {ps : List Str} {f : Addr} {fd : FuncData} (D : Df K mg x st ps f fd) : PySem.W.keepIn K (.ref f) = true := D.F.kp
end Ly
namespace Ly
open PySem PySem.Spec PyProof.Rows L2
/-- x = e, its value told by P alone -/
theorem asgS {te : TE} {i : Nat} {t : TS} {D : Ends} {σ : L2.St} {H : Hp} (P : V → Hp → Prop) (h : ∀ Q' : VK, (∀ v H', P v H' → Q' v H') → te σ H Q') (k : ∀ v H', P v H' → t D (σ.set i (some v)) H') : tSeq (tAsg te (gName i)) t D σ H := h _ k
/-- if c: .. told by what holds of the test -/
theorem cutR {te : TE} {D : Ends} {σ : L2.St} {H : Hp} (P : V → Hp → Prop) (h : ∀ Q' : VK, (∀ v H', P v H' → Q' v H') → te σ H Q') (k : ∀ v H', P v H' → D.rt v H') : tRet te D σ H := h _ k
end Ly
namespace Ly
open PySem PySem.Spec PyProof.Rows L2
structure Cl (P : Program) (w : World) (K : PySem.W.Frag) (mg : Str → Option Value) (base : Heap) (x : Str) (k : Nat) (f : Addr) (fd : FuncData) (ps : List Str) (sp : Sp) : Prop where
  ok : FnOk P w K mg base CX0 k f fd ps sp
  g : mg x = some (.ref f)
  kp : PySem.W.keepIn K (.ref f) = true
  b : Binds K fd ps []
theorem Df.cl {P : Program} {w : World} {K : PySem.W.Frag} {mg : Str → Option Value} {base : Heap} {x : Str} {k : Nat} {st : Stmt} {ps : List Str} {f : Addr} {fd : FuncData} {sp : Sp} (D : Df K mg x st ps f fd) (o : FnOk P w K mg base CX0 k f fd ps sp) : Cl P w K mg base x k f fd ps sp := ⟨o, D.g, D.kp, D.b⟩
/-! ### texts of signs -/
theorem str_len (z : Str) : z.cps.toList.length = z.length := by
  show z.cps.toList.length = z.cps.size
  simp
theorem sz1000 {n : Nat} (h : n < 1000) : n ≤ sizeLine := Nat.le_of_lt (small1000 (Nat.le_of_lt h))
/-- the built-in class of a value's type, asked -/
def TyB (K : PySem.W.Frag) (H : Hp) (x : V) (t : String) : Prop := TyX K H x (.type t)
end Ly
namespace Ly
open PySem PySem.Spec PyProof.Rows L2
theorem at_nat {α : Type} {xs : List α} {i : Int} {v : α} (h0 : 0 ≤ i) (h : xs[i.toNat]? = some v) : atI xs i = some v := by
  have e := atI_nat h
  rwa [Int.toNat_of_nonneg h0] at e
end Ly
namespace Ly
open PySem PySem.Spec PyProof.Rows L2
/-- what a comprehension's loop asks of its turns -/
abbrev LcW (J : It) (g : TG) (tt : TT) (te : TE) (vs : List Nat) (σ : L2.St) (H1 : Hp) (D : Addr) (Qd : Hp → Prop) : Prop :=
  ∃ W : Nat → Nat → Hp → Prop, (∃ m, W 0 m (upd H1 D (.lst []))) ∧ (∀ i m H, W i m H → (J.stop i H ∧ Qd H) ∨ (J.go i H ∧ ∃ Nx : Hp → Prop,
    (∀ H', Nx H' → ∃ m', m' < m ∧ W (i + 1) m' H') ∧ (∀ x H', J.yld i H x H' → g x (wipe σ vs) H' fun σ2 H2 => wipe σ2 vs = wipe σ vs ∧
      tt σ2 H2 fun b H3 => if b = true then te σ2 H3 fun y H4 => ∃ acc, H4 D = some (.lst acc) ∧ acc.length < sizeLine ∧ Nx (upd H4 D (.lst (acc ++ [y]))) else Nx H3)))
theorem lc_gen {J : It} {n : Nat} {g : TG} {tt : TT} {te : TE} {vs : List Nat} {σ : L2.St} {H1 : Hp} {D : Addr} {Qd : Hp → Prop} (Pv : Nat → Hp → Prop) (h0 : Pv 0 (upd H1 D (.lst [])))
    (hgo : ∀ i H, i < n → Pv i H → J.go i H) (hst : ∀ H, Pv n H → J.stop n H)
    (hs : ∀ i x H H', i < n → Pv i H → J.yld i H x H' → g x (wipe σ vs) H' fun σ2 H2 => wipe σ2 vs = wipe σ vs ∧ tt σ2 H2 fun b H3 => if b = true then
      te σ2 H3 fun y H4 => ∃ acc, H4 D = some (.lst acc) ∧ acc.length < sizeLine ∧ Pv (i + 1) (upd H4 D (.lst (acc ++ [y]))) else Pv (i + 1) H3)
    (hd : ∀ H, Pv n H → Qd H) : LcW J g tt te vs σ H1 D Qd := by
  refine ⟨fun j left H => left + j = n ∧ Pv j H, ⟨n, by omega, h0⟩, ?_⟩
  rintro i m H ⟨em, p⟩
  rcases Nat.lt_or_ge i n with hlt | hge
  · exact .inr ⟨hgo i H hlt p, Pv (i + 1), fun H' p' => ⟨m - 1, by omega, by omega, p'⟩, fun x H' y => hs i x H H' hlt p y⟩
  · have e : i = n := by omega
    subst e
    exact .inl ⟨hst H p, hd H p⟩
/-- one sign against one sign -/
theorem sign_lt (a b : Nat) : decide ((⟨#[a]⟩ : Str).cps.toList < (⟨#[b]⟩ : Str).cps.toList) = decide (a < b) := by
  rw [decide_eq_decide]
  show ([a] : List Nat) < [b] ↔ a < b
  constructor
  · intro h
    rcases (List.cons_lt_cons_iff).mp h with h | ⟨_, h⟩
    · exact h
    · exact absurd h (List.not_lt_nil _)
  · exact fun h => List.cons_lt_cons_iff.mpr (.inl h)
end Ly
namespace Ly
open PySem PySem.Spec PyProof.Rows L2
theorem join_cps : ∀ ys : List Str, (Str.join Str.empty ys).cps.toList = ys.flatMap fun y => y.cps.toList
  | [] => rfl
  | [x] => by
    show x.cps.toList = _
    simp
  | x :: y :: r => by
    have h := join_cps (y :: r)
    show ((x ++ Str.empty ++ Str.join Str.empty (y :: r)) : Str).cps.toList = _
    rw [Str.cps_append, Str.append_empty, Array.toList_append, h]
    rfl
theorem txt_join (ys : List Str) : (Txt.join Str.empty ys).cps.toList = ys.flatMap fun y => y.cps.toList := by
  rw [show Txt.join Str.empty ys = Str.join Str.empty ys from StrLaws.glued_eq_join _ _, join_cps]
theorem app_cps (a b : Str) : (a ++ b).cps.toList = a.cps.toList ++ b.cps.toList := by
  rw [Str.cps_append, Array.toList_append]
theorem app_len (a b : Str) : (a ++ b).length = a.length + b.length := Str.length_append a b
theorem cut_to (z : Str) (k : Nat) (h : k ≤ z.length) : (cutS z none (some (k : Int))).cps.toList = z.cps.toList.take k := by
  unfold cutS
  rw [HT.sIx_none, HT.sIx_nat]
  show (List.take (min k z.length - 0) (z.cps.toList.drop 0)) = _
  rw [Nat.min_eq_left h]
  rfl
theorem cut_from (z : Str) (k : Nat) (h : k ≤ z.length) : (cutS z (some (k : Int)) none).cps.toList = z.cps.toList.drop k := by
  unfold cutS
  rw [HT.sIx_none, HT.sIx_nat, Nat.min_eq_left h]
  show (List.take (z.length - k) (z.cps.toList.drop k)) = _
  refine List.take_of_length_le ?_
  rw [List.length_drop, str_len]
  omega
theorem len_of_cps {z : Str} {l : List Nat} (h : z.cps.toList = l) : z.length = l.length := by
  rw [← h, str_len]
theorem Chg.dice {H H' : Hp} {d : Addr} (c : Chg d H H') {p : Addr} {o : HO} (n : p ≠ d) (h : H p = some o) : H' p = some o := c p o n h
theorem dice_ne {H : Hp} {d p : Addr} (h : Dice H d) (n : H p = none) : d ≠ p := by
  obtain ⟨a, b, c, e, _⟩ := h
  exact ne_of_none e n
theorem Dice.new {H : Hp} {d p : Addr} {o : HO} (h : Dice H d) (n : H p = none) : Dice (L2.upd H p o) d := h.keep (same_new n)
end Ly
namespace Ly
open PySem PySem.Spec PyProof.Rows L2
theorem ifF {c : Bool} {A B : Prop} (h : c = false) (b : B) : if c = true then A else B := by
  subst h
  exact iteF b
theorem ifT {c : Bool} {A B : Prop} (h : c = true) (b : A) : if c = true then A else B := by
  subst h
  exact iteT b
/-- if c: .., not taken -/
theorem ifNo {c : TT} {t r : TS} {D : Ends} {σ : L2.St} {H : Hp} (P : Hp → Prop) (h : ∀ Q' : Bool → Hp → Prop, (∀ H', P H' → Q' false H') → c σ H Q') (k : ∀ H', P H' → r D σ H') : tSeq (tIfS c t tNext) r D σ H :=
  h _ fun H' p => iteF (k H' p)
/-- things that are no text -/
def Odd (H : Hp) (x : V) : Prop := x = .non ∨ (∃ b, x = .bl b) ∨ (∃ i, x = .int i) ∨ ∃ p, x = .ref p ∧ ((∃ xs, H p = some (.lst xs)) ∨ (∃ xs, H p = some (.tup xs)) ∨ ∃ kvs, H p = some (.dK kvs))
theorem Odd.keep {H H' : Hp} {x : V} (s : Same H H') (h : Odd H x) : Odd H' x := by
  rcases h with h | h | h | ⟨p, e, h⟩
  · exact .inl h
  · exact .inr (.inl h)
  · exact .inr (.inr (.inl h))
  · refine .inr (.inr (.inr ⟨p, e, ?_⟩))
    rcases h with ⟨_, h⟩ | ⟨_, h⟩ | ⟨_, h⟩
    · exact .inl ⟨_, s _ _ h⟩
    · exact .inr (.inl ⟨_, s _ _ h⟩)
    · exact .inr (.inr ⟨_, s _ _ h⟩)
theorem Odd.ty {K : PySem.W.Frag} {H : Hp} {x : V} (h : Odd H x) : ∃ t, TyB K H x t ∧ kitB t "str" = some false := by
  rcases h with rfl | ⟨b, rfl⟩ | ⟨i, rfl⟩ | ⟨p, rfl, ⟨_, h⟩ | ⟨_, h⟩ | ⟨_, h⟩⟩
  · exact ⟨"NoneType", .base .non, by decide +kernel⟩
  · exact ⟨"bool", .base (.bl b), by decide +kernel⟩
  · exact ⟨"int", .base (.int i), by decide +kernel⟩
  · exact ⟨"list", .base (.lst h), by decide +kernel⟩
  · exact ⟨"tuple", .base (.tup h), by decide +kernel⟩
  · exact ⟨"dict", .base (.dK h), by decide +kernel⟩
theorem same_new2 {H : Hp} {p : Addr} {o u : HO} (h : H p = none) : Same H (upd (upd H p o) p u) := by
  rw [upd_upd]
  exact same_new h
theorem log_ok {n : Int} (h0 : 0 ≤ n) (h : n < 2 ^ 200) : n.natAbs.log2 < 1920 := by
  have e : (2 : Int) ^ 200 = ((2 ^ 200 : Nat) : Int) := by decide +kernel
  rw [e] at h
  have h2 : n.natAbs < 2 ^ 200 := by
    generalize (2 ^ 200 : Nat) = m at *
    omega
  exact Nat.lt_trans (PySem.Flt.log2_lt_of (by decide) h2) (by decide)
end Ly
namespace Ly
open PySem PySem.Spec PyProof.Rows L2
theorem or_ok {P : Program} {w : World} {K : PySem.W.Frag} {mg : Str → Option Value} {base : Heap} {CX : CXT} {k : Nat} {f : Addr} {fd : FuncData} {ps : List Str} {sp1 sp2 : Sp} (h1 : FnOk P w K mg base CX k f fd ps sp1) (h2 : FnOk P w K mg base CX k f fd ps sp2) :
    FnOk P w K mg base CX k f fd ps (fun vs H Q E => sp1 vs H Q E ∨ sp2 vs H Q E) :=
  ⟨fun vs H Q E h => h.elim (h1.len vs H Q E) (h2.len vs H Q E), fun A outer s H args us vs Q E hr e0 hb hv hs => hs.elim (h1.run A outer s H args us vs Q E hr e0 hb hv) (h2.run A outer s H args us vs Q E hr e0 hb hv)⟩
def timesS (z : Str) (k : Int) : Str := ⟨(List.replicate k.toNat z.cps).foldl (· ++ ·) #[]⟩
def MulS (z : Str) (k : Int) : Bool := decide (1 < k) && decide (k ≤ 1000) && decide (0 < z.length) && !decide ((z.length : Int) > (2 ^ 63 - 1) / k) && !Builtin.Str.tooLong (z.length * k.toNat) && decide ((timesS z k).length ≤ sizeLine)
theorem op_mul_str {X : Cx} : OpR X (binaryOp .Mult) (fun x y H Q => ∃ z k, x = .str z ∧ y = .int k ∧ MulS z k = true ∧ Q (.str (timesS z k)) H) := by
  intro pins s σ H x y v u Q I rx ry h
  obtain ⟨z, k, rfl, rfl, hm, q⟩ := h
  obtain ⟨t, rfl⟩ := rx
  obtain ⟨t', rfl⟩ := ry
  unfold MulS at hm
  simp only [Bool.and_eq_true, Bool.not_eq_true', decide_eq_true_eq, decide_eq_false_iff_not] at hm
  obtain ⟨⟨⟨⟨⟨h1, h2⟩, h3⟩, h4⟩, h5⟩, h6⟩ := hm
  refine PySem.P.mul_str ?_ (fun _ _ => h4) (fun _ _ => h5) ?_
  · rw [decide_eq_false (by omega), decide_eq_false (by omega)]
    rfl
  · rw [if_neg (by omega)]
    have e1 : (k == 1) = false := beq_eq_false_iff_ne.mpr (by omega)
    have e2 : (z.length == 0) = false := beq_eq_false_iff_ne.mpr (by omega)
    rw [e1, e2, if_neg (by decide)]
    exact ⟨h6, ⟨.str (timesS z k), H, I.tok _, ⟨_, rfl⟩, q⟩⟩
end Ly

set_option Elab.async false
set_option linter.all false
set_option maxRecDepth 100000
set_option maxHeartbeats 4000000
/-! own layer: defs that ask for repr of lists: the promise is told where no repr is under way -/
namespace Ly
open PySem PySem.Spec PyProof.Rows L2
abbrev Quiet (A : Around) : Prop := A.guards = some []
/-- the promise of a def, called where no repr is under way -/
def FnG (P : Program) (w : World) (K : PySem.W.Frag) (mg : Str → Option Value) (base : Heap) (CX : CXT) (k : Nat) (f : Addr) (sp : Sp) : Prop :=
  ∀ (A : Around) (outer : List Env) (s : Shared) (H : Hp) (us : List Value) (vs : List V) (Q : VK) (E : XK), Room k A → Quiet A →
    Env0 P w K mg base A outer s H → Vals vs us → sp vs H Q E → codeAny (model P w) A (.call (.ref f) ⟨us, []⟩) (CR CX outer P w H s Q E) s
section
variable {P : Program} {w : World} {K : PySem.W.Frag} {mg : Str → Option Value} {base : Heap} {CX : CXT} {k : Nat}
/-- a def's body, walked where no repr is under way -/
theorem fnG_of {x qual : Str} {st : Stmt} {f : Addr} {fd : FuncData} {N ps : List Str} {sp : Sp} (F : Fun K x qual st f fd) (S : FnScope N ps (defScope st)) (b : Binds K fd ps []) (len : ∀ vs H Q E, sp vs H Q E → vs.length = ps.length)
    (hbody : ∀ (cdv : Value) (A : Around) (outer : List Env) (s : Shared) (H : Hp) (vs : List V) (Q : VK) (E : XK), Room k (A.deeper (envOfC qual (defScope st) s.heap.objs.size f cdv)) → Quiet (A.deeper (envOfC qual (defScope st) s.heap.objs.size f cdv)) →
      sp vs H Q E → ∃ t, PSs (cxOf CX P w K mg base N qual (defScope st) f cdv A outer s H E).nox (defBody st) t ∧ t { nx := fun _ H' => Q .non H', rt := Q } (start N vs) H) :
    FnG P w K mg base CX (k + 1) f sp := by
  obtain ⟨oc, od, kV, doc, pm, an, cdv, ct, osl, rfl, lk, hcd⟩ := F.ex
  intro A outer s H us vs Q E hr hq e0 r hsp
  have hl := len vs H Q E hsp
  have hl2 : (us ++ ([] : List Value)).length = ps.length := by
    rw [List.append_nil, ← r.length]
    exact hl
  have hb := b s us (e0.mod.kin.keeps fun b o e => (e0.bs b o e).1) hl2
  rw [List.append_nil] at hb
  refine StX.run_bnd (G := fun xs H2 => xs = vs ∧ H2 = H) lk hcd S hr e0 (fun A' Ex Q' h => hb _ A' Ex Q' (h s H vs us e0 .refl rfl (fun _ _ z => z) r hl ⟨rfl, rfl⟩)) fun s2 H2 xs g hr' => ?_
  obtain ⟨rfl, rfl⟩ := g
  obtain ⟨t, h, q⟩ := hbody cdv A outer s2 H2 xs Q E hr' hq hsp
  exact ⟨t, h.nox, q⟩
theorem FnG.or {f : Addr} {sp1 sp2 : Sp} (h1 : FnG P w K mg base CX k f sp1) (h2 : FnG P w K mg base CX k f sp2) : FnG P w K mg base CX k f (fun vs H Q E => sp1 vs H Q E ∨ sp2 vs H Q E) :=
  fun A outer s H us vs Q E hr hq e0 r hs => hs.elim (h1 A outer s H us vs Q E hr hq e0 r) (h2 A outer s H us vs Q E hr hq e0 r)
theorem _root_.L2.FnOk.quiet {f : Addr} {fd : FuncData} {ps : List Str} {sp : Sp} (F : FnOk P w K mg base CX k f fd ps sp) (b : Binds K fd ps []) : FnG P w K mg base CX k f sp := by
  intro A outer s H us vs Q E hr _ e0 r hs
  have z := F.raw b .nil A outer s H us vs Q E hr e0 r
  simp only [List.append_nil] at z
  exact z hs
end
section
variable {X : Cx} {CX : CXT} {k : Nat} {f : Addr} {sp : Sp} {E : XK}
/-- such a def as a thing that is called -/
theorem callG (F : FnG X.prog X.w X.K X.mg X.base CX k f sp) (hr : Room k X.A) (hq : Quiet X.A) (hx : Passes CX X E) : CallR X (.ref f) (fun vs H Q => sp vs H Q E) := by
  intro pins s σ H vs us Q I r h
  refine wpAny_call (codeAny_mono (F X.A X.stack s H us vs Q E hr hq I.env0 r h) fun res s' hres => ?_)
  cases res with
  | error e => exact hx pins σ H s e s' I hres
  | ok fl =>
    cases fl with
    | ret u => exact I.after hres
    | next => exact False.elim hres
    | brk => exact False.elim hres
    | cont => exact False.elim hres
/-- x(..), x a def of the module, by what its call is worth -/
theorem pe_callV {x : Str} {p pos : Pos} {e : Expr} {es : List Expr} {t : TA} {r : List V → Hp → VK → Prop} (c : CallR X (.ref f) r) (hg : Gl X x) (hm : X.mg x = some (.ref f)) (hk : PySem.W.keepIn X.K (.ref f) = true) (ha : PA X (e :: es) t)
    (hdb : (x == ("__debug__" : Str)) = false := by decide) (he : starEach (e :: es) X.env = (false, eval e X.env) :: starEach es X.env := by rfl) (hpl : (backTo pos (starEach es X.env)).any (·.1) = false := by rfl) :
    PE X (.Call (.Name x p) (e :: es) [] pos) (tCB r t) := ⟨fun pins s σ H Q I h => wpAny_Call_Name_kw (ld_glob I hg hm
  (PySem.W.callWith_K (h₀ := X.base) I.ok.mod.kin hk (thn (ha.run pos pins s σ H _ I h) fun us s1 ⟨vs, H1, I1, rv, q⟩ => ⟨I1.kIn, c pins s1 σ H1 vs us Q I1 rv q⟩) he hpl) hdb)⟩
end
/-! ### the law's own end -/
section
variable {P : Program} {w : World} {K : PySem.W.Frag} {mg mb : Str → Option Value} {CX : CXT} {k : Nat} {fa a : Addr} {sp : Sp} {s1 : Shared} {vs : List Value} {ns : List Int}
/-- what is asked of the call of the law -/
abbrev LawGoal (P : Program) (w : World) (fa a : Addr) (s1 : Shared) : Prop :=
  codeAny (model P w) callerA (.call (.ref fa) ⟨[.ref a], []⟩) (fun r s' => r = .ok (.ret (.bool true)) ∧ OldK s1.heap s'.heap ∧ s'.os = s1.os ∧ AllBare s'.gens) s1
theorem lawG_core (KX : K.In s1.heap) (hns : s1.heap.Ns mainGlobals mg) (hb : s1.heap.Ns builtinsNs mb) (hbb : ∀ x : Str, x ≠ "__name__" → mb x = bootBuiltins x) (hlim : s1.heap.NoLimit) (hg : s1.gens = #[])
    (ha : s1.heap.get? a = some { cls := .type "list", data := .seq vs.toArray }) (hr : Room k callerA) (F : ∀ base : Heap, K.In base → base.Ns mainGlobals mg → FnG P w K mg base CX k fa sp)
    (hCX : ∀ H e s', CX [] H s1 (fun _ _ _ => False) e s' → False) {H : Hp} (hO : Only H) (hok : HOk P w H s1.heap) (hA : ∀ b, H b ≠ none → b = a ∧ K.lookup a = none) (hsp : sp [.ref a] H (fun v _ => v = .bl true) fun _ _ _ => False) : LawGoal P w fa a s1 := by
  -- what is tracked is the script alone: it is no dict and no part of K
  have plain : ∀ {b : Addr} {o : Obj}, s1.heap.get? b = some o → (∀ its n, o.data ≠ .seq its n) → H b = none := by
    intro b o e d
    rcases hO b with z | ⟨ob, xs, z⟩
    · exact z
    · obtain ⟨rfl, _⟩ := hA b (by rw [z]; exact fun q => nomatch q)
      rw [ha] at e
      cases e
      exact absurd rfl (d _ _)
  have nsB : ∀ {b : Addr} {m : Str → Option Value}, s1.heap.Ns b m → (hidT s1.heap H).Ns b m := fun {b m} h => by
    obtain ⟨o, es, ep, e, d, r⟩ := h
    exact ⟨o, es, ep, hidT_get e (plain e fun its n z => by rw [d] at z; cases z), d, r⟩
  have kB : K.In (hidT s1.heap H) := fun b o e => hidT_get (KX b o e) (by
    rcases hO b with z | ⟨ob, xs, z⟩
    · exact z
    · obtain ⟨rfl, n⟩ := hA b (by rw [z]; exact fun q => nomatch q)
      rw [n] at e
      cases e)
  obtain ⟨mc, l1, l2⟩ := hlim
  have e0 : Env0 P w K mg (hidT s1.heap H) callerA [] s1 H := {
    frames := rfl
    mod := ⟨kB, nsB hns, ⟨mb, nsB hb, hbb⟩, ⟨mc, nsB l1, l2⟩⟩
    bs := fun b o e => of_hidT e
    bsz := Nat.le_of_eq (hidT_size _ _)
    funs := trivial
    frf := fun b hb' => by cases hb'
    hok := hok
    bare := .of_eq hg }
  refine codeAny_mono (F _ kB (nsB hns) callerA [] s1 H [.ref a] [.ref a] _ _ hr rfl e0 (.cons rfl .nil) hsp) fun r s' h => ?_
  match r, h with
  | .error e, h => exact (hCX H e s' h).elim
  | .ok .next, h => exact False.elim h
  | .ok .brk, h => exact False.elim h
  | .ok .cont, h => exact False.elim h
  | .ok (.ret u), h =>
    obtain ⟨v, H', os, bare, un, hok', r', q⟩ := h
    have q' : v = .bl true := q
    subst q'
    obtain rfl : u = Value.bool true := r'
    refine ⟨rfl, OldK.of_keep fun b o e => ?_, os, bare⟩
    rcases hO b with z | ⟨ob, xs, z⟩
    · exact un.keep b o e z (fun z => by cases z) (fun z => by cases z)
    · obtain ⟨e1, _⟩ := hok b _ z
      obtain ⟨e2, _⟩ := hok' b _ (un.frzs b ob _ z)
      rw [e] at e1
      cases e1
      exact e2
theorem lawG (KX : K.In s1.heap) (hns : s1.heap.Ns mainGlobals mg) (hb : s1.heap.Ns builtinsNs mb) (hbb : ∀ x : Str, x ≠ "__name__" → mb x = bootBuiltins x) (hlim : s1.heap.NoLimit) (hg : s1.gens = #[])
    (ha : s1.heap.get? a = some { cls := .type "list", data := .seq vs.toArray }) (hi : IntsAre vs ns) (hl : ns.length ≤ sizeLine) (hr : Room k callerA) (F : ∀ base : Heap, K.In base → base.Ns mainGlobals mg → FnG P w K mg base CX k fa sp)
    (hsp : ∀ H : Hp, Only H → SqL K H a (ns.map V.int) → sp [.ref a] H (fun v _ => v = .bl true) fun _ _ _ => False) (hCX : ∀ H e s', CX [] H s1 (fun _ _ _ => False) e s' → False) : LawGoal P w fa a s1 := by
  have rv := vals_ints hi
  have lv := hi.length
  cases hk : K.lookup a with
  | some o =>
    have e := KX a o hk
    rw [ha] at e
    cases e
    exact lawG_core KX hns hb hbb hlim hg ha hr F hCX (H := fun _ => none) (fun _ => .inl rfl) (fun b u z => by cases z) (fun b z => absurd rfl z)
      (hsp _ (fun _ => .inl rfl) (.inr ⟨_, vs.toArray, _, hk, rfl, rfl, rfl, by rw [List.size_toArray, lv]; exact hl, by simpa using rv⟩))
  | none =>
    have at_ : ∀ b, (upd (fun _ => none) a (.frz { cls := .type "list", data := .seq vs.toArray } (.lst (ns.map V.int)))) b ≠ none → b = a := fun b z => by
      by_cases hb : b = a
      · exact hb
      · exact absurd (upd_ne hb) z
    have only : Only (upd (fun _ => none) a (.frz { cls := .type "list", data := .seq vs.toArray } (.lst (ns.map V.int)))) := fun b => by
      by_cases hb : b = a
      · exact .inr ⟨_, _, by rw [hb]; exact upd_same⟩
      · exact .inl (upd_ne hb)
    refine lawG_core KX hns hb hbb hlim hg ha hr F hCX only (fun b u z => ?_) (fun b z => ⟨at_ b z, hk⟩) (hsp _ only (.inl (.inr ⟨_, upd_same⟩)))
    have eb := at_ b (by rw [z]; exact fun q => nomatch q)
    subst eb
    rw [upd_same] at z
    cases z
    exact ⟨ha, by rw [List.length_map]; exact hl, vs, _, rv, ha⟩
end
theorem walk_ofG {l : PySem.W.OpenLaw} {n k : Nat} {q : Program} {loose : List Str} {XP : (Str → Option Value) → Heap → Prop} {YP : World → Heap → Prop} {d : DefRec} {K : Params → PySem.W.Frag} {sp : World → Sp}
    (hn : l.most = some n) (hn2 : n ≤ sizeLine) (hdf : d.params.defaults = []) (hr : Room k callerA) (hY : ∀ (w : World) (h : Heap), YP w h → (K w.params).In h)
    (F : ∀ (w : World) (mg : Str → Option Value) (fa : Addr) (h : Heap), (K w.params).In h → h.Ns mainGlobals mg → mg d.name = some (.ref fa) →
      ∀ base : Heap, (K w.params).In base → base.Ns mainGlobals mg → FnG l.prog w (K w.params) mg base CX0 k fa (sp w))
    (hsp : ∀ (w : World) (H : Hp) (a : Addr) (ns : List Int), ns.length ≤ n → Only H → SqL (K w.params) H a (ns.map V.int) → sp w [.ref a] H (fun v _ => v = .bl true) fun _ _ _ => False) :
    PySem.W.WalkO q loose XP YP l.row.toRowW d [] (fun f vs => PySem.call f vs) :=
  Att.attach_call hn hdf fun w _ _ mg _ fa _ _ _ _ a vs ns G Y ho hd hcd hmg hobj hints hlen hg =>
    lawG (hY w _ Y) G.T.g G.T.b G.T.builtins G.T.nolimit hg hobj hints (Nat.le_trans hlen hn2) hr (F w mg fa _ (hY w _ Y) G.T.g hmg) (fun H hO hS => hsp w H a ns hlen hO hS) fun _ _ _ z => z
/-! ### repr of data -/
mutual
/-- the value v is the datum, by the abstract heap; its repr is short enough to be told by its size -/
def Rp (H : Hp) : PyData → V → Prop
  | .none, v => v = .non
  | .bool b, v => v = .bl b
  | .int i, v => v = .int i ∧ i.natAbs.log2 < 1920
  | .str x, v => v = .str x ∧ ∀ c ∈ x.cps.toList, c < 16 ^ 8
  | .list ds, v => ∃ a xs, v = .ref a ∧ a ≠ sysModules ∧ H a = some (.lst xs) ∧ RpAll H ds xs
  | .tuple ds, v => ∃ a xs, v = .ref a ∧ H a = some (.tup xs) ∧ RpAll H ds xs
  | .dict [], v => ∃ a, v = .ref a ∧ H a = some (.dK [])
  | .dict (_ :: _), _ => False
def RpAll (H : Hp) : List PyData → List V → Prop
  | [], xs => xs = []
  | d :: ds, xs => ∃ x r, xs = x :: r ∧ Rp H d x ∧ RpAll H ds r
end
mutual
theorem Rp.ok {H : Hp} : ∀ (d : PyData) (v : V), Rp H d v → d.showable = true ∧ d.leavesShort 1921 = true
  | .none, _, _ => ⟨rfl, rfl⟩
  | .bool _, _, _ => ⟨rfl, rfl⟩
  | .int i, v, h => by
    obtain ⟨_, h⟩ := (show v = .int i ∧ i.natAbs.log2 < 1920 from h)
    exact ⟨decide_eq_true h, decide_eq_true (int_text_len_1921 h)⟩
  | .str x, v, h => by
    obtain ⟨_, h⟩ := (show v = .str x ∧ ∀ c ∈ x.cps.toList, c < 16 ^ 8 from h)
    exact ⟨rfl, List.all_eq_true.mpr fun c hc => decide_eq_true (h c hc)⟩
  | .list ds, v, h => by
    obtain ⟨_, xs, _, _, _, h⟩ := (show ∃ a xs, v = .ref a ∧ a ≠ sysModules ∧ H a = some (.lst xs) ∧ RpAll H ds xs from h)
    exact RpAll.ok ds xs h
  | .tuple ds, v, h => by
    obtain ⟨_, xs, _, _, h⟩ := (show ∃ a xs, v = .ref a ∧ H a = some (.tup xs) ∧ RpAll H ds xs from h)
    exact RpAll.ok ds xs h
  | .dict [], _, _ => ⟨rfl, rfl⟩
  | .dict (_ :: _), _, h => (show False from h).elim
theorem RpAll.ok {H : Hp} : ∀ (ds : List PyData) (xs : List V), RpAll H ds xs → PyData.showableAll ds = true ∧ PyData.leavesShortAll 1921 ds = true
  | [], _, _ => ⟨rfl, rfl⟩
  | d :: ds, xs, h => by
    obtain ⟨x, r, _, h1, h2⟩ := (show ∃ x r, xs = x :: r ∧ Rp H d x ∧ RpAll H ds r from h)
    obtain ⟨a1, a2⟩ := Rp.ok d x h1
    obtain ⟨b1, b2⟩ := RpAll.ok ds r h2
    exact ⟨by simp only [PyData.showableAll, a1, b1, Bool.and_self], by simp only [PyData.leavesShortAll, a2, b2, Bool.and_self]⟩
end
mutual
theorem Rp.keep {H H' : Hp} (s : Same H H') : ∀ (d : PyData) (v : V), Rp H d v → Rp H' d v
  | .none, _, h => h
  | .bool _, _, h => h
  | .int _, _, h => h
  | .str _, _, h => h
  | .list ds, v, h => by
    obtain ⟨a, xs, e, n, ha, h⟩ := (show ∃ a xs, v = .ref a ∧ a ≠ sysModules ∧ H a = some (.lst xs) ∧ RpAll H ds xs from h)
    exact ⟨a, xs, e, n, s _ _ ha, RpAll.keep s ds xs h⟩
  | .tuple ds, v, h => by
    obtain ⟨a, xs, e, ha, h⟩ := (show ∃ a xs, v = .ref a ∧ H a = some (.tup xs) ∧ RpAll H ds xs from h)
    exact ⟨a, xs, e, s _ _ ha, RpAll.keep s ds xs h⟩
  | .dict [], v, h => by
    obtain ⟨a, e, ha⟩ := (show ∃ a, v = .ref a ∧ H a = some (.dK []) from h)
    exact ⟨a, e, s _ _ ha⟩
  | .dict (_ :: _), _, h => (show False from h).elim
theorem RpAll.keep {H H' : Hp} (s : Same H H') : ∀ (ds : List PyData) (xs : List V), RpAll H ds xs → RpAll H' ds xs
  | [], _, h => h
  | d :: ds, xs, h => by
    obtain ⟨x, r, e, h1, h2⟩ := (show ∃ x r, xs = x :: r ∧ Rp H d x ∧ RpAll H ds r from h)
    exact ⟨x, r, e, Rp.keep s d x h1, RpAll.keep s ds r h2⟩
end
section
variable {X : Cx} {pins : List (Addr × Obj)} {σ : L2.St} {H : Hp} {s : Shared}
mutual
theorem Rp.reads (I : Inv X pins σ H s) : ∀ (d : PyData) (v : V) (u : Value), Rp H d v → RelV v u → ∃ as, Reads s.heap u d as ∧ sysModules ∉ as
  | .none, v, u, h, r => by
    obtain rfl := (show v = .non from h)
    cases r
    exact ⟨_, .none, by simp⟩
  | .bool b, v, u, h, r => by
    obtain rfl := (show v = .bl b from h)
    cases r
    exact ⟨_, .bool b, by simp⟩
  | .int i, v, u, h, r => by
    obtain ⟨rfl, _⟩ := (show v = .int i ∧ i.natAbs.log2 < 1920 from h)
    obtain ⟨t, rfl⟩ := r
    exact ⟨_, .int i t, by simp⟩
  | .str x, v, u, h, r => by
    obtain ⟨rfl, _⟩ := (show v = .str x ∧ ∀ c ∈ x.cps.toList, c < 16 ^ 8 from h)
    obtain ⟨t, rfl⟩ := r
    exact ⟨_, .str x t, by simp⟩
  | .list ds, v, u, h, r => by
    obtain ⟨a, xs, rfl, n, ha, h⟩ := (show ∃ a xs, v = .ref a ∧ a ≠ sysModules ∧ H a = some (.lst xs) ∧ RpAll H ds xs from h)
    cases r
    obtain ⟨_, its, m, rv, e⟩ := (show ObjOk X.prog X.w H s.heap a (.lst xs) from I.hok a _ ha)
    obtain ⟨as, ra, na⟩ := RpAll.reads I ds xs its h rv
    exact ⟨_, .list e rfl rfl ra, fun z => (List.mem_cons.mp z).elim (fun z => n z.symm) na⟩
  | .tuple ds, v, u, h, r => by
    obtain ⟨a, xs, rfl, ha, h⟩ := (show ∃ a xs, v = .ref a ∧ H a = some (.tup xs) ∧ RpAll H ds xs from h)
    cases r
    obtain ⟨_, its, rv, o, e, c, m, dd⟩ := (show ObjOk X.prog X.w H s.heap a (.tup xs) from I.hok a _ ha)
    obtain ⟨as, ra, na⟩ := RpAll.reads I ds xs its h rv
    exact ⟨_, .tuple e c dd ra, na⟩
  | .dict [], v, u, h, r => by
    obtain ⟨a, rfl, ha⟩ := (show ∃ a, v = .ref a ∧ H a = some (.dK []) from h)
    cases r
    obtain ⟨_, ns, vs, kv, dk⟩ := (show ObjOk X.prog X.w H s.heap a (.dK []) from I.hok a _ ha)
    cases kv
    obtain ⟨o, es, ep, e, ex, dd, _, hes, _⟩ := dk
    have e0 : es.toList = [] := by
      generalize es.toList = l at hes
      cases hes
      rfl
    refine ⟨_, .dict (kvs := []) e ex.1 dd (by rw [e0]; exact .nil) (by rw [e0]; exact .nil), fun z => ?_⟩
    have z' : sysModules = a := by simpa using z
    rw [← z'] at ns
    exact absurd ns (by decide)
  | .dict (_ :: _), _, _, h, _ => (show False from h).elim
theorem RpAll.reads (I : Inv X pins σ H s) : ∀ (ds : List PyData) (xs : List V) (us : List Value), RpAll H ds xs → Vals xs us → ∃ as, ReadsAll s.heap us ds as ∧ sysModules ∉ as
  | [], xs, us, h, r => by
    obtain rfl := (show xs = [] from h)
    cases r
    exact ⟨_, .nil, by simp⟩
  | d :: ds, xs, us, h, r => by
    obtain ⟨x, rr, rfl, h1, h2⟩ := (show ∃ x r, xs = x :: r ∧ Rp H d x ∧ RpAll H ds r from h)
    cases r with
    | cons q qs =>
      obtain ⟨as, ra, na⟩ := Rp.reads I d x _ h1 q
      obtain ⟨bs, rb, nb⟩ := RpAll.reads I ds rr _ h2 qs
      exact ⟨_, .cons ra rb, fun z => (List.mem_append.mp z).elim na nb⟩
end
end
/-- repr of a list, a tuple, a dict of data -/
def rRepr : List V → Hp → VK → Prop := fun vs H Q => ∃ (x : V) (d : PyData), vs = [x] ∧ Rp H d x ∧ d.bulk ≤ 8000 ∧ d.depth ≤ 60 ∧ Q (.str d.shown) H
theorem call_repr {X : Cx} (hq : Quiet X.A) (hu : X.A.units + 64 < cLine) : CallR X (.builtin "repr") rRepr := by
  intro pins s σ H xs us Q I r h
  obtain ⟨x, d, rfl, hd, hb, hdp, q⟩ := h
  obtain ⟨u, rfl, r1⟩ := vals1 r
  obtain ⟨k1, k2⟩ := Rp.ok d x hd
  have sz : d.shown.length ≤ sizeLine := by
    have z := PyData.shown_le_bulk 1921 (by decide) d k2
    have e : (1921 + 2) * d.bulk ≤ 1923 * 8000 := Nat.mul_le_mul_left _ hb
    rw [sizeLine_eq]
    omega
  obtain ⟨as, ra, na⟩ := Rp.reads I d x u hd r1
  have goal : ∀ a, u = .ref a → wpAny (model X.prog X.w) X.A (call (.builtin "repr") [u]) (EP X pins σ Q) X.xe s := by
    rintro a rfl
    exact repr_of_reads' ra k1 (fun _ => na) hq (by omega) (fun _ _ e => e) (fun h' t tk hk => ⟨.str d.shown, H, I.kept hk, ⟨_, rfl⟩, q⟩) sz
  match d, hd with
  | .none, hd =>
    obtain rfl := (show x = .non from hd)
    cases r1
    exact PySem.P.repr_of_none ⟨.str _, H, I.tok _, ⟨_, rfl⟩, q⟩
  | .bool b, hd =>
    obtain rfl := (show x = .bl b from hd)
    cases r1
    exact PySem.P.repr_of_bool ⟨.str _, H, I.tok _, ⟨_, rfl⟩, q⟩
  | .int i, hd =>
    obtain ⟨rfl, hi⟩ := (show x = .int i ∧ i.natAbs.log2 < 1920 from hd)
    obtain ⟨t, rfl⟩ := r1
    exact PySem.P.repr_of_int hi ⟨.str _, H, I.tok _, ⟨_, rfl⟩, q⟩
  | .str y, hd =>
    obtain ⟨rfl, _⟩ := (show x = .str y ∧ ∀ c ∈ y.cps.toList, c < 16 ^ 8 from hd)
    obtain ⟨t, rfl⟩ := r1
    exact PySem.P.repr_of_str ⟨.str _, H, I.tok _, ⟨_, rfl⟩, q⟩ sz
  | .list ds, hd =>
    obtain ⟨a, _, rfl, _⟩ := (show ∃ a xs, x = .ref a ∧ a ≠ sysModules ∧ H a = some (.lst xs) ∧ RpAll H ds xs from hd)
    exact goal a r1
  | .tuple ds, hd =>
    obtain ⟨a, _, rfl, _⟩ := (show ∃ a xs, x = .ref a ∧ H a = some (.tup xs) ∧ RpAll H ds xs from hd)
    exact goal a r1
  | .dict [], hd =>
    obtain ⟨a, rfl, _⟩ := (show ∃ a, x = .ref a ∧ H a = some (.dK []) from hd)
    exact goal a r1
  | .dict (_ :: _), hd => exact (show False from hd).elim
/-- a list display whose place is told not to be the modules' own -/
theorem pe_lstN {X : Cx} {es : List Expr} {t : TA} {pos : Pos} (h : PA X es t) : PE X (.List es pos) (fun σ H Q => t σ H fun xs H1 => xs.length ≤ sizeLine ∧ ∀ p, H1 p = none → p ≠ sysModules → Q (.ref p) (upd H1 p (.lst xs))) := by
  refine ⟨fun pins s σ H Q I hq => ?_⟩
  refine wpAny_List_spliced (thn (h.run pos pins s σ H _ I hq) fun us s1 hh => ?_)
  obtain ⟨xs, H1, I1, r, z, q⟩ := hh
  have big := I1.big
  refine ⟨by rw [← r.length]; exact z, ⟨.ref s1.heap.objs.size, _, I1.laid (t' := s1.toks) (o := .lst xs) (fun b u e => Heap.get?_push_of_some _ e) (Nat.le_refl _) ⟨z, us, 0, r, Heap.get?_push_size _ rfl⟩, rfl, q _ (I1.hok.fresh (Nat.le_refl _)) fun e => ?_⟩⟩
  rw [e] at big
  exact absurd big (Nat.lt_irrefl _)
end Ly
namespace Ly
open PySem PySem.Spec PyProof.Rows L2
/-! ### the same rules, said of the written part that a block shares with its def -/
section
variable {X : Cx} {K : PySem.W.Frag}
theorem ixL (h : X.K = K) : IxR X (rIxL K) := h ▸ ix_list
theorem ixT (h : X.K = K) : IxR X (rIxT K) := h ▸ ix_tup
theorem isiK (h : X.K = K) : CallR X (.builtin "isinstance") (rIsi K) := h ▸ call_isi
theorem inK (h : X.K = K) : OpR X (compareOp .In) (rIn K false) := h ▸ op_in_seq
theorem ninK (h : X.K = K) : OpR X (compareOp .NotIn) (rIn K true) := h ▸ op_notIn_seq
def rLenL (K : PySem.W.Frag) : List V → Hp → VK → Prop := fun xs H Q => ∃ p ys, xs = [.ref p] ∧ SqL K H p ys ∧ Q (.int ys.length) H
def rLenT (K : PySem.W.Frag) : List V → Hp → VK → Prop := fun xs H Q => ∃ p ys, xs = [.ref p] ∧ SqT K H p ys ∧ Q (.int ys.length) H
theorem lenLK (h : X.K = K) : CallR X (.builtin "len") (rLenL K) := h ▸ call_lenL
theorem lenTK (h : X.K = K) : CallR X (.builtin "len") (rLenT K) := h ▸ call_lenT
end
end Ly
namespace Ly
open PySem PySem.Spec PyProof.Rows L2
theorem sameT {K : PySem.W.Frag} {H H' : Hp} {a : Addr} {xs : List V} (e : Same H H') (h : SqT K H a xs) : SqT K H' a xs := by
  rcases h with (h | ⟨o, h⟩) | h
  · exact .inl (.inl (e _ _ h))
  · exact .inl (.inr ⟨o, e _ _ h⟩)
  · exact .inr h
/-- a loop's comprehension that maps a list's items, told at once: y = [e for x in xs] -/
theorem same_set {H H1 : Hp} {p : Addr} {o : HO} (s : Same H H1) (n : H p = none) : Same H (upd H1 p o) := fun b u e => by
  rw [upd_ne (ne_of_none e n)]
  exact s _ _ e
end Ly

set_option Elab.async false
set_option linter.all false
set_option maxRecDepth 100000
set_option maxHeartbeats 4000000
/-! own layer: enumerate over a tuple -/
namespace PySem
open Sem (wp)
set_option maxHeartbeats 1000000 in
theorem ly_enum_new {v : Value} {o : Obj} {H : Heap → Prop} (B : Begins v o H) :
    Meets (Builtin.«enumerate.__new__» ⟨[.type "enumerate", v], []⟩) (fun _ R s => H s.heap ∧
      R (.ok (.ret (.ref (s.heap.push o).objs.size))) { s with heap := (s.heap.push o).push ({ cls := .type "enumerate", data := .fields #[.none, .bool false, .ref s.heap.objs.size, rawInt 0, .none, .none] } : Obj) }) :=
  .of_wp fun prog w A R s h => by
    obtain ⟨hp, gs, dr, tk, os⟩ := s
    obtain ⟨h1, h⟩ := h
    have sub := sub_enumerate
    have begin_ : ∀ {A' : Around} {E : Value → Shared → Prop} {Q : Value → Shared → Prop}, Q (.ref hp.objs.size) ⟨hp.push o, gs, dr, tk, os⟩ → wpAny (model prog w) A' (pyIter v) Q E ⟨hp, gs, dr, tk, os⟩ := fun q => B.iter prog w _ _ _ _ h1 q
    wp_walk using begin_
    refine wpAny_stack_any fun st => wpAny_pure ?_
    split
    · rename_i c _ _ _ _ _
      cases (c == Value.type "enumerate") <;> (wp_walk using begin_; exact ⟨_, rfl, h⟩)
    · wp_walk using begin_
      exact ⟨_, rfl, h⟩
theorem ly_enum_call {prog : Program} {w : World} {A : Around} {E : Value → Shared → Prop} {s : Shared} {v : Value} {o : Obj} {H : Heap → Prop} {Q : Value → Shared → Prop} (B : Begins v o H) (h1 : H s.heap)
    (h : ∀ h', IsEnum h' (s.heap.objs.size + 1) s.heap.objs.size 0 .none → h'.get? s.heap.objs.size = some o → (∀ b x, s.heap.get? b = some x → h'.get? b = some x) → Q (.ref (s.heap.objs.size + 1)) { s with heap := h' }) :
    wpAny (model prog w) A (call (.type "enumerate") [v]) Q E s := by
  refine callType_new F.called_enumerate (by decide) (F.typeCall_enumerate_1 _) (F.newCall_enumerate_1 _) (fun obj => F.args_object_init_2 obj _) F.entry_enumerate_new (ly_enum_new B) ⟨h1, ?_⟩
  have hz : (s.heap.push o).objs.size = s.heap.objs.size + 1 := Heap.size_push ..
  show _ ∧ _
  rw [hz]
  have he : IsEnum ((s.heap.push o).push { cls := .type "enumerate", data := .fields #[.none, .bool false, .ref s.heap.objs.size, rawInt 0, .none, .none] }) (s.heap.objs.size + 1) s.heap.objs.size 0 .none := by
    have k := Heap.get?_push_size (s.heap.push o) (o := { cls := .type "enumerate", data := .fields #[.none, .bool false, .ref s.heap.objs.size, rawInt 0, .none, .none] }) rfl
    rwa [hz] at k
  exact ⟨⟨_, he, rfl⟩, h _ he (Heap.get?_push_of_some _ (Heap.get?_push_size _ B.free)) fun b x q => Heap.get?_push_of_some _ (Heap.get?_push_of_some _ q)⟩
end PySem
namespace Ly
open PySem PySem.Spec PyProof.Rows L2
/-- the tuple at a, its items in new pairs with their places -/
def IteT (K : PySem.W.Frag) (a : Addr) : It :=
  ⟨fun i H => ∃ (xs : List V) (x : V), SqT K H a xs ∧ xs[i]? = some x, fun i H v H' => ∃ T x, v = .ref T ∧ H T = none ∧ H' = upd H T (.tup [.int (i : Nat), x]) ∧ ∀ xs, SqT K H a xs → xs[i]? = some x, fun i H => ∃ xs : List V, SqT K H a xs ∧ xs.length = i⟩
theorem turn_enumT {P : Program} {w : World} {K : PySem.W.Frag} {elts : List Expr} {kk : Nat} {tpos : Pos} (a e it : Addr) (hat : a ≠ it) (hae : e ≠ a) :
    Turn P w K (.Tuple elts kk tpos) (IteT K a) [e, it] e (fun i h => (∃ old, IsEnum h e it ((i : Nat) : Int) old) ∧ h.IsTupleIter it a i ∧ e ≠ it) where
  mem := List.mem_cons_self
  obj := fun i h st b hb => by
    obtain ⟨⟨old, he⟩, ⟨o, ho, hc, hd⟩, _⟩ := st
    rcases List.mem_cons.mp hb with z | z
    · rw [z]; exact ⟨_, he, fun v q => nomatch q⟩
    · rw [List.mem_singleton] at z
      exact ⟨o, z ▸ ho, fun v q => by rw [hd] at q; cases q⟩
  keep := fun i h h' st k => by
    obtain ⟨⟨old, he⟩, hi, hne⟩ := st
    exact ⟨⟨old, k e (by simp) _ he⟩, hi.at fun o q => k it (by simp) o q, hne⟩
  item := by
    intro X hP hw hK hc i pins s σ H E I hf st hg
    subst hP hw hK
    obtain ⟨⟨old, he⟩, hit, hne⟩ := st
    obtain ⟨xs, x, hq, hx⟩ := hg
    obtain ⟨its, rv, p, hz⟩ := I.tuple hq
    obtain ⟨u, hu, ru⟩ := rv.get hx
    have hel : e < s.heap.objs.size := Heap.lt_size he
    have hil : it < s.heap.objs.size := by
      obtain ⟨_, q, _⟩ := hit
      exact Heap.lt_size q
    have hin : i < its.toArray.size := by
      rw [List.size_toArray]
      exact (List.getElem?_eq_some_iff.mp hu).1
    refine wpAny_pyNext_enum_itemD (Draws.tuple (A := X.A.in1) (show X.A.in1.handled = none from I.ok.hd hc) it a hat its.toArray) he ⟨hit, p⟩ hin hne (by simp [hne, hae]) fun y h' tk hy ho st' hT hsz hk => ?_
    obtain ⟨hit', _⟩ := st'
    have ey : y = u := by
      have h2 : its[i]? = some y := by simpa using hy
      exact Option.some.inj (h2.symm.trans hu)
    subst ey
    refine ⟨_, rfl, wpAny_letOwnedTupleGo_enum (s := { s with heap := h', toks := tk + 1 }) ho fun h'' he' sb => ?_⟩
    have hT2 : h''.get? s.heap.objs.size = some { cls := .type "tuple", data := .seq #[.int i tk, y] } := (sb.2 _ (Nat.ne_of_gt hel)).trans hT
    have new : ObjOk X.prog X.w (upd H s.heap.objs.size (.tup [.int (i : Nat), x])) h'' s.heap.objs.size (.tup [.int (i : Nat), x]) :=
      ⟨by show 2 ≤ sizeLine; decide, [.int i tk, y], .cons ⟨_, rfl⟩ (.cons ru .nil), ⟨_, hT2, rfl, _, rfl⟩⟩
    have I1 : Inv X pins σ (upd H s.heap.objs.size (.tup [.int (i : Nat), x])) { s with heap := h'', toks := tk + 1 } :=
      I.turnedNew (ch := [e, it]) (fun b ob hb q => (sb.2 b (fun z => hb (by simp [z]))).trans (hk b ob (fun z => hb (by simp [z])) (fun z => hb (by simp [z])) q)) hf (Nat.le_refl _) new
    have e1 : ((i + 1 : Nat) : Int) = (i : Int) + 1 := by omega
    refine ⟨.ref s.heap.objs.size, _, I1, rfl, ⟨_, x, rfl, I.hok.fresh (Nat.le_refl _), rfl, fun ys hy' => by rw [I.tuple_inj hy' hq]; exact hx⟩, ⟨⟨y, by rw [e1]; exact he'⟩, hit'.at fun o q => (sb.2 it (Ne.symm hne)).trans q, hne⟩, fun b hb => ?_⟩
    have hb' : b < s.heap.objs.size := by
      rcases List.mem_cons.mp hb with z | z
      · rw [z]
        exact hel
      · rw [List.mem_singleton.mp z]
        exact hil
    rw [upd_ne (Nat.ne_of_lt hb')]
    exact (hf b hb).1
  done := by
    intro X hP hw hK hc i pins s σ H E I hf st hg
    subst hP hw hK
    obtain ⟨⟨old, he⟩, hit, hne⟩ := st
    obtain ⟨xs, hq, hx⟩ := hg
    obtain ⟨its, rv, p, hz⟩ := I.tuple hq
    obtain ⟨f0, f1, f2, f3, f4, f5⟩ := hf it (by simp)
    have hl : its.toArray.size = i := by
      rw [List.size_toArray, ← rv.length]
      exact hx
    have hit2 : s.heap.IsTupleIter it a its.toArray.size := by
      rw [hl]
      exact hit
    exact wpAny_pyNext_enum_endD (Draws.tuple (A := X.A.in1) (show X.A.in1.handled = none from I.ok.hd hc) it a hat its.toArray) he ⟨hit2, p⟩ fun h' eb => ⟨rfl, I.turned (t' := s.toks) (fun b o hb q => eb b o hb q) f0 f1 f3 f4 f5⟩
  self := fun A i s Q E st h => by
    obtain ⟨⟨_, he⟩, _⟩ := st
    exact wpAny_pyIter_enum he h
def iEnumT (K : PySem.W.Frag) (ta : TA) : TI := fun σ H R => ta σ H fun vs H1 => ∃ a xs, vs = [.ref a] ∧ SqT K H1 a xs ∧ R (IteT K a) H1
theorem pi_enumT {X : Cx} {e : Expr} {ta : TA} {p pos tpos : Pos} {elts : List Expr} {kk : Nat} (hg : Gl X "enumerate") (hm : X.mg "enumerate" = none) (ha : PA X [e] ta) (hs : starEach [e] X.env = [(false, eval e X.env)] := by rfl) :
    PI X (.Tuple elts kk tpos) (.Call (.Name "enumerate" p) [e] [] pos) (iEnumT X.K ta) := by
  refine ⟨fun pins s σ H R I h => ?_⟩
  refine Call_ (ld_blt I hg hm boot_enumerate (PyProof.Rows.callWith_type1 (thn (ha.run pos pins s σ H _ I h) fun us s1 hh => ?_) hs rfl))
  obtain ⟨vs, H1, I1, r1, a, xs, ex, hq, q⟩ := hh
  subst ex
  obtain ⟨u, rfl, ru⟩ := vals1 r1
  obtain rfl : u = Value.ref a := ru
  obtain ⟨its, rv, p', hz⟩ := I1.tuple hq
  have hal : a < s1.heap.objs.size := p'.lt
  refine ly_enum_call (begins_tuple a its.toArray) p' fun h' he hit hk => wpAny_pyIter_enum he ?_
  refine ⟨s1.heap.objs.size + 1, [s1.heap.objs.size + 1, s1.heap.objs.size], _, _, H1, rfl, I1.kept (t' := s1.toks) hk, turn_enumT a (s1.heap.objs.size + 1) s1.heap.objs.size (Nat.ne_of_lt hal) (Nat.ne_of_gt (Nat.lt_succ_of_lt hal)), ⟨⟨.none, he⟩, ⟨_, hit, rfl, rfl⟩, Nat.succ_ne_self _⟩, fun b hb => ?_, q⟩
  have hle : s1.heap.objs.size ≤ b := by
    rcases List.mem_cons.mp hb with z | z
    · rw [z]
      exact Nat.le_succ _
    · rw [List.mem_singleton.mp z]
      exact Nat.le_refl _
  exact I1.fpOk hle (I1.hok.fresh hle)
/-- the loop over it -/
theorem for_enumT {K : PySem.W.Frag} {a : Addr} {xs : List V} {g : TG} {tb : TS} {D : Ends} {σ : L2.St} {H : Hp} (Pv : Nat → L2.St → Hp → Prop) (h0 : Pv 0 σ H) (hl : ∀ i σ H, i ≤ xs.length → Pv i σ H → SqT K H a xs)
    (hs : ∀ i x σ H T, xs[i]? = some x → Pv i σ H → H T = none → g (.ref T) σ (upd H T (.tup [.int (i : Nat), x])) fun σ2 H2 => tb { D with nx := Pv (i + 1), ct := Pv (i + 1), bk := D.nx } σ2 H2) (hd : ∀ σ H, Pv xs.length σ H → D.nx σ H) :
    ∃ W : Nat → Nat → L2.St → Hp → Prop, (∃ m, W 0 m σ H) ∧ ∀ i m σ H, W i m σ H → ((IteT K a).stop i H ∧ D.nx σ H) ∨ ((IteT K a).go i H ∧ ∃ N : L2.St → Hp → Prop, (∀ σ' H', N σ' H' → ∃ m', m' < m ∧ W (i + 1) m' σ' H') ∧
      ∀ x H', (IteT K a).yld i H x H' → g x σ H' fun σ2 H2 => tb { D with nx := N, ct := N, bk := D.nx } σ2 H2) := by
  refine ⟨fun i m σ H => m + i = xs.length ∧ Pv i σ H, ⟨xs.length, by omega, h0⟩, ?_⟩
  rintro i m σ H ⟨em, p⟩
  have q := hl i σ H (by omega) p
  by_cases hlt : i < xs.length
  · refine .inr ⟨⟨xs, xs[i], q, List.getElem?_eq_getElem hlt⟩, Pv (i + 1), fun σ' H' p' => ⟨m - 1, by omega, by omega, p'⟩, fun v H' y => ?_⟩
    obtain ⟨T, x, rfl, nT, rfl, hx⟩ := y
    exact hs i x σ H T (hx xs q) p nT
  · have e : i = xs.length := by omega
    subst e
    exact .inl ⟨⟨xs, q, rfl⟩, hd σ H p⟩
end Ly

set_option Elab.async false
set_option linter.all false
set_option maxRecDepth 100000
set_option maxHeartbeats 4000000
/-! own classes: len, str, ==, != by their own defs; classes held by a variable, called with a star; made without arguments -/
namespace Ly
open PySem PySem.Spec PyProof.Rows L2
section
variable {X : Cx} {CX : CXT} {k : Nat} {f g C : Addr} {sp : Sp} {E : XK} {Q : VK} {us : List Value} {vs : List V} {A : Around} {pins : List (Addr × Obj)} {σ : L2.St} {H : Hp} {s : Shared}
theorem run_fnRA (F : FnR X.prog X.w X.K X.mg X.base CX k f sp) (hr : Room k A) (hf : A.frames = X.A.frames) (hx : Passes CX X E) (I : Inv X pins σ H s) (r : Vals vs us) (h : sp vs H Q E) :
    wpAny (model X.prog X.w) A (call (.ref f) us) (EP X pins σ Q) X.xe s := by
  have e := I.env0
  have e0 : Env0 X.prog X.w X.K X.mg X.base A X.stack s H := ⟨by rw [hf]; exact e.frames, e.mod, e.bs, e.bsz, e.funs, e.frf, e.hok, e.bare⟩
  refine wpAny_call (codeAny_mono (F A X.stack s H us vs Q E hr e0 r h) fun r s' hq => ?_)
  cases r with
  | error e => exact hx pins σ H s e s' I hq
  | ok fl =>
    cases fl with
    | ret u => exact I.after hq
    | next => exact False.elim hq
    | brk => exact False.elim hq
    | cont => exact False.elim hq
/-- the class at C has the def at g as its special m -/
structure Sp1 (K : PySem.W.Frag) (C g : Addr) (m : Str) : Prop where
  at_ : PySem.W.findIn K (.ref C) m = some (some (.ref g))
  fn : PySem.W.isFn K (.ref g) = true
theorem ins_inst {a C dx : Addr} {fs : List (Str × V)} (I : Inv X pins σ H s) (ea : H a = some (.ins C dx fs)) : ∃ ox od, PySem.W.InstAt s.heap a ox C od := by
  obtain ⟨mA, O, _⟩ := ins_get I.hok ea
  obtain ⟨od, J, _⟩ := O.look
  exact ⟨_, _, J⟩
def rLenO (C : Addr) (sp : Sp) (E : XK) : List V → Hp → VK → Prop := fun xs H Q => ∃ a dx fs, xs = [.ref a] ∧ H a = some (.ins C dx fs) ∧ sp [.ref a] H (fun v H' => ∃ n : Nat, v = .int n ∧ n < 2 ^ 62 ∧ Q (.int n) H') E
theorem call_lenO (c : Sp1 X.K C g "__len__") (F : FnR X.prog X.w X.K X.mg X.base CX k g sp) (hr : Room (k + 1) X.A) (hx : Passes CX X E) : CallR X (.builtin "len") (rLenO C sp E) := by
  intro pins s σ H xs us Q I r h
  obtain ⟨a, dx, fs, rfl, ea, q⟩ := h
  obtain ⟨u, rfl, r1⟩ := vals1 r
  obtain rfl : u = Value.ref a := r1
  obtain ⟨ox, od, J⟩ := ins_inst I ea
  obtain ⟨m, hF⟩ := I.fr
  refine PySem.W.len_K hF I.ok.mod.kin J c.at_ c.fn (wpAny_mono (run_fnRA (us := [.ref a]) (vs := [.ref a]) F hr.in1 rfl hx I (.cons rfl .nil) q) (fun v s' z => ?_) fun _ _ z => z)
  obtain ⟨w, H', I', rw_, n, rfl, hn, q'⟩ := z
  obtain ⟨t, rfl⟩ := (show ∃ t, v = Value.int (n : Int) t from rw_)
  have hn' : (n : Int) < 2 ^ 62 := by exact_mod_cast hn
  exact ⟨⟨Int.natCast_nonneg _, Int.lt_trans hn' (by decide)⟩, .int n, H', I'.tok _, ⟨_, rfl⟩, q'⟩
def rStrO (C : Addr) (sp : Sp) (E : XK) : List V → Hp → VK → Prop := fun xs H Q => ∃ a dx fs, xs = [.ref a] ∧ H a = some (.ins C dx fs) ∧ sp [.ref a] H (fun v H' => ∃ x : Str, v = .str x ∧ Q (.str x) H') E
theorem call_strO (c : Sp1 X.K C g "__str__") (F : FnR X.prog X.w X.K X.mg X.base CX k g sp) (hr : Room (k + 2) X.A) (hx : Passes CX X E) : CallR X (.type "str") (rStrO C sp E) := by
  intro pins s σ H xs us Q I r h
  obtain ⟨a, dx, fs, rfl, ea, q⟩ := h
  obtain ⟨u, rfl, r1⟩ := vals1 r
  obtain rfl : u = Value.ref a := r1
  obtain ⟨ox, od, J⟩ := ins_inst I ea
  refine PySem.W.kso_call hr.in1.in1.units0 I.kIn J c.at_ c.fn (wpAny_mono (run_fnRA (us := [.ref a]) (vs := [.ref a]) F hr.in1.in1 rfl hx I (.cons rfl .nil) q) (fun v s' z => ?_) fun _ _ z => z)
  obtain ⟨w, H', I', rw_, x, rfl, q'⟩ := z
  obtain ⟨t, rfl⟩ := (show ∃ t, v = Value.str x t from rw_)
  exact ⟨.str x, H', I', ⟨_, rfl⟩, q'⟩
/-! ### == and != of two instances of a class -/
def rEqO (C : Addr) (sp : Sp) (E : XK) (neg : Bool) : R2 := fun x y H Q => ∃ a b dx dy fs gs, x = .ref a ∧ y = .ref b ∧ H a = some (.ins C dx fs) ∧ H b = some (.ins C dy gs) ∧
  sp [.ref a, .ref b] H (fun v H' => ∃ t : Bool, v = .bl t ∧ Q (.bl (t != neg)) H') E
theorem op_eqO (c : Sp1 X.K C g "__eq__") (F : FnR X.prog X.w X.K X.mg X.base CX k g sp) (hr : Room k X.A) (hx : Passes CX X E) : OpR X (compareOp .Eq) (rEqO C sp E false) := by
  intro pins s σ H x y u v Q I rx ry h
  obtain ⟨a, b, dx, dy, fs, gs, rfl, rfl, ea, eb, q⟩ := h
  obtain rfl : u = Value.ref a := rx
  obtain rfl : v = Value.ref b := ry
  obtain ⟨ox, od, J⟩ := ins_inst I ea
  obtain ⟨oy, od', J'⟩ := ins_inst I eb
  obtain ⟨m, hF⟩ := I.fr
  refine PySem.W.cmp_ofEq (PySem.W.cmp_K (op := .Eq) (tb := .ref C) hr.units0 hF I.ok.mod.kin J J'.type (by simp [PySem.W.notFirst]) c.at_ c.fn ?_)
  refine wpAny_mono (run_fnRA (us := [.ref a, .ref b]) (vs := [.ref a, .ref b]) F hr rfl hx I (.cons rfl (.cons rfl .nil)) q) (fun v s' z => ?_) fun _ _ z => z
  obtain ⟨w, H', I', rw_, t, rfl, q'⟩ := z
  obtain rfl : v = Value.bool t := rw_
  refine ⟨.bl t, H', I', rfl, ?_⟩
  rw [Bool.bne_false] at q'
  exact q'
theorem ifBound_objNe {M : Model} {K : PySem.W.Frag} {A : Around} {E : Value → Shared → Prop} {s : Shared} {x C : Addr} {ox : Obj} {od : Option Obj} {args : List Value} {Q : Option Value → Shared → Prop} (X : K.In s.heap) (I : PySem.W.InstAt s.heap x ox C od)
    (hs : PySem.W.findIn K (.ref C) "__ne__" = some (some (.builtin "object.__ne__")))
    (h : wpAny M A (call (.builtin "object.__ne__") (.ref x :: args)) (fun v => Q (some v)) E s) : wpAny M A (callSpecialIfBound? (.ref x) "__ne__" args) Q E s := by
  simp only [callSpecialIfBound?, bindSpecialIfBound?]
  refine wpAny_holding (wpAny_bind (wpAny_bind (wpAny_bind (I.type.here ((PySem.W.looks_findIn X hs).here ?_)))))
  refine wpAny_bind (wpAny_askSetting (wpAny_ite ?_))
  have fin : wpAny M A (call (.builtin "object.__ne__") ([.ref x] ++ args) >>= fun v => pure (some v)) Q E s := wpAny_bind (wpAny_mono h (fun v s' h' => wpAny_pure h') fun _ _ h' => h')
  split
  · exact wpAny_bind (wpAny_of_eq (F.cmp_object.ne.bind _) (wpAny_pure (by exact fin)))
  · exact wpAny_tryCatch (wpAny_bind (wpAny_of_eq (F.cmp_object.ne.bind _) (wpAny_pure (by exact fin))))
theorem rc_ne {prog : Program} {w : World} {K : PySem.W.Frag} {A : Around} {E : Value → Shared → Prop} {s : Shared} {x C f : Addr} {ox : Obj} {od : Option Obj} {b tb : Value} {Q : Value → Shared → Prop} (hu : A.units + 1 < cLine) (X : K.In s.heap) (I : PySem.W.InstAt s.heap x ox C od)
    (hb : PySem.W.Looks (model prog w) s.heap (typeOf b) tb) (hn : PySem.W.notFirst K C tb = true) (hm : PySem.W.mroIn K C (.type "object") = some true) (hs : PySem.W.findIn K (.ref C) "__ne__" = some (some (.builtin "object.__ne__")))
    (he : PySem.W.findIn K (.ref C) "__eq__" = some (some (.ref f))) (hf : PySem.W.isFn K (.ref f) = true)
    (h : wpAny (model prog w) A.in1 (call (.ref f) [.ref x, b]) (fun v s' => ∃ t, v = .bool t ∧ Q (.bool (!t)) s') E s) : wpAny (model prog w) A (richCompare .NotEq (.ref x) b) Q E s := by
  have one : wpAny (model prog w) A (tryCompare (.ref x) "__ne__" b) (fun r s' => ∃ v, r = some v ∧ Q v s') E s := by
    unfold tryCompare
    refine wpAny_bind (ifBound_objNe X I hs (wpAny_call (codeAny_call_builtin F.cmp_object.ne.plain F.cmpEntry_ne (PySem.W.check_slot F.cmpKind_ne F.cmpSplit_ne (I.type.andThen (PySem.W.looks_mroIn X hm)) (F.cmpArgs_ne _ _) ?_))))
    unfold Builtin.«object.__ne__»
    refine wpAny_bind (wpAny_pure ?_)
    refine wpAny_bind (wpAny_cRoomFor hu ?_)
    refine wpAny_bind (m := callSpecialIfBound? (.ref x) (Str.ofString "__eq__") [b]) (PySem.W.ifBound_K X I he hf (wpAny_mono h (fun v s' hv => ?_) fun _ _ e => e))
    obtain ⟨t, rfl, q⟩ := hv
    refine wpAny_bind (wpAny_truthy_bool ?_)
    exact wpAny_pure (by exact wpAny_pure ⟨_, rfl, q⟩)
  unfold richCompare
  simp only [oneThing_ref, cmpInfo_NotEq]
  refine wpAny_holding (wpAny_bind (wpAny_cRoomFor (Nat.lt_of_succ_lt hu) ?_))
  refine wpAny_bind (I.type.here (wpAny_bind (hb.here ?_)))
  split
  · rename_i q
    have e : PySem.W.subIn K tb (.ref C) = some false := by
      rcases Bool.or_eq_true_iff.mp hn with e | e
      · rw [beq_iff_eq.mp e] at q; simp at q
      · exact beq_iff_eq.mp e
    refine wpAny_bind ((PySem.W.looks_subIn X e).here ?_)
    simp only [Bool.false_eq_true, if_false]
    refine wpAny_bind (wpAny_mono one (fun r s' z => ?_) fun _ _ e => e)
    obtain ⟨v, rfl, hq⟩ := z
    exact wpAny_pure hq
  · refine wpAny_bind (wpAny_pure ?_)
    simp only [Bool.false_eq_true, if_false]
    refine wpAny_bind (wpAny_mono one (fun r s' z => ?_) fun _ _ e => e)
    obtain ⟨v, rfl, hq⟩ := z
    exact wpAny_pure hq
/-- the class keeps object's own != -/
structure NeO (K : PySem.W.Frag) (C : Addr) : Prop where
  at_ : PySem.W.findIn K (.ref C) "__ne__" = some (some (.builtin "object.__ne__"))
  mro : PySem.W.mroIn K C (.type "object") = some true
theorem op_neO (c : Sp1 X.K C g "__eq__") (n : NeO X.K C) (F : FnR X.prog X.w X.K X.mg X.base CX k g sp) (hr : Room (k + 1) X.A) (hx : Passes CX X E) : OpR X (compareOp .NotEq) (rEqO C sp E true) := by
  intro pins s σ H x y u v Q I rx ry h
  obtain ⟨a, b, dx, dy, fs, gs, rfl, rfl, ea, eb, q⟩ := h
  obtain rfl : u = Value.ref a := rx
  obtain rfl : v = Value.ref b := ry
  obtain ⟨ox, od, J⟩ := ins_inst I ea
  obtain ⟨oy, od', J'⟩ := ins_inst I eb
  have hu : X.A.units + 1 < cLine := by have := hr.un; omega
  refine PySem.W.cmp_ofNotEq (rc_ne hu I.kIn J J'.type (by simp [PySem.W.notFirst]) n.mro n.at_ c.at_ c.fn ?_)
  refine wpAny_mono (run_fnRA (us := [.ref a, .ref b]) (vs := [.ref a, .ref b]) F hr.in1 rfl hx I (.cons rfl (.cons rfl .nil)) q) (fun v s' z => ?_) fun _ _ z => z
  obtain ⟨w, H', I', rw_, t, rfl, q'⟩ := z
  obtain rfl : v = Value.bool t := rw_
  refine ⟨t, rfl, .bl (!t), H', I', rfl, ?_⟩
  rw [Bool.bne_true] at q'
  exact q'
end
/-! ### making -/
section
variable {X : Cx} {CX : CXT} {k i : Nat} {f C : Addr} {sp : Sp} {E : XK} {x : Str} {e : Expr} {te : TE} {p pos sp_ : Pos}
theorem pe_makeR0 (M : Mk X.K C f) (F : FnR X.prog X.w X.K X.mg X.base CX k f sp) (hr : Room (k + 1) X.A) (hg : Gl X x) (hm : X.mg x = some (.ref C)) (hx : Passes CX X E) (hdb : (x == ("__debug__" : Str)) = false := by decide) :
    PE X (.Call (.Name x p) [] [] pos) (StX.tMakeR C sp E tNil) := by
  refine ⟨fun pins s σ H Q I h => ?_⟩
  refine wpAny_Call_Name_kw (ld_glob I hg hm ?_ hdb)
  exact PySem.W.callWith_K0 I.kIn M.kp (StX.run_makeR (us := []) M F hr hx I .nil h)
/-- x(*e), x a variable that holds the class at C -/
def tMakeVS (K : PySem.W.Frag) (C : Addr) (sp : Sp) (E : XK) (tx te : TE) : TE := fun σ H Q => tx σ H fun c H0 => c = .ref C ∧ te σ H0 fun y H1 => ∃ a xs, y = .ref a ∧ (SqT K H1 a xs ∨ SqL K H1 a xs) ∧
  ∀ x dx, H1 x = none → H1 dx = none → dx ≠ x → sp (V.ref x :: xs) (upd (upd H1 dx (.own x)) x (.ins C dx [])) (fun v H2 => v = .non ∧ Q (.ref x) H2) E
theorem pe_makeVS {tx : TE} (M : Mk X.K C f) (F : FnR X.prog X.w X.K X.mg X.base CX k f sp) (hr : Room (k + 1) X.A) (hx : Passes CX X E) (hv : PE X (.Name x p) tx) (he : PE X e te)
    (hst : starEach [.Starred e sp_] X.env = [(true, eval e X.env)] := by rfl) : PE X (.Call (.Name x p) [.Starred e sp_] [] pos) (tMakeVS X.K C sp E tx te) := by
  refine ⟨fun pins s σ H Q I h => ?_⟩
  refine wpAny_Call_Name_kw (thn (hv.run pins s σ H _ I h) fun u s1 ⟨c, H0, I0, rc, ec, q⟩ => ?_)
  subst ec
  obtain rfl : u = Value.ref C := rc
  refine PySem.W.callWith_S (h₀ := X.base) I.ok.mod.kin M.kp (thn (he.run pins s1 σ H0 _ I0 q) fun v s2 ⟨y, H1, I1, ry, a, xs, ey, hxs, q1⟩ => ?_) hst
  subst ey
  obtain rfl : v = Value.ref a := ry
  exact StX.star_any I1 hxs fun us s3 I3 rv => ⟨I3.kIn, StX.run_makeR M F hr hx I3 rv q1⟩
/-- C(*e), C a class of the module -/
theorem pe_makeS (M : Mk X.K C f) (F : FnR X.prog X.w X.K X.mg X.base CX k f sp) (hr : Room (k + 1) X.A) (hg : Gl X x) (hm : X.mg x = some (.ref C)) (hx : Passes CX X E) (he : PE X e te) (hdb : (x == ("__debug__" : Str)) = false := by decide)
    (hst : starEach [.Starred e sp_] X.env = [(true, eval e X.env)] := by rfl) : PE X (.Call (.Name x p) [.Starred e sp_] [] pos) (tMakeVS X.K C sp E (tC (.ref C)) te) :=
  pe_makeVS M F hr hx (pe_glob (v := .ref C) hg hm rfl hdb) he hst
end
end Ly

namespace Ly
open PySem PySem.Spec PyProof.Rows L2
section
variable {P : Program} {w : World} {K : PySem.W.Frag} {mg : Str → Option Value} {base : Heap} {k : Nat} {f : Addr} {fd : FuncData} {x qual : Str} {st : Stmt} {N ps : List Str} {pv : Str} {sp : Sp}
/-- a def whose last parameter takes what is left -/
theorem fun_star (F : Fun K x qual st f fd) (S : FnScope N (ps ++ [pv]) (defScope st))
    (hb : ∀ (kV doc pm : Value) (an : Option Addr) (cdv ct : Value) (us rest : List Value), us.length = ps.length → bindArgs (PySem.W.fnOf x qual (defArgs st) (defBody st) (defScope st) .none kV doc pm an cdv ct) ⟨us ++ rest, []⟩ = (newTuple rest >>= fun t => pure (ps.zip us ++ [(pv, t)])))
    (hbody : ∀ (cdv : Value) (A : Around) (outer : List Env) (s : Shared) (H : Hp) (vs : List V) (Q : VK) (E : XK), Room k (A.deeper (envOfC qual (defScope st) s.heap.objs.size f cdv)) → sp vs H Q E →
      ∃ t, PSs (cxOf CX0 P w K mg base N qual (defScope st) f cdv A outer s H E).nox (defBody st) t ∧ t { nx := fun _ H' => Q .non H', rt := Q } (start N vs) H) :
    FnR P w K mg base CX0 (k + 1) f (fun vs H Q E => ∃ ws rest, vs = ws ++ rest ∧ ws.length = ps.length ∧ rest.length ≤ sizeLine ∧ ∀ p, H p = none → sp (ws ++ [V.ref p]) (upd H p (.tup rest)) Q E) := by
  obtain ⟨oc, od, kV, doc, pm, an, cdv, ct, osl, rfl, lk, hcd⟩ := F.ex
  refine StX.fn_star lk hcd S StX.cxUp_none (fun us rest h => hb kV doc pm an cdv ct us rest h) fun A outer s H vs Q E hr hsp => ?_
  obtain ⟨t, h, q⟩ := hbody cdv A outer s H vs Q E hr hsp
  exact ⟨t, h.nox, q⟩
/-- a def of a class -/
structure Dm (K : PySem.W.Frag) (x qual : Str) (st : Stmt) (ps : List Str) (f : Addr) (fd : FuncData) : Prop where
  F : Fun K x qual st f fd
  b : Binds K fd ps []
theorem Dm.raw {CX : CXT} {x qual : Str} {st : Stmt} (D : Dm K x qual st ps f fd) (o : FnOk P w K mg base CX k f fd ps sp) : FnR P w K mg base CX k f sp := by
  have z := o.raw D.b .nil
  exact z.imp fun vs H Q E h => by rw [List.append_nil]; exact h
end
end Ly
namespace Ly
open PySem PySem.Spec PyProof.Rows L2
/-- a comprehension over things that stay: what is kept is told by f -/
theorem lc_fm {J : It} {g : TG} {tt : TT} {te : TE} {vs : List Nat} {σ : L2.St} {H1 : Hp} {D : Addr} {Qd : Hp → Prop} (xs : List V) (f : V → Option V) (nD : H1 D = none) (hz : xs.length ≤ sizeLine)
    (hgo : ∀ (i : Nat) (H : Hp), i < xs.length → Same H1 H → J.go i H) (hst : ∀ H, Same H1 H → J.stop xs.length H) (hy : ∀ (i : Nat) (x : V) (H H' : Hp), Same H1 H → J.yld i H x H' → H' = H ∧ xs[i]? = some x)
    (hs : ∀ (i : Nat) (x : V) (H : Hp) (Q : VK) (N : Hp → Prop), xs[i]? = some x → Same H1 H → (∀ y H4, f x = some y → Same H H4 → Q y H4) → (f x = none → ∀ H4, Same H H4 → N H4) →
      g x (wipe σ vs) H fun σ2 H2 => wipe σ2 vs = wipe σ vs ∧ tt σ2 H2 fun b H3 => if b = true then te σ2 H3 Q else N H3)
    (hd : ∀ H', Same H1 H' → H' D = some (.lst (xs.filterMap f)) → Qd H') : LcW J g tt te vs σ H1 D Qd := by
  refine lc_gen (n := xs.length) (fun i H => Same H1 H ∧ H D = some (.lst ((xs.take i).filterMap f))) ⟨same_new nD, upd_same⟩ (fun i H hi p => hgo i H hi p.1) (fun H p => hst H p.1) (fun i x H H' hi p y => ?_) (fun H p => ?_)
  · obtain ⟨s, hd'⟩ := p
    obtain ⟨rfl, hx⟩ := hy i x H H' s y
    have hstep : ∀ o : Option V, f x = o → (xs.take (i + 1)).filterMap f = (xs.take i).filterMap f ++ o.toList := fun o e => by
      rw [List.take_add_one, hx, List.filterMap_append]
      show _ ++ [x].filterMap f = _
      rw [List.filterMap_cons, e]
      cases o <;> rfl
    refine hs i x H' _ _ hx s (fun y H4 e s4 => ⟨_, s4 _ _ hd', ?_, same_set (s.trans s4) nD, ?_⟩) fun e H4 s4 => ⟨s.trans s4, ?_⟩
    · refine Nat.lt_of_le_of_lt (List.length_filterMap_le _ _) ?_
      rw [List.length_take]
      omega
    · rw [upd_same, hstep _ e]
      rfl
    · rw [hstep _ e, s4 _ _ hd']
      show _ = some (HO.lst (_ ++ []))
      rw [List.append_nil]
  · obtain ⟨s, hd'⟩ := p
    rw [List.take_of_length_le (Nat.le_refl _)] at hd'
    exact hd H s hd'
theorem filterMap_some {α β : Type} (f : α → β) : ∀ xs : List α, xs.filterMap (fun x => some (f x)) = xs.map f
  | [] => rfl
  | x :: xs => by
    rw [List.filterMap_cons, filterMap_some f xs]
    rfl
/-- .. over a tuple, all of it -/
theorem lc_mapT {K : PySem.W.Frag} {a : Addr} {g : TG} {tt : TT} {te : TE} {vs : List Nat} {σ : L2.St} {H1 : Hp} {D : Addr} {Qd : Hp → Prop} (xs : List V) (f : V → V) (hS : SqT K H1 a xs) (nD : H1 D = none) (hz : xs.length ≤ sizeLine)
    (hs : ∀ (i : Nat) (x : V) (H : Hp) (Q : VK) (N : Hp → Prop), xs[i]? = some x → Same H1 H → (∀ H4, Same H H4 → Q (f x) H4) → g x (wipe σ vs) H fun σ2 H2 => wipe σ2 vs = wipe σ vs ∧ tt σ2 H2 fun b H3 => if b = true then te σ2 H3 Q else N H3)
    (hd : ∀ H', Same H1 H' → H' D = some (.lst (xs.map f)) → Qd H') : LcW (Itt K a) g tt te vs σ H1 D Qd := by
  refine lc_tup (xs := xs) (fun i H => Same H1 H ∧ H D = some (.lst ((xs.take i).map f))) ⟨same_new nD, upd_same⟩ (fun i H _ p => sameT p.1 hS) (fun i x H hx p => ?_) (fun H p => ?_)
  · obtain ⟨s, hd'⟩ := p
    refine hs i x H _ _ hx s fun H4 s4 => ⟨_, s4 _ _ hd', ?_, same_set (s.trans s4) nD, ?_⟩
    · rw [List.length_map, List.length_take]
      have := (List.getElem?_eq_some_iff.mp hx).1
      omega
    · rw [upd_same, List.take_add_one, hx, List.map_append]
      rfl
  · obtain ⟨s, hd'⟩ := p
    rw [List.take_of_length_le (Nat.le_refl _)] at hd'
    exact hd H s hd'
/-- .. over a list -/
theorem lc_mapL {K : PySem.W.Frag} {a : Addr} {g : TG} {tt : TT} {te : TE} {vs : List Nat} {σ : L2.St} {H1 : Hp} {D : Addr} {Qd : Hp → Prop} (xs : List V) (f : V → Option V) (hS : SqL K H1 a xs) (nD : H1 D = none) (hz : xs.length ≤ sizeLine)
    (hs : ∀ (i : Nat) (x : V) (H : Hp) (Q : VK) (N : Hp → Prop), xs[i]? = some x → Same H1 H → (∀ y H4, f x = some y → Same H H4 → Q y H4) → (f x = none → ∀ H4, Same H H4 → N H4) →
      g x (wipe σ vs) H fun σ2 H2 => wipe σ2 vs = wipe σ vs ∧ tt σ2 H2 fun b H3 => if b = true then te σ2 H3 Q else N H3)
    (hd : ∀ H', Same H1 H' → H' D = some (.lst (xs.filterMap f)) → Qd H') : LcW (Itl K a) g tt te vs σ H1 D Qd := by
  have hS' : ∀ H, Same H1 H → SqL K H a xs := fun H s => by
    rcases hS with (h | ⟨o, h⟩) | h
    · exact .inl (.inl (s _ _ h))
    · exact .inl (.inr ⟨o, s _ _ h⟩)
    · exact .inr h
  refine lc_list (xs := xs) (fun i H => Same H1 H ∧ H D = some (.lst ((xs.take i).filterMap f))) ⟨same_new nD, upd_same⟩ (fun i H _ p => hS' H p.1) (fun i x H hx p => ?_) (fun H p => ?_)
  · obtain ⟨s, hd'⟩ := p
    have hi := (List.getElem?_eq_some_iff.mp hx).1
    have hstep : ∀ o : Option V, f x = o → (xs.take (i + 1)).filterMap f = (xs.take i).filterMap f ++ o.toList := fun o e => by
      rw [List.take_add_one, hx, List.filterMap_append]
      show _ ++ [x].filterMap f = _
      rw [List.filterMap_cons, e]
      cases o <;> rfl
    refine hs i x H _ _ hx s (fun y H4 e s4 => ⟨_, s4 _ _ hd', ?_, same_set (s.trans s4) nD, ?_⟩) fun e H4 s4 => ⟨s.trans s4, ?_⟩
    · refine Nat.lt_of_le_of_lt (List.length_filterMap_le _ _) ?_
      rw [List.length_take]
      omega
    · rw [upd_same, hstep _ e]
      rfl
    · rw [hstep _ e, s4 _ _ hd']
      show _ = some (HO.lst (_ ++ []))
      rw [List.append_nil]
  · obtain ⟨s, hd'⟩ := p
    rw [List.take_of_length_le (Nat.le_refl _)] at hd'
    exact hd H s hd'
end Ly

set_option Elab.async false
set_option linter.all false
set_option maxRecDepth 100000
set_option maxHeartbeats 4000000
/-! == and != of an own instance with a value of any known type, by the class's own == -/
namespace Ly
open PySem PySem.Spec PyProof.Rows L2
section
variable {X : Cx} {CX : CXT} {k : Nat} {g C : Addr} {sp : Sp} {E : XK}
def rEqX (K : PySem.W.Frag) (C : Addr) (sp : Sp) (E : XK) (neg : Bool) : R2 := fun x y H Q => ∃ a dx fs t, x = .ref a ∧ H a = some (.ins C dx fs) ∧ TyX K H y t ∧ PySem.W.notFirst K C t = true ∧
  sp [.ref a, y] H (fun v H' => ∃ b : Bool, v = .bl b ∧ Q (.bl (b != neg)) H') E
theorem op_eqX (c : Sp1 X.K C g "__eq__") (F : FnR X.prog X.w X.K X.mg X.base CX k g sp) (hr : Room k X.A) (hx : Passes CX X E) : OpR X (compareOp .Eq) (rEqX X.K C sp E false) := by
  intro pins s σ H x y u v Q I rx ry h
  obtain ⟨a, dx, fs, t, rfl, ea, ty, hn, q⟩ := h
  obtain rfl : u = Value.ref a := rx
  obtain ⟨ox, od, J⟩ := ins_inst I ea
  obtain ⟨Pk, Z, hP, _⟩ := kit_of I ry ty
  obtain ⟨m, hF⟩ := I.fr
  refine PySem.W.cmp_ofEq (PySem.W.cmp_K (op := .Eq) (tb := t) hr.units0 hF I.ok.mod.kin J (Z.ty _ _ I.kIn hP) hn c.at_ c.fn ?_)
  refine wpAny_mono (run_fnRA (us := [.ref a, v]) (vs := [.ref a, y]) F hr rfl hx I (.cons rfl (.cons ry .nil)) q) (fun v s' z => ?_) fun _ _ z => z
  obtain ⟨w, H', I', rw_, b, rfl, q'⟩ := z
  obtain rfl : v = Value.bool b := rw_
  refine ⟨.bl b, H', I', rfl, ?_⟩
  rw [Bool.bne_false] at q'
  exact q'
theorem op_neX (c : Sp1 X.K C g "__eq__") (n : NeO X.K C) (F : FnR X.prog X.w X.K X.mg X.base CX k g sp) (hr : Room (k + 1) X.A) (hx : Passes CX X E) : OpR X (compareOp .NotEq) (rEqX X.K C sp E true) := by
  intro pins s σ H x y u v Q I rx ry h
  obtain ⟨a, dx, fs, t, rfl, ea, ty, hn, q⟩ := h
  obtain rfl : u = Value.ref a := rx
  obtain ⟨ox, od, J⟩ := ins_inst I ea
  obtain ⟨Pk, Z, hP, _⟩ := kit_of I ry ty
  have hu : X.A.units + 1 < cLine := by have := hr.un; omega
  refine PySem.W.cmp_ofNotEq (rc_ne hu I.kIn J (Z.ty _ _ I.kIn hP) hn n.mro n.at_ c.at_ c.fn ?_)
  refine wpAny_mono (run_fnRA (us := [.ref a, v]) (vs := [.ref a, y]) F hr.in1 rfl hx I (.cons rfl (.cons ry .nil)) q) (fun v s' z => ?_) fun _ _ z => z
  obtain ⟨w, H', I', rw_, b, rfl, q'⟩ := z
  obtain rfl : v = Value.bool b := rw_
  refine ⟨b, rfl, .bl (!b), H', I', rfl, ?_⟩
  rw [Bool.bne_true] at q'
  exact q'
end
/-! ### an own binary operator: x >> y -/
section
variable {X : Cx} {CX : CXT} {k : Nat} {g C : Addr} {sp : Sp} {E : XK}
/-- two instances of the class at C -/
def rOpO (C : Addr) (sp : Sp) (E : XK) : R2 := fun x y H Q => ∃ a b dx dy fs gs, x = .ref a ∧ y = .ref b ∧ H a = some (.ins C dx fs) ∧ H b = some (.ins C dy gs) ∧
  sp [.ref a, .ref b] H (fun v H' => (∃ p, v = .ref p) ∧ Q v H') E
theorem op_ownO {op : Operator} (hs : PySem.W.findIn X.K (.ref C) (PySem.dunder op.info.2) = some (some (.ref g))) (hf : PySem.W.isFn X.K (.ref g) = true) (hc : PySem.W.selfFirst X.K C = true) (F : FnR X.prog X.w X.K X.mg X.base CX k g sp) (hr : Room k X.A) (hx : Passes CX X E) :
    OpR X (binaryOp op) (rOpO C sp E) := by
  intro pins s σ H x y u v Q I rx ry h
  obtain ⟨a, b, dx, dy, fs, gs, rfl, rfl, ea, eb, q⟩ := h
  obtain rfl : u = Value.ref a := rx
  obtain rfl : v = Value.ref b := ry
  obtain ⟨ox, od, J⟩ := ins_inst I ea
  obtain ⟨oy, od', J'⟩ := ins_inst I eb
  obtain ⟨m, hF⟩ := I.fr
  refine PySem.W.binop_K hF I.ok.mod.kin J J'.type hc hs hf ?_
  refine wpAny_mono (run_fnRA (us := [.ref a, .ref b]) (vs := [.ref a, .ref b]) F hr rfl hx I (.cons rfl (.cons rfl .nil)) q) (fun v s' z => ?_) fun _ _ z => z
  obtain ⟨w, H', I', rw_, ⟨p, rfl⟩, q'⟩ := z
  obtain rfl : v = Value.ref p := rw_
  exact ⟨.ref p, H', I', rfl, q'⟩
end
end Ly

namespace Ly
open PySem PySem.Spec PyProof.Rows L2
section
variable {X : Cx} {K : PySem.W.Frag}
/-- a tuple walked, a tuple taken apart: said of the written part that a block shares with its def -/
theorem piTK {tg e : Expr} {te : TE} (h : X.K = K) (he : PE X e te) : PI X tg e (iTup K te) := h ▸ pi_tup he
theorem pgTK {es : List Expr} {k : Nat} {t : TGs} {n : Nat} {pos : Pos} (h : X.K = K) (hc : X.calm = true) (hg : PGs X es t)
    (hn : (assignEach es X.env).length = n := by rfl) (hst : (assignEach es X.env).findIdx? (·.1) = none := by rfl) : PG X (.Tuple es k pos) (gTup K n t) := h ▸ pg_tup hc hg hn hst
end
end Ly

set_option Elab.async false
set_option linter.all false
set_option maxRecDepth 100000
set_option maxHeartbeats 4000000
/-! own layer: an own exception class with its own __init__, over any base -/
namespace PySem
namespace LX
open Builtin Builtin.ObjectAttr PySem.HandSPX
variable {prog : Program} {w : World} {A : Around} {E : Value → Shared → Prop} {R : Result → Shared → Prop} {hp : Heap} {g : Array GenState} {d : Drawn} {t : Nat} {os : OsState}
/-- object.__setattr__ upon an exception that has no dict as yet, where nobody in the mro objects -/
theorem osa_any {K : W.Frag} {name : Str} {tk : Tok} {v : Value} {x C : Addr} {fv : Array Value} {cd : ClassData} (kIn : K.In hp) (hx : hp.get? x = some { cls := .ref C, data := .fields fv }) (hcd : W.clsIn K C = some cd)
    (he : cd.mro.isEmpty = false) (hob : cd.mro.contains (.type "object") = true) (hps : refuseLoop (.ref x) "__setattr__" cd.mro = pure ()) (hh : cd.hasDict = true) (ha : W.findIn K (.ref C) name = some none)
    (hq : ∀ h' tk' dx, (∀ b o, b ≠ x → hp.get? b = some o → h'.get? b = some o) → hp.objs.size ≤ dx → dx ≠ x → h'.get? x = some { cls := .ref C, dict := some dx, data := .fields fv } → h'.Ns1 dx (fun y => if y = name then some v else none) → R (.ok (.ret .none)) ⟨h', g, d, tk', os⟩) :
    codeAny (model prog w) A (.call (.builtin "object.__setattr__") ⟨[.ref x, .str name tk, v], []⟩) R ⟨hp, g, d, t, os⟩ := by
  have J : W.InstAt hp x { cls := .ref C, data := .fields fv } C none := ⟨hx, rfl, rfl, trivial⟩
  have nxs : x ≠ hp.objs.size := Nat.ne_of_lt (Heap.lt_size hx)
  have isO : W.Looks (model prog w) hp (isInstance (.ref x) (.type "object")) true := J.type.andThen (W.looks_mroIn kIn (by unfold W.mroIn; rw [hcd, Option.bind_some, if_neg (by rw [he]; decide), hob]))
  refine codeAny_call_builtin F.store_object.slot.plain F.store_object.entry (@W.check_slot (model prog w) _ _ ⟨hp, g, d, t, os⟩ "object.__setattr__" "object" "__setattr__" (.ref x) [.str name tk, v] [] _ F.store_object.kind F.store_object.split isO (F.store_object.args (.ref x) (.str name tk) v) ?_)
  have lm : W.Looks (model prog w) hp (mroOf (.ref C)) cd.mro := (W.looks_clsIn kIn hcd).andThen .now
  have lc : W.Looks (model prog w) hp (classData C) cd := W.looks_clsIn kIn hcd
  have ln : W.Looks (model prog w) hp (storeTaker? none) none := .now
  rw [W.osa_eq, refuse_eq]; refine wpAny_bind (wpAny_bind (J.type.at (wpAny_bind (lm.at ?_)))); rw [hps]
  refine wpAny_pure (wpAny_bind (J.type.at (wpAny_bind ((W.looks_findIn kIn ha).at (wpAny_bind (ln.at ?_)))))); show wpAny _ _ (storeInOwnDict (.ref x) (.ref C) (.str name tk) name v false) _ _ _
  obtain ⟨nm, bs, mro, ns, qn, hd, sn, sb, ab, col, del⟩ := cd
  dsimp only at hh; subst hh
  unfold storeInOwnDict ownDictForStores
  repeat (first | with_reducible refine store_in_new ?_ ?_ | with_reducible refine wpAny_loadPart_at hx ?_ | with_reducible refine lc.at ?_ | wp_step)
  · exact ⟨_, #[], _, (Heap.get?_update_ne _ _ _ _ nxs.symm).trans (Heap.get?_push_at rfl rfl), rfl, fun e he => absurd he (by simp), fun _ => rfl⟩
  · intro h' tk' hn' hs
    have hx1 : (hp.push { cls := .type "dict", data := .dict #[] }).get? x = some { cls := .ref C, data := .fields fv } := Heap.get?_push_of_some _ hx
    exact hq h' tk' hp.objs.size (fun b o hb ho => (hs.2 b (Nat.ne_of_lt (Heap.lt_size ho))).trans ((Heap.get?_update_ne _ _ _ _ hb).trans (Heap.get?_push_of_some _ ho))) (Nat.le_refl _) nxs.symm ((hs.2 x nxs).trans (Heap.get?_update_self _ hx1 rfl)) hn'
end LX
end PySem
namespace Ly
open PySem PySem.Spec PyProof.Rows L2
/-- what the written part says of such a class, its base the built-in class B -/
structure OexX (K : PySem.W.Frag) (C : Addr) (B newId initId : String) (bm : List Value) : Prop where
  base : ExcBaseFacts B newId initId bm
  pass : ∀ self : Value, refuseLoop self "__setattr__" bm = pure ()
  obj : bm.contains (.type "object") = true
  cls : ∃ nm q N bs sn sub ab col dd k0 k1 k2 k3 k5, K.lookup C = some (excClassObj nm q C N bs bm true sn sub ab col dd k0 k1 k2 k3 k5 newId)
  sa : PySem.W.findIn K (.ref C) "__setattr__" = some (some (.builtin "object.__setattr__"))
  exC : PySem.W.subIn K (.ref C) (.type "BaseException") = some true
  tyC : PySem.W.typeIn K (.ref C) = some (.type "type")
  kC : PySem.W.keepIn K (.ref C) = true
section
variable {X : Cx} {pins : List (Addr × Obj)} {σ : L2.St} {H : Hp} {s : Shared} {a C dx : Addr} {f : Str} {y : V} {u : Value} {B newId initId : String} {bm : List Value}
/-- self.f = y, the first one -/
theorem ost_first {Q : Unit → Shared → Prop} {E : Value → Shared → Prop} {A : Around} (T : OexX X.K C B newId initId bm) (I : Inv X pins σ H s) (e : H a = some (exo a C none)) (hno : PySem.W.findIn X.K (.ref C) f = some none) (ry : RelV y u)
    (h : ∀ dx s', H dx = none → dx ≠ a → Inv X pins σ (upd (upd H dx (exd dx [(f, y)])) a (exo a C (some dx))) s' → Q () s') : wpAny (model X.prog X.w) A (setAttr (.ref a) f u) Q E s := by
  obtain ⟨nm, q, N, bs, sn, sub, ab, col, dd, k0, k1, k2, k3, k5, lC⟩ := T.cls
  obtain ⟨t1, ho⟩ := exo_at I.hok e
  obtain ⟨hp, gs, dr, t, os⟩ := s
  have lcd : PySem.W.clsIn X.K C = some { name := nm, bases := bs, mro := .ref C :: bm, ns := N, qualname := q, hasDict := true, slotNames := sn, subclasses := sub, abstract := ab, collection := col, hasDel := false } := by
    unfold PySem.W.clsIn
    rw [lC] <;> rfl
  refine PySem.W.set_plain I.kIn (ox := { cls := .ref C, dict := none, data := .fields #[.ref t1, .none, .none, .none, .bool false, .none] }) (od := none) ⟨ho, rfl, rfl, trivial⟩ T.sa ?_
  refine PySem.LX.osa_any I.kIn ho lcd rfl (by show (Value.ref C :: bm).contains _ = true; rw [List.contains_cons, T.obj, Bool.or_true]) ((refuseLoop_ref _ _ _ _).trans (T.pass _)) rfl hno (fun h' tk' dx k dn dne hx hn => ?_)
  have fd : H dx = none := I.hok.fresh dn
  have fa : ∀ {b : Addr}, H b = none → b ≠ a := fun {b} n z => by
    rw [z, e] at n
    cases n
  have fb : ∀ {b : Addr} {o : Obj}, hp.get? b = some o → b ≠ dx := fun {b o} z => Nat.ne_of_lt (Nat.lt_of_lt_of_le (Heap.lt_size z) dn)
  have U : Un X.fs [] H (upd (upd H dx (exd dx [(f, y)])) a (exo a C (some dx))) hp h' :=
    { keep := fun b o z n _ _ => k b o (fa n) z
      slot := fun b o z n _ _ => ⟨o.slots, k b o (fa n) z⟩
      free := fun b o z n _ => (upd_ne (fa n)).trans ((upd_ne (fb z)).trans n)
      there := fun b o z _ => by
        by_cases hb : b = a
        · exact ⟨_, by rw [hb]; exact hx⟩
        · exact ⟨o, k b o hb z⟩
      tups := fun b xs z => (upd_ne (at_ne e z exo_tup)).trans ((upd_ne (ne_of_none z fd)).trans z)
      frzs := fun b o v z => (upd_ne (at_ne e z exo_frz)).trans ((upd_ne (ne_of_none z fd)).trans z)
      tbls := fun b ps z => ⟨#[], by rw [upd_ne (at_ne e z exo_tbl), upd_ne (ne_of_none z fd), z]; simp⟩ }
  refine h dx _ fd dne (I.un (t' := tk') U fun b o z => ?_)
  by_cases hb : b = a
  · subst hb
    rw [upd_same] at z
    cases z
    exact exo_ok hx
  rw [upd_ne hb] at z
  by_cases hd : b = dx
  · subst hd
    rw [upd_same] at z
    cases z
    exact exd_ok hn (relO_put (fs := []) ry fun _ => True.intro)
  rw [upd_ne hd] at z
  refine (I.hok b o z).stay (fun c v hc w' => k c v ?_ w') (fun c hc => (upd_ne (at_ne e hc exo_own)).trans ((upd_ne (ne_of_none hc fd)).trans hc)) (fun c xs hc => (upd_ne (at_ne e hc exo_tup)).trans ((upd_ne (ne_of_none hc fd)).trans hc))
  rcases hc with hc | hc
  · rw [hc]
    exact hb
  · exact at_ne e hc exo_own
end
/-- self.f = e, the first field -/
def tOst1 (K : PySem.W.Frag) (C : Addr) (f : Str) (to te : TE) : TS := fun D σ H => te σ H fun y H1 => to σ H1 fun x H2 => ∃ a : Addr, x = .ref a ∧ H2 a = some (exo a C none) ∧ ∀ dx, H2 dx = none → dx ≠ a → D.nx σ (upd (upd H2 dx (exd dx [(f, y)])) a (exo a C (some dx)))
section
variable {X : Cx} {o e : Expr} {es : List Expr} {to te : TE} {ta : TA} {f : Str} {p p' pos : Pos} {C : Addr} {B newId initId : String} {bm : List Value}
theorem ps_ost1 (T : OexX X.K C B newId initId bm) (hno : PySem.W.findIn X.K (.ref C) f = some none) (ho : PE X o to) (he : PE X e te) (hs : swapsWith e (some (.Attribute o f p')) pos.line X.env = pure false := by rfl) : PS X (.Assign [.Attribute o f p'] e pos) (tOst1 X.K C f to te) := by
  refine ⟨fun pins s σ H D I h => ?_⟩
  refine plainObj_wpAny_Assign_Attribute (thn (he.run pins s σ H _ I h) fun v s1 ⟨y, H1, I1, r1, q1⟩ => thn (ho.run pins s1 σ H1 _ I1 q1) fun u s2 ⟨x, H2, I2, r2, a, ex, ea, q⟩ => ?_) hs
  subst ex
  obtain rfl : u = Value.ref a := r2
  exact ost_first T I2 ea hno r1 fun dx s' n ne J => ⟨σ, _, J, q dx n ne⟩
/-- C(e, ..): its own __init__ keeps sp -/
theorem pmk_any {CX : CXT} {x : Str} {fI : Addr} {k : Nat} {fd : FuncData} {ps : List Str} {sp : Sp} {ds : List Value} {dvs : List V} (T : OexX X.K C B newId initId bm) (iC : PySem.W.findIn X.K (.ref C) "__init__" = some (some (.ref fI))) (tI : PySem.W.typeIn X.K (.ref fI) = some (.type "function"))
    (F1 : FnOk X.prog X.w X.K X.mg X.base CX k fI fd ps sp) (hr : Room (k + 1) X.A) (hb : Binds X.K fd ps ds) (hd : Vals dvs ds) (hx : Passes CX X (fun _ _ _ => False)) (hg : Gl X x) (hm : X.mg x = some (.ref C)) (ha : PA X (e :: es) ta)
    (hdb : (x == ("__debug__" : Str)) = false := by decide) (he : starEach (e :: es) X.env = (false, eval e X.env) :: starEach es X.env := by rfl) (hpl : (backTo pos (starEach es X.env)).any (·.1) = false := by rfl) :
    PMk X (.Call (.Name x p) (e :: es) [] pos) (tMkO C sp dvs ta) := by
  intro pins s σ H Q I h
  obtain ⟨nm, q, N, bs, sn, sub, ab, col, dd, k0, k1, k2, k3, k5, lC⟩ := T.cls
  refine wpAny_Call_Name_kw (ld_glob I hg hm ?_ hdb)
  refine PySem.W.callWith_K (h₀ := X.base) I.ok.mod.kin T.kC (thn (ha.run pos pins s σ H _ I h) fun us s1 ⟨vs, H1, I1, r1, hz, q1⟩ => ⟨I1.kIn, ?_⟩) he hpl
  show wpAny _ _ (call (.ref C) us) _ _ _
  obtain ⟨hp, gs, dr, tk, os⟩ := s1
  have le1 : hp.objs.size ≤ hp.objs.size + 1 := Nat.le_succ _
  have hq := q1 (hp.objs.size + 1) (I1.hok.fresh le1)
  have up : ∀ b o, hp.get? b = some o → ((hp.push (PySem.W.kdv_tup us)).push (PySem.HandSPX.excO C hp.objs.size)).get? b = some o := fun b o z => Heap.get?_push_of_some _ (Heap.get?_push_of_some _ z)
  have at1 : ((hp.push (PySem.W.kdv_tup us)).push (PySem.HandSPX.excO C hp.objs.size)).get? (hp.objs.size + 1) = some (PySem.HandSPX.excO C hp.objs.size) := by heap_get
  have J : Inv X pins σ (upd H1 (hp.objs.size + 1) (exo (hp.objs.size + 1) C none)) ⟨(hp.push (PySem.W.kdv_tup us)).push (PySem.HandSPX.excO C hp.objs.size), gs, dr, tk, os⟩ :=
    I1.laid (t' := tk) (a := hp.objs.size + 1) (o := exo (hp.objs.size + 1) C none) (h' := (hp.push (PySem.W.kdv_tup us)).push (PySem.HandSPX.excO C hp.objs.size)) up le1 (exo_ok at1)
  have rv : Vals (V.ref (hp.objs.size + 1) :: (vs ++ dvs)) (Value.ref (hp.objs.size + 1) :: (us ++ ds)) := .cons rfl (r1.append hd)
  have nl : (Value.ref (hp.objs.size + 1) :: us ++ ds).length = ps.length := (rv.length.symm.trans (F1.len _ _ _ _ hq))
  have nu : us.length ≤ sizeLine := by
    rw [← Paired.length r1, sizeLine_eq]
    omega
  refine wpAny_call (PySem.HandSPX.call_own T.base (fun _ => rfl) (I1.kIn _ _ lC) (PySem.W.looks_findIn I1.kIn iC) (fun self => PySem.W.bind_fn I1.kIn self tI) nu
    (codeAny_mono (F1.run _ X.stack _ _ ⟨Value.ref (hp.objs.size + 1) :: us, []⟩ (Value.ref (hp.objs.size + 1) :: (us ++ ds)) _ _ (fun _ _ _ => False) (hr.make C us []) (J.env0.make C us []) (hb _ (Value.ref (hp.objs.size + 1) :: us) J.kIn nl) rv hq) fun r s' hq' => ?_))
  rcases r with er | fl
  · exact hx pins σ _ _ er s' J hq'
  · cases fl with
    | ret u =>
      obtain ⟨v, H2, os2, bare2, un2, hok2, rv2, ev, d, fs, ea, ed, hd1, q2⟩ := hq'
      subst ev
      obtain ⟨h2, g2, d2, t2, os'⟩ := s'
      exact ⟨rv2, mk_end (raises_own T.exC T.tyC) I1 le1 up un2 hok2 os2 bare2 ea ed hd1 q2⟩
    | next | brk | cont => exact False.elim hq'
end
end Ly
namespace Ly
open PySem PySem.Spec PyProof.Rows L2
section
variable {X : Cx} {pins : List (Addr × Obj)} {σ : L2.St} {H : Hp} {s : Shared}
theorem run_fnAt {CX : CXT} {k : Nat} {f : Addr} {sp : Sp} {E : XK} {Q : VK} {us : List Value} {vs : List V} {A : Around} (F : FnR X.prog X.w X.K X.mg X.base CX k f sp) (hr : Room k A) (hf : A.frames = X.A.frames) (hx : PassesAt CX X σ E) (I : Inv X pins σ H s) (r : Vals vs us) (h : sp vs H Q E) :
    wpAny (model X.prog X.w) A (call (.ref f) us) (EP X pins σ Q) X.xe s := by
  refine wpAny_call (codeAny_mono (F A X.stack s H us vs Q E hr ⟨hf.trans I.env0.frames, I.env0.mod, I.env0.bs, I.env0.bsz, I.env0.funs, I.env0.frf, I.env0.hok, I.env0.bare⟩ r h) fun r s' hq => ?_)
  cases r with
  | error e => exact hx pins H s e s' I hq
  | ok fl =>
    cases fl with
    | ret u => exact I.after hq
    | next | brk | cont => exact False.elim hq
/-- x op y by the class's own def, which may raise -/
def tOpS (C : Addr) (sp : Sp) (E : L2.St → XK) (ta tb : TE) : TE := fun σ H Q => ta σ H fun x H1 => tb σ H1 fun y H2 => ∃ a b dx dy fs gs, x = .ref a ∧ y = .ref b ∧ H2 a = some (.ins C dx fs) ∧ H2 b = some (.ins C dy gs) ∧ sp [.ref a, .ref b] H2 (fun v H' => (∃ p, v = .ref p) ∧ Q v H') (E σ)
theorem pe_opS {CX : CXT} {k : Nat} {g C : Addr} {sp : Sp} {E : L2.St → XK} {op : Operator} {a b : Expr} {ta tb : TE} {pos : Pos} (hs : PySem.W.findIn X.K (.ref C) (PySem.dunder op.info.2) = some (some (.ref g))) (hf : PySem.W.isFn X.K (.ref g) = true) (hc : PySem.W.selfFirst X.K C = true)
    (F : FnR X.prog X.w X.K X.mg X.base CX k g sp) (hr : Room k X.A) (hx : ∀ σ, PassesAt CX X σ (E σ)) (ha : PE X a ta) (hb : PE X b tb) : PE X (.BinOp a op b pos) (tOpS C sp E ta tb) := by
  refine ⟨fun pins s σ H Q I h => ?_⟩
  refine wpAny_BinOp (binT ha hb I h fun v u s2 x y H2 I2 rx ry q => ?_)
  obtain ⟨p, r, dx, dy, fs, gs, rfl, rfl, ea, eb, q⟩ := q
  obtain rfl : v = Value.ref p := rx
  obtain rfl : u = Value.ref r := ry
  obtain ⟨ox, od, J⟩ := ins_inst I2 ea
  obtain ⟨oy, od', J'⟩ := ins_inst I2 eb
  obtain ⟨m, hF⟩ := I2.fr
  refine PySem.W.binop_K hF I2.ok.mod.kin J J'.type hc hs hf ?_
  refine wpAny_mono (run_fnAt (us := [.ref p, .ref r]) (vs := [.ref p, .ref r]) F hr rfl (hx σ) I2 (.cons rfl (.cons rfl .nil)) q) (fun v s' z => ?_) fun _ _ z => z
  obtain ⟨w, H', I', rw_, ⟨p', rfl⟩, q'⟩ := z
  obtain rfl : v = Value.ref p' := rw_
  exact ⟨.ref p', H', I', rfl, q'⟩
end
end Ly

set_option Elab.async false
set_option linter.all false
set_option maxRecDepth 100000
set_option maxHeartbeats 4000000
/-! own layer: set comprehensions whatever the members are (told by what one set.add does), set(..) of a tuple of ints, static methods -/
namespace Ly
open PySem PySem.Spec PyProof.Rows L2
/-- what one set.add does, told on abstract heaps: D the set, y the member, N what is wanted then -/
abbrev RAdd := Addr → V → Hp → (Hp → Prop) → Prop
structure SetRule (X : Cx) (z : Addr → HO) (rA : RAdd) : Prop where
  zero : ∀ (H : Hp) (h : Heap) (D : Addr), h.get? D = some { cls := .type "set", dict := none, data := .set #[] 0 (.fresh 0 0 (!X.w.params.followText "set-order")) } → ObjOk X.prog X.w H h D (z D)
  add : ∀ (pins : List (Addr × Obj)) (σ : L2.St) (H : Hp) (s : Shared) (D : Addr) (y : V) (u : Value) (N : Hp → Prop) (E : Value → Shared → Prop) (Q : Value → Shared → Prop), Inv X pins σ H s → RelV y u → rA D y H N →
    (∀ H' s', N H' → Inv X pins σ H' s' → Q .none s') → wpAny (model X.prog X.w) X.A (call (.builtin "set.add") [.ref D, u]) Q E s
/-- the turns of a set's block: W a measure and a word for each turn -/
abbrev ScW (z : Addr → HO) (rA : RAdd) (J : It) (g : TG) (tt : TT) (te : TE) (vs : List Nat) (σ : L2.St) (H1 : Hp) (D : Addr) (Qd : Hp → Prop) : Prop :=
  ∃ W : Nat → Nat → Hp → Prop, (∃ m, W 0 m (upd H1 D (z D))) ∧ ∀ i m H, W i m H → (J.stop i H ∧ Qd H) ∨ (J.go i H ∧ ∃ N : Hp → Prop, (∀ H', N H' → ∃ m', m' < m ∧ W (i + 1) m' H') ∧
    ∀ x H', J.yld i H x H' → g x (wipe σ vs) H' fun σ2 H2 => wipe σ2 vs = wipe σ vs ∧ tt σ2 H2 fun b H3 => if b = true then te σ2 H3 fun y H4 => rA D y H4 N else N H3)
def tScX (z : Addr → HO) (rA : RAdd) (wi : TI) (g : TG) (tt : TT) (te : TE) (vs : List Nat) : TE := fun σ H Q => wi σ H fun J H1 => ∀ D, H1 D = none → ScW z rA J g tt te vs σ H1 D fun H' => Q (.ref D) H'
section
variable {X : Cx} {z : Addr → HO} {rA : RAdd} {pins : List (Addr × Obj)}
/-- one turn of the block, from the iterator's step to the invariant of the next one -/
theorem sc_turn {Y : Cx} {elt tg : Expr} {ifs : List Expr} {g : TG} {tt : TT} {te : TE} {vs : List Nat} {σ : L2.St} {D it : Addr} {fp : List Addr} {J : It} {tn : Nat → Heap → Prop} {G : Nat → Shared → Prop} {E : Value → Shared → Prop}
    (R : SetRule Y z rA) (hc : Y.calm = true) (T : Turn Y.prog Y.w Y.K tg J fp it tn) (pg : PG Y tg g) (pt : PTs Y ifs tt) (pe : PE Y elt te) (hE : ∀ e s, Y.xe e s → E e s) (W : Nat → Nat → Hp → Prop) {i n : Nat} {H : Hp} {s : Shared}
    (fpok : ∀ H' s', Inv Y [] (wipe σ vs) H' s' → (∀ b ∈ fp, H' b = none) → ∀ b ∈ fp, FpOk Y [] H' b)
    (I : Inv Y [] (wipe σ vs) H s) (st : tn i s.heap) (no : ∀ b ∈ fp, H b = none) (go : J.go i H) (N : Hp → Prop) (hN : ∀ H', N H' → ∃ m', m' < n ∧ W (i + 1) m' H')
    (step : ∀ x H', J.yld i H x H' → g x (wipe σ vs) H' fun σ2 H2 => wipe σ2 vs = wipe σ vs ∧ tt σ2 H2 fun b H3 => if b = true then te σ2 H3 fun y H4 => rA D y H4 N else N H3)
    (fin : ∀ m s' H', m < n → Inv Y [] (wipe σ vs) H' s' → tn (i + 1) s'.heap → (∀ b ∈ fp, H' b = none) → W (i + 1) m H' → G m s') :
    wpAny (model Y.prog Y.w) Y.A (pyNext (.ref it)) (fun r s1 => ∃ u, r = some u ∧ wpAny (model Y.prog Y.w) Y.A (letOwnedTupleGo tg (.ref it) u) (fun _ s1' => wpAny (model Y.prog Y.w) Y.A (assign tg Y.env u) (fun _ s2 =>
      wpAny (model Y.prog Y.w) Y.A (forIn ifs true fun c r => if r = true then do let ok ← isTrue c Y.env (eval c Y.env); pure (ForInStep.yield ok) else pure (ForInStep.yield r)) (fun ok s3 =>
        if ok = true then wpAny (model Y.prog Y.w) Y.A (eval elt Y.env) (fun x s4 => wpAny (model Y.prog Y.w) Y.A (call (.builtin "set.add") [.ref D, x]) (fun _ s5 => ∃ m, m < n ∧ G m s5) E s4) E s3 else ∃ m, m < n ∧ G m s3) E s2) E s1') E s1) E s := by
  refine thnF (T.item Y rfl rfl rfl hc i [] s _ H (fun _ _ => False) I (fpok H s I no) st go) fun r s1 ⟨u, er, h1⟩ => ⟨u, er, ?_⟩
  refine thnF h1 fun _ s2 ⟨x, Hx, Ix, rx, yx, stx, nox⟩ => ?_
  have Ip := Ix.pinned (fpok Hx s2 Ix nox) (T.obj _ _ stx)
  -- what the pins keep: the iterator's own objects
  have back : ∀ {s' : Shared} {H' : Hp} {σ' : L2.St}, wipe σ' vs = wipe σ vs → Inv Y ([] ++ pinsAt fp s2.heap) σ' H' s' → N H' → ∃ m, m < n ∧ G m s' := fun {s' H' σ'} ew I' hn => by
    obtain ⟨m, lt, hw⟩ := hN H' hn
    have held : ∀ b ∈ fp, ∀ o, s2.heap.get? b = some o → s'.heap.get? b = some o ∧ H' b = none := fun b hb o eo => by
      obtain ⟨k1, k2, _⟩ := I'.pin (b, o) (List.mem_append_right _ (List.mem_append_right _ (mem_pinsAt hb eo)))
      exact ⟨k1, k2⟩
    have len : (wipe σ vs).length = σ'.length := by rw [← ew, wipe_length]
    have J' : Inv Y [] (wipe σ vs) H' s' := I'.unpinned (pins := []) |>.weak len fun j v ej => by
      rw [← ew] at ej
      exact (wipe_some ej).1
    refine ⟨m, lt, fin m s' H' lt J' (T.keep _ _ _ stx fun b hb o eo => (held b hb o eo).1) (fun b hb => ?_) hw⟩
    obtain ⟨o, eo, _⟩ := T.obj _ _ stx b hb
    exact (held b hb o eo).2
  refine wpAny_mono (pg.run _ s2 _ Hx x u _ Ip rx (step x Hx yx)) (fun _ s3 ⟨σ3, H3, I3, ew, q3⟩ => ?_) hE
  refine wpAny_mono (pt.run _ s3 σ3 H3 _ I3 q3) (fun ok s4 ⟨H4, I4, q4⟩ => ?_) hE
  dsimp only at q4
  by_cases hok : ok = true
  · rw [if_pos hok] at q4 ⊢
    refine wpAny_mono (pe.run _ s4 σ3 H4 _ I4 q4) (fun v s5 ⟨y, H5, I5, ry, q5⟩ => ?_) hE
    exact R.add _ σ3 H5 s5 D y v N _ _ I5 ry q5 fun H6 s6 hn I6 => back ew I6 hn
  · rw [if_neg hok] at q4 ⊢
    exact back ew I4 q4
/-- the block of a set: sz the state in which the set has been laid -/
theorem sc_block {elt tg iter : Expr} {ifs : List Expr} {scope : Scope} {own : List (PySem.Str × Nat)} {pos : Pos} {g : TG} {tt : TT} {te : TE} {σ : L2.St} {Hz : Hp} {sz : Shared} {D it : Addr} {fp : List Addr} {J : It} {tn : Nat → Heap → Prop} {Qf : Value → Shared → Prop} {Qd : Hp → Prop}
    (hc : X.calm = true) (nd : X.N.Nodup) (ok : BlkOk X.N X.env.scope scope own) (T : Turn X.prog X.w X.K tg J fp it tn)
    (hR : ∀ (s : Shared) (H : Hp) (C : Addr) (cl : List (PySem.Str × Addr)) (fp : List Addr), SetRule (X.blk s H scope (compEnvC scope cl C X.env) fp) z rA)
    (hg : ∀ (s : Shared) (H : Hp) (C : Addr) (cl : List (PySem.Str × Addr)) (fp : List Addr), PG (X.blk s H scope (compEnvC scope cl C X.env) fp) tg g)
    (ht : ∀ (s : Shared) (H : Hp) (C : Addr) (cl : List (PySem.Str × Addr)) (fp : List Addr), PTs (X.blk s H scope (compEnvC scope cl C X.env) fp) ifs tt)
    (he : ∀ (s : Shared) (H : Hp) (C : Addr) (cl : List (PySem.Str × Addr)) (fp : List Addr), PE (X.blk s H scope (compEnvC scope cl C X.env) fp) elt te)
    (Iz : Inv X pins σ Hz sz) (stz : tn 0 sz.heap) (fpz : ∀ b ∈ fp, FpOk X pins Hz b ∧ b < sz.heap.objs.size)
    (W : Nat → Nat → Hp → Prop) (m0 : Nat) (w0 : W 0 m0 Hz)
    (turns : ∀ i m H, W i m H → (J.stop i H ∧ Qd H) ∨ (J.go i H ∧ ∃ N : Hp → Prop, (∀ H', N H' → ∃ m', m' < m ∧ W (i + 1) m' H') ∧
      ∀ x H', J.yld i H x H' → g x (wipe σ (own.map (·.2))) H' fun σ2 H2 => wipe σ2 (own.map (·.2)) = wipe σ (own.map (·.2)) ∧ tt σ2 H2 fun b H3 => if b = true then te σ2 H3 fun y H4 => rA D y H4 N else N H3))
    (fin : ∀ H' s', Inv X pins σ H' s' → Qd H' → Qf (.ref D) s') :
    codeAny (model X.prog X.w) X.A (.compStart (.SetComp elt [⟨tg, iter, ifs, 0⟩] scope pos) 0 (.ref it) (.ref D) (compEnvC scope (cellsFrom (sz.heap.objs.size + 1) scope.names (cloFrom X.env.cells scope.names [])) sz.heap.objs.size X.env))
      (compPost (model X.prog X.w) X.A X.xe none Qf (.ref D) sz.heap.objs.size) { sz with heap := pushCells (sz.heap.push { cls := .type "dict", data := .dict #[] }) scope.names } := by
  have start := block_start Iz ok nd fpz
  have noz : ∀ b ∈ fp, Hz b = none := fun b hb => (fpz b hb).1.1
  have rule := hR sz Hz sz.heap.objs.size (cellsFrom (sz.heap.objs.size + 1) scope.names (cloFrom X.env.cells scope.names [])) fp
  have pg := hg sz Hz sz.heap.objs.size (cellsFrom (sz.heap.objs.size + 1) scope.names (cloFrom X.env.cells scope.names [])) fp
  have pt := ht sz Hz sz.heap.objs.size (cellsFrom (sz.heap.objs.size + 1) scope.names (cloFrom X.env.cells scope.names [])) fp
  have pe := he sz Hz sz.heap.objs.size (cellsFrom (sz.heap.objs.size + 1) scope.names (cloFrom X.env.cells scope.names [])) fp
  have stb : tn 0 (pushCells (sz.heap.push { cls := .type "dict", data := .dict #[] }) scope.names) := T.keep _ _ _ stz fun b _ o e => pushCells_keeps _ _ _ _ (Heap.get?_push_of_some _ e)
  have here : (compEnvC scope (cellsFrom (sz.heap.objs.size + 1) scope.names (cloFrom X.env.cells scope.names [])) sz.heap.objs.size X.env).locals = sz.heap.objs.size := rfl
  generalize compEnvC scope (cellsFrom (sz.heap.objs.size + 1) scope.names (cloFrom X.env.cells scope.names [])) sz.heap.objs.size X.env = ce at start rule pg pt pe here ⊢
  have fpB : ∀ H' s', Inv (X.blk sz Hz scope ce fp) [] (wipe σ (own.map (·.2))) H' s' → (∀ b ∈ fp, H' b = none) → ∀ b ∈ fp, FpOk (X.blk sz Hz scope ce fp) [] H' b := fun H' s' I' no b hb =>
    ⟨no b hb, (I'.ok.exf b hb).1, I'.ok.exfs b hb, .inl hb, fun x c e => (I'.ok.exf b hb).2 x c e, fun p hp => absurd (show p ∈ ([] : List (Addr × Obj)) ++ [] from hp) (by simp)⟩
  refine PpSet.codeAny_compStart_set (?loop) (T.self X.A 0 _ _ _ stb ?loop)
  refine PpSet.compLoopS_any (fun n s' => ∃ i H', Inv (X.blk sz Hz scope ce fp) [] (wipe σ (own.map (·.2))) H' s' ∧ tn i s'.heap ∧ (∀ b ∈ fp, H' b = none) ∧ W i n H') (fun n s' hs => ?_) m0 ⟨0, Hz, start, stb, noz, w0⟩
  obtain ⟨i, H', I', st', no', w'⟩ := hs
  rcases turns i n H' w' with ⟨stop, qd⟩ | ⟨go, N, hN, step⟩
  · refine thnF (T.done (X.blk sz Hz scope ce fp) rfl rfl rfl hc i [] s' _ H' (fun _ _ => False) I' (fpB H' s' I' no') st' stop) fun r s6 ⟨er, I6⟩ => ?_
    subst er
    -- outside again
    have I7 : Inv X pins σ H' s6 := Iz.call' (ch := fp) I6.os I6.base I6.hok I6.bare fun b hb => ⟨(fpz b hb).1.2.2.2.1, (fpz b hb).1.2.1, (fpz b hb).1.2.2.2.2.1, (fpz b hb).1.2.2.2.2.2⟩
    have gone : H' sz.heap.objs.size = none := by
      have f : H' ce.locals = none := I6.free
      rwa [here] at f
    obtain ⟨mm, hn, _⟩ := I6.loc
    refine ⟨mm, by rw [← here]; exact hn, fun h' sb => ?_⟩
    obtain ⟨k0, k1, k2, k3, k4, k5⟩ := Iz.fpOk (Nat.le_refl _) gone
    exact fin H' _ (I7.turned (t' := s6.toks) (fun b o hb e => (sb.2 b hb).trans e) k0 k1 k3 k4 k5) qd
  · refine thnF (sc_turn (Y := X.blk sz Hz scope ce fp) (vs := own.map (·.2)) (σ := σ) (D := D) (G := fun m s5 => ∃ i H', Inv (X.blk sz Hz scope ce fp) [] (wipe σ (own.map (·.2))) H' s5 ∧ tn i s5.heap ∧ (∀ b ∈ fp, H' b = none) ∧ W i m H') (E := fun _ _ => False)
      rule hc T pg pt pe (fun _ _ z => z) W fpB I' st' no' go N hN step (fun m s5 H5 _ I5 st5 no5 w5 => ⟨i + 1, H5, I5, st5, no5, w5⟩)) fun r s6 ⟨u, er, h6⟩ => ?_
    subst er
    exact thnF h6 fun _ s7 h7 => thnF h7 fun _ s8 h8 => thnF h8 fun okb s9 h9 => by
      by_cases hb : okb = true
      · rw [if_pos hb] at h9 ⊢
        exact thnF h9 fun v s10 h10 => thnF h10 fun _ _ h11 => h11
      · rw [if_neg hb] at h9 ⊢
        exact h9
/-- {e for x in .. if ..}, whatever its members are -/
theorem pe_scX {elt tg iter : Expr} {ifs : List Expr} {scope : Scope} {own : List (PySem.Str × Nat)} {pos : Pos} {wi : TI} {g : TG} {tt : TT} {te : TE} (hc : X.calm = true) (nd : X.N.Nodup) (hi : PI X tg iter wi) (ok : BlkOk X.N X.env.scope scope own)
    (hR : ∀ (s : Shared) (H : Hp) (C : Addr) (cl : List (PySem.Str × Addr)) (fp : List Addr), SetRule (X.blk s H scope (compEnvC scope cl C X.env) fp) z rA)
    (hg : ∀ (s : Shared) (H : Hp) (C : Addr) (cl : List (PySem.Str × Addr)) (fp : List Addr), PG (X.blk s H scope (compEnvC scope cl C X.env) fp) tg g)
    (ht : ∀ (s : Shared) (H : Hp) (C : Addr) (cl : List (PySem.Str × Addr)) (fp : List Addr), PTs (X.blk s H scope (compEnvC scope cl C X.env) fp) ifs tt)
    (he : ∀ (s : Shared) (H : Hp) (C : Addr) (cl : List (PySem.Str × Addr)) (fp : List Addr), PE (X.blk s H scope (compEnvC scope cl C X.env) fp) elt te)
    (hf : ∀ x, foldedSetIterable iter X.env x = pure x := by intro _; rfl) : PE X (.SetComp elt [⟨tg, iter, ifs, 0⟩] scope pos) (tScX z rA wi g tt te (own.map (·.2))) := by
  refine ⟨fun pins s σ H Q I h => ?_⟩
  rw [PpSet.eval_SetComp]
  have cells : ∀ y ∈ scope.names, y.2 = .free → ∃ c, X.env.cells.lookup y.1 = some c := fun y hy e => (ok.free y hy e).elim (fun k => I.ok.has _ (.inl k)) fun k => I.ok.has _ (.inr k)
  refine wpAny_comprehension_free (use := none) rfl hf (closure_ok cells) ok.kind (fun y hy e => by rw [ok.uniq y hy, e]) (thn (hi.run pins s σ H _ I h) fun _ s1 h1 => thn h1 fun _ s2 ⟨it, fp, tn, J, H2, eit, I2, T, st, fpo, q⟩ => ?_)
  subst eit
  refine PpSet.newSet_ok (newEnv_comp ?_)
  obtain ⟨D, eD⟩ : ∃ D, D = s2.heap.objs.size := ⟨_, rfl⟩
  have nD : H2 D = none := I2.hok.fresh (Nat.le_of_eq eD.symm)
  obtain ⟨W, ⟨m0, w0⟩, turns⟩ := q D nD
  have below : ∀ b ∈ fp, b < s2.heap.objs.size := fun b hb => by
    obtain ⟨o, e, _⟩ := T.obj _ _ st b hb
    exact Heap.lt_size e
  refine sc_block (sz := { s2 with heap := s2.heap.push { cls := .type "set", dict := none, data := .set #[] 0 (.fresh 0 0 (!X.w.params.followText "set-order")) } }) hc nd ok T hR hg ht he
    (I2.laid (t' := s2.toks) (fun b o e => Heap.get?_push_of_some _ e) (Nat.le_of_eq eD.symm) ((hR s2 H2 0 [] []).zero (upd H2 D (z D)) _ D (by rw [eD]; exact Heap.get?_push_size _ rfl)))
    (T.keep _ _ _ st fun b _ o e => Heap.get?_push_of_some _ e) (fun b hb => ⟨⟨?_, (fpo b hb).2⟩, ?_⟩) W m0 w0 (eD ▸ turns) (fun H' s' I' q' => ⟨.ref D, H', I', ?_, q'⟩)
  · rw [upd_ne (by rw [eD]; exact Nat.ne_of_lt (below b hb))]
    exact (fpo b hb).1
  · show b < (s2.heap.push _).objs.size
    rw [Heap.size_push]
    exact Nat.lt_succ_of_lt (below b hb)
  · rw [eD]
    rfl
end
end Ly
namespace Ly
open PySem PySem.Spec PyProof.Rows L2
/-! ### sets of ints -/
def zI (w : World) : Addr → HO := fun D => SetO w D (fun _ => false) 0
def rAddI (w : World) : RAdd := fun D y H N => ∃ (k : Int) (S : Int → Bool) (n : Nat), y = .int k ∧ H D = some (SetO w D S n) ∧ n + 1 < scanBound ∧ N (upd H D (SetO w D (fun j => S j || decide (j = k)) (if S k = true then n else n + 1)))
theorem setRuleI {X : Cx} {w : World} (hw : X.w = w) : SetRule X (zI w) (rAddI w) := by
  subst hw
  refine ⟨fun H h D e => setO_new ?_, fun pins σ H s D y u N E Q I ry h k => ?_⟩
  · refine ⟨_, #[], 0, _, e, ⟨rfl, rfl, rfl⟩, rfl, (fun e he => by simp at he), (by simp), (fun k => by simp), (by decide), (by rfl), rfl, List.Pairwise.nil, ?_⟩
    show _ ∨ (!X.w.params.followText "set-order") = true
    cases X.w.params.followText "set-order"
    · exact .inr rfl
    · exact .inl rfl
  · obtain ⟨i, S, n, rfl, hD, room, hn⟩ := h
    obtain ⟨t, rfl⟩ := ry
    refine setR_add (setO_get I hD) room fun h' sb new => k _ _ hn (I.write (e := D) (t' := s.toks + 1) (by rw [hD]; trivial) (.inl rfl) (fun b u hb hu => (sb.2 b hb).trans hu) ?_ (setO_new new))
    obtain ⟨o, _, _, _, ho, _⟩ := new
    exact ⟨o, ho⟩
/-- {x for x in a tuple of ints}: the members are just these -/
theorem sc_ints {w : World} {K : PySem.W.Frag} {a : Addr} {ns : List Int} {g : TG} {tt : TT} {te : TE} {vs : List Nat} {σ : L2.St} {H1 : Hp} {D : Addr} {Qd : Hp → Prop} (hS : SqT K H1 a (ns.map V.int)) (nD : H1 D = none) (hb : ns.length + 1 < scanBound)
    (hs : ∀ (k : Int) (H : Hp) (Q : VK) (N : Hp → Prop), (∀ H4, Same H H4 → Q (.int k) H4) → g (.int k) (wipe σ vs) H fun σ2 H2 => wipe σ2 vs = wipe σ vs ∧ tt σ2 H2 fun b H3 => if b = true then te σ2 H3 Q else N H3)
    (hd : ∀ H' S n, Same H1 H' → H' D = some (SetO w D S n) → (∀ k, S k = true ↔ k ∈ ns) → n ≤ ns.length → Qd H') : ScW (zI w) (rAddI w) (Itt K a) g tt te vs σ H1 D Qd := by
  refine ⟨fun i m H => i + m = ns.length ∧ Same H1 H ∧ ∃ S n, H D = some (SetO w D S n) ∧ (∀ k, S k = true ↔ k ∈ ns.take i) ∧ n ≤ i, ⟨ns.length, by omega, same_new nD, _, 0, upd_same, fun k => by simp, Nat.le_refl _⟩, ?_⟩
  rintro i m H ⟨em, sH, S, n, hD, hm, hn⟩
  have q := sameT sH hS
  by_cases hlt : i < ns.length
  · have hx : (ns.map V.int)[i]? = some (.int ns[i]) := by rw [List.getElem?_map, List.getElem?_eq_getElem hlt]; rfl
    refine .inr ⟨⟨_, _, q, hx⟩, fun H' => i + 1 + (m - 1) = ns.length ∧ Same H1 H' ∧ ∃ S n, H' D = some (SetO w D S n) ∧ (∀ k, S k = true ↔ k ∈ ns.take (i + 1)) ∧ n ≤ i + 1, fun H' p => ⟨m - 1, by omega, p⟩, fun x H' y => ?_⟩
    obtain ⟨e, y⟩ := y
    subst e
    have ex := y _ q
    rw [hx] at ex
    cases ex
    refine hs ns[i] _ _ _ fun H4 s4 => ?_
    refine ⟨ns[i], S, n, rfl, s4 _ _ hD, by omega, by omega, same_set (sH.trans s4) nD, _, _, upd_same, fun k => ?_, ?_⟩
    · rw [Bool.or_eq_true, hm k, decide_eq_true_eq, List.take_add_one, List.getElem?_eq_getElem hlt, List.mem_append]
      show _ ∨ _ ↔ _ ∨ k ∈ [ns[i]]
      rw [List.mem_singleton]
    · split <;> omega
  · have e : i = ns.length := by omega
    subst e
    rw [List.take_length] at hm
    refine .inl ⟨⟨_, q, ?_⟩, hd H S n sH hD hm hn⟩
    rw [List.length_map]
    first
      | rfl
      | exact Nat.le_refl _
/-- set(a tuple of ints) -/
def rSetT (K : PySem.W.Frag) (w : World) : List V → Hp → VK → Prop := fun xs H Q => ∃ (p : Addr) (ns : List Int), xs = [.ref p] ∧ SqT K H p (ns.map V.int) ∧ ns.length + 1 < scanBound ∧
  ∀ l S n, H l = none → (∀ k, S k = true ↔ k ∈ ns) → n ≤ ns.length → Q (.ref l) (upd H l (SetO w l S n))
theorem call_setT {X : Cx} (hc : X.calm = true) : CallR X (.type "set") (rSetT X.K X.w) := by
  intro pins s σ H xs us Q I r h
  obtain ⟨p, ns, rfl, hq, hb, q⟩ := h
  obtain ⟨u, rfl, r1⟩ := vals1 r
  obtain rfl : u = Value.ref p := r1
  obtain ⟨its, rv, pt, hz⟩ := I.tuple hq
  refine call_set_tupI ns (I.ok.hd hc) (show s.heap.IsTuple p its.toArray from pt) (ints_of_vals rv) hb fun h' tk c R hcn k => ?_
  exact ⟨.ref s.heap.objs.size, _, I.laid (t' := tk) k (Nat.le_refl _) (setO_new R), rfl, q _ _ c (I.hok.fresh (Nat.le_refl _)) (fun j => decide_eq_true_iff) hcn⟩
/-! ### rising lists -/
theorem asc_uniq : ∀ {l m : List Int}, l.Pairwise (· < ·) → m.Pairwise (· < ·) → (∀ k, k ∈ l ↔ k ∈ m) → l = m
  | [], [], _, _, _ => rfl
  | [], y :: m, _, _, h => absurd ((h y).mpr List.mem_cons_self) List.not_mem_nil
  | x :: l, [], _, _, h => absurd ((h x).mp List.mem_cons_self) List.not_mem_nil
  | x :: l, y :: m, hl, hm, h => by
    obtain ⟨h1, h2⟩ := List.pairwise_cons.mp hl
    obtain ⟨h3, h4⟩ := List.pairwise_cons.mp hm
    have e : x = y := by
      rcases List.mem_cons.mp ((h x).mp List.mem_cons_self) with a | a
      · exact a
      · rcases List.mem_cons.mp ((h y).mpr List.mem_cons_self) with b | b
        · exact b.symm
        · have := h3 x a
          have := h1 y b
          omega
    subst e
    refine congrArg (List.cons x) (asc_uniq h2 h4 fun k => ⟨fun hk => ?_, fun hk => ?_⟩)
    · rcases List.mem_cons.mp ((h k).mp (List.mem_cons_of_mem _ hk)) with a | a
      · subst a
        exact absurd (h1 k hk) (Int.lt_irrefl _)
      · exact a
    · rcases List.mem_cons.mp ((h k).mpr (List.mem_cons_of_mem _ hk)) with a | a
      · subst a
        exact absurd (h3 k hk) (Int.lt_irrefl _)
      · exact a
/-! ### static methods -/
/-- C.m is a static method: its record at p, its def at g -/
structure SMet (K : PySem.W.Frag) (C : Addr) (m : Str) (p g : Addr) : Prop where
  rd : PySem.W.readsIn K C (.type "type") = true
  ga : PySem.W.specialIn K (.ref C) "__getattribute__" = some (some (.builtin "type.__getattribute__"))
  at_ : PySem.W.findCls K (.ref C) (.type "type") m = some (.get (.builtin "staticmethod.__get__") (.ref p) .none (.ref C))
  rc : ∃ rest, PySem.W.recIn K p "staticmethod" = some (.ref g :: rest)
  kp : PySem.W.keepIn K (.ref g) = true
/-- C.m(..), m static, which may raise -/
def tSMeth (C : Addr) (sp : Sp) (E : L2.St → XK) (ta : TE) (t : TA) : TE := fun σ H Q => ta σ H fun x H1 => x = .ref C ∧ t σ H1 fun vs H2 => sp vs H2 Q (E σ)
theorem pe_smeth {X : Cx} {CX : CXT} {k : Nat} {C p g : Addr} {sp : Sp} {E : L2.St → XK} {o e : Expr} {es : List Expr} {m : Str} {pos apos : Pos} {ta : TE} {t : TA} {pl : Sem Bool} (he : PE X o ta) (c : SMet X.K C m p g) (F : FnR X.prog X.w X.K X.mg X.base CX k g sp) (hr : Room k X.A)
    (hx : ∀ σ, PassesAt CX X σ (E σ)) (ha : PA X (e :: es) t) (hst : starEach (e :: es) X.env = (false, eval e X.env) :: starEach es X.env := by rfl) (hpl : (backTo pos (starEach es X.env)).any (·.1) = false := by rfl)
    (ht : eval (.Call (.Attribute o m apos) (e :: es) [] pos) X.env = (do
      let ov ← eval o X.env
      standAt apos.atName
      let (f, first) ← holding [ov] (getMethod ov m pl)
      callWith pos f first (backTo pos (starEach (e :: es) X.env)) (backToKw pos (keywordEach [] X.env))) := by rfl) : PE X (.Call (.Attribute o m apos) (e :: es) [] pos) (tSMeth C sp E ta t) := by
  refine ⟨fun pins s σ H Q I h => ?_⟩
  refine PySem.W.methodCall_KW (pl := pl) (thn (he.run pins s σ H _ I h) fun u s1 ⟨x, H1, I1, rx, ex, q⟩ => ?_) ht
  subst ex
  obtain rfl : u = Value.ref C := rx
  obtain ⟨rest, hp⟩ := c.rc
  refine PySem.W.method_cls I1.kIn c.ga (PySem.W.cls_bind I1.kIn c.rd c.at_ (wpAny_call (PySem.W.sm_get I1.kIn hp (PySem.W.handed_on rfl ?_))))
  have I2 : Inv X pins σ H1 { s1 with toks := s1.toks + 1 } := I1.tok _
  refine PySem.W.callWith_K (h₀ := X.base) I2.ok.mod.kin c.kp (thn (ha.run pos pins _ σ H1 _ I2 q) fun us s2 ⟨vs, H2, I3, rv, q2⟩ => ⟨I3.kIn, ?_⟩) hst hpl
  exact run_fnAt F hr rfl (hx σ) I3 rv q2
end Ly

set_option Elab.async false
set_option linter.all false
set_option maxRecDepth 100000
set_option maxHeartbeats 4000000
/-! cutters as plain functions: parts, what a part keeps of a row, what parts one after another keep -/
namespace Cut
inductive Part where
  | all
  | pat (f b : List Bool)
  deriving DecidableEq
/-- whether there is a plus at this index -/
def hp (l : List Bool) (i : Int) : Bool := decide (0 ≤ i) && decide (i < l.length) && l.getD i.toNat false
def kat (f b : List Bool) (n i : Nat) : Bool := hp f i || hp b ((i : Int) - ((n : Int) - b.length))
/-- the places that one part keeps of a row of n -/
def sel : Part → Nat → List Nat
  | .all, n => List.range n
  | .pat f b, n => (List.range n).filter (kat f b n)
def pick {α : Type} (p : Part) (xs : List α) : List α := (sel p xs.length).filterMap fun i => xs[i]?
def run {α : Type} (ps : List Part) (xs : List α) : List α := ps.foldl (fun l p => pick p l) xs
def places (ps : List Part) (n : Nat) : List Nat := run ps (List.range n)
def keepsAll (ps : List Part) : Bool := ps.all fun p => decide (p = .all)
def Ok : Part → Prop
  | .all => True
  | .pat f b => f.length ≤ 2 ∧ b.length ≤ 3
/-! ### rows -/
theorem get_range {α : Type} : ∀ xs : List α, (List.range xs.length).filterMap (fun i => xs[i]?) = xs
  | [] => rfl
  | x :: r => by
    rw [List.length_cons, List.range_succ_eq_map, List.filterMap_cons, List.filterMap_map]
    show x :: (List.range r.length).filterMap (fun i => r[i]?) = x :: r
    rw [get_range r]
theorem pick_all {α : Type} (xs : List α) : pick .all xs = xs := get_range xs
theorem pick_map {α β : Type} (p : Part) (g : α → β) (xs : List α) : pick p (xs.map g) = (pick p xs).map g := by
  unfold pick
  rw [List.length_map, List.map_filterMap]
  congr 1
  funext i
  rw [List.getElem?_map]
theorem run_map {α β : Type} (g : α → β) : ∀ (ps : List Part) (xs : List α), run ps (xs.map g) = (run ps xs).map g
  | [], _ => rfl
  | p :: ps, xs => by
    show run ps (pick p (xs.map g)) = (run ps (pick p xs)).map g
    rw [pick_map, run_map g ps]
theorem run_cons {α : Type} (p : Part) (ps : List Part) (xs : List α) : run (p :: ps) xs = run ps (pick p xs) := rfl
theorem run_append {α : Type} (ps qs : List Part) (xs : List α) : run (ps ++ qs) xs = run qs (run ps xs) := List.foldl_append
theorem sel_lt {p : Part} {n i : Nat} (h : i ∈ sel p n) : i < n := by
  cases p with
  | all => exact List.mem_range.mp h
  | pat f b => exact List.mem_range.mp (List.mem_filter.mp h).1
/-- the values kept are those at the kept places -/
theorem run_get {α : Type} (ps : List Part) (xs : List α) : run ps xs = (places ps xs.length).filterMap fun i => xs[i]? := by
  have key : ∀ (qs : List Part) (l : List Nat), (∀ i ∈ l, i < xs.length) → run qs (l.filterMap fun i => xs[i]?) = (run qs l).filterMap fun i => xs[i]? := by
    intro qs l hl
    cases xs with
    | nil =>
      cases l with
      | nil =>
        have e : ∀ rs : List Part, run rs ([] : List Nat) = [] := fun rs => by
          induction rs with
          | nil => rfl
          | cons p rs ih =>
            rw [run_cons]
            have e1 : pick p ([] : List Nat) = [] := by
              unfold pick
              cases p <;> rfl
            rw [e1, ih]
        have e' : ∀ rs : List Part, run rs ([] : List α) = [] := fun rs => by
          induction rs with
          | nil => rfl
          | cons p rs ih =>
            rw [run_cons]
            have e1 : pick p ([] : List α) = [] := by
              unfold pick
              cases p <;> rfl
            rw [e1, ih]
        show run qs ([] : List α) = (run qs ([] : List Nat)).filterMap fun i => ([] : List α)[i]?
        rw [e, e']
        rfl
      | cons a r => exact absurd (hl a List.mem_cons_self) (Nat.not_lt_zero _)
    | cons x r =>
      have e : ∀ l : List Nat, (∀ i ∈ l, i < (x :: r).length) → (l.filterMap fun i => (x :: r)[i]?) = l.map fun i => (x :: r).getD i x := by
        intro l
        induction l with
        | nil => intro _; rfl
        | cons a l ih =>
          intro h
          have ha := h a List.mem_cons_self
          rw [List.filterMap_cons, List.getElem?_eq_getElem ha, ih fun i hi => h i (List.mem_cons_of_mem _ hi), List.map_cons]
          rw [List.getD_eq_getElem?_getD, List.getElem?_eq_getElem ha]
          rfl
      rw [e l hl, run_map]
      refine (e _ fun i hi => ?_).symm
      -- what is kept is among what there was
      have sub : ∀ (qs : List Part) (l : List Nat), ∀ i ∈ run qs l, i ∈ l := by
        intro qs
        induction qs with
        | nil => exact fun l i h => h
        | cons p qs ih =>
          intro l i h
          have h1 := ih _ i h
          obtain ⟨j, hj, e⟩ := List.mem_filterMap.mp h1
          exact List.mem_of_getElem? e
      exact hl i (sub qs l i hi)
  have h := key ps (List.range xs.length) fun i hi => List.mem_range.mp hi
  rw [get_range] at h
  exact h
theorem run_sub {α : Type} : ∀ (ps : List Part) (xs : List α) (x : α), x ∈ run ps xs → x ∈ xs
  | [], _, _, h => h
  | p :: ps, xs, x, h => by
    have h1 := run_sub ps _ x h
    obtain ⟨j, _, e⟩ := List.mem_filterMap.mp h1
    exact List.mem_of_getElem? e
theorem places_lt {ps : List Part} {n i : Nat} (h : i ∈ places ps n) : i < n := List.mem_range.mp (run_sub ps _ i h)
theorem pick_len {α : Type} (p : Part) (xs : List α) : (pick p xs).length ≤ xs.length := by
  refine Nat.le_trans (List.length_filterMap_le _ _) ?_
  cases p with
  | all => exact Nat.le_of_eq List.length_range
  | pat f b => exact Nat.le_trans (List.length_filter_le _ _) (Nat.le_of_eq List.length_range)
theorem run_len {α : Type} : ∀ (ps : List Part) (xs : List α), (run ps xs).length ≤ xs.length
  | [], _ => Nat.le_refl _
  | p :: ps, xs => Nat.le_trans (run_len ps _) (pick_len p xs)
theorem places_len (ps : List Part) (n : Nat) : (places ps n).length ≤ n := Nat.le_trans (run_len ps _) (Nat.le_of_eq List.length_range)
theorem run_all {α : Type} : ∀ (ps : List Part) (xs : List α), keepsAll ps = true → run ps xs = xs
  | [], _, _ => rfl
  | p :: ps, xs, h => by
    have h' : (decide (p = .all) && keepsAll ps) = true := h
    rw [Bool.and_eq_true] at h'
    have e := of_decide_eq_true h'.1
    rw [e, run_cons, pick_all]
    exact run_all ps xs h'.2
/-! ### five and more places -/
/-- where the five places that patterns speak of stand in a row of n -/
def emb (n i : Nat) : Nat := if i < 2 then i else i + (n - 5)
theorem hp_neg {l : List Bool} {i : Int} (h : i < 0) : hp l i = false := by
  unfold hp
  rw [decide_eq_false (by omega)]
  rfl
theorem hp_out {l : List Bool} {i : Int} (h : (l.length : Int) ≤ i) : hp l i = false := by
  unfold hp
  rw [decide_eq_false (show ¬ i < (l.length : Int) by omega), Bool.and_false]
  rfl
theorem kat_mid {f b : List Bool} (hf : f.length ≤ 2) (hb : b.length ≤ 3) {n i : Nat} (h2 : 2 ≤ i) (h3 : i + 3 < n) : kat f b n i = false := by
  unfold kat
  rw [hp_out (by omega), hp_neg (by omega)]
  rfl
theorem kat_emb {f b : List Bool} (hf : f.length ≤ 2) (hb : b.length ≤ 3) {n i : Nat} (hn : 5 ≤ n) (hi : i < 5) : kat f b n (emb n i) = kat f b 5 i := by
  unfold kat emb
  by_cases h : i < 2
  · rw [if_pos h, hp_neg (l := b) (by omega), hp_neg (l := b) (by omega)]
  · rw [if_neg h, hp_out (l := f) (by omega), hp_out (l := f) (by omega)]
    congr 2
    omega
theorem range_five (m : Nat) : List.range (m + 5) = [0, 1] ++ ((List.range m).map (· + 2) ++ [m + 2, m + 3, m + 4]) := by
  rw [show m + 5 = 2 + (m + 3) by omega, List.range_add, List.range_add]
  congr 1
  rw [List.map_append]
  congr 1
  · exact List.map_congr_left fun i _ => Nat.add_comm 2 i
  · show [2 + (m + 0), 2 + (m + 1), 2 + (m + 2)] = _
    rw [show 2 + (m + 0) = m + 2 by omega, show 2 + (m + 1) = m + 3 by omega, show 2 + (m + 2) = m + 4 by omega]
theorem sel_five {f b : List Bool} (hf : f.length ≤ 2) (hb : b.length ≤ 3) {n : Nat} (hn : 5 ≤ n) : sel (.pat f b) n = (sel (.pat f b) 5).map (emb n) := by
  obtain ⟨m, rfl⟩ : ∃ m, n = m + 5 := ⟨n - 5, by omega⟩
  show (List.range (m + 5)).filter (kat f b (m + 5)) = ((List.range 5).filter (kat f b 5)).map (emb (m + 5))
  have mid : ((List.range m).map (· + 2)).filter (kat f b (m + 5)) = [] := by
    rw [List.filter_eq_nil_iff]
    intro i hi
    obtain ⟨j, hj, rfl⟩ := List.mem_map.mp hi
    have := List.mem_range.mp hj
    rw [kat_mid hf hb (by omega) (by omega)]
    exact Bool.false_ne_true
  rw [range_five, List.filter_append, List.filter_append, mid, List.nil_append, ← List.filter_append]
  have e : ([0, 1] ++ [m + 2, m + 3, m + 4] : List Nat) = (List.range 5).map (emb (m + 5)) := by
    show [0, 1, m + 2, m + 3, m + 4] = [emb (m + 5) 0, emb (m + 5) 1, emb (m + 5) 2, emb (m + 5) 3, emb (m + 5) 4]
    unfold emb
    rw [if_pos (by decide), if_pos (by decide), if_neg (by decide), if_neg (by decide), if_neg (by decide)]
    rw [show 2 + (m + 5 - 5) = m + 2 by omega, show 3 + (m + 5 - 5) = m + 3 by omega, show 4 + (m + 5 - 5) = m + 4 by omega]
  rw [e, List.filter_map]
  congr 1
  refine List.filter_congr fun i hi => ?_
  exact kat_emb hf hb hn (List.mem_range.mp hi)
theorem pick_five {f b : List Bool} (hf : f.length ≤ 2) (hb : b.length ≤ 3) {n : Nat} (hn : 5 ≤ n) : pick (.pat f b) (List.range n) = (pick (.pat f b) (List.range 5)).map (emb n) := by
  have e : ∀ k : Nat, pick (.pat f b) (List.range k) = sel (.pat f b) k := fun k => by
    unfold pick
    rw [List.length_range]
    have : ∀ l : List Nat, (∀ i ∈ l, i < k) → l.filterMap (fun i => (List.range k)[i]?) = l := by
      intro l
      induction l with
      | nil => intro _; rfl
      | cons a l ih =>
        intro h
        have ha := h a List.mem_cons_self
        rw [List.filterMap_cons, List.getElem?_eq_getElem (by rw [List.length_range]; exact ha), List.getElem_range, ih fun i hi => h i (List.mem_cons_of_mem _ hi)]
    exact this _ fun i hi => sel_lt hi
  rw [e, e, sel_five hf hb hn]
theorem places_five : ∀ (ps : List Part), (∀ p ∈ ps, Ok p) → keepsAll ps = false → ∀ n, 5 ≤ n → places ps n = (places ps 5).map (emb n)
  | [], _, h, _, _ => by cases h
  | .all :: ps, hok, h, n, hn => by
    show run ps (pick .all (List.range n)) = (run ps (pick .all (List.range 5))).map (emb n)
    rw [pick_all, pick_all]
    exact places_five ps (fun p hp => hok p (List.mem_cons_of_mem _ hp)) h n hn
  | .pat f b :: ps, hok, _, n, hn => by
    obtain ⟨hf, hb⟩ := (show f.length ≤ 2 ∧ b.length ≤ 3 from hok _ List.mem_cons_self)
    show run ps (pick (.pat f b) (List.range n)) = (run ps (pick (.pat f b) (List.range 5))).map (emb n)
    rw [pick_five hf hb hn, run_map]
theorem places_le5 {ps : List Part} (hok : ∀ p ∈ ps, Ok p) (h : keepsAll ps = false) (n : Nat) : (places ps n).length ≤ 5 := by
  by_cases hn : 5 ≤ n
  · rw [places_five ps hok h n hn, List.length_map]
    exact Nat.le_trans (run_len ps _) (Nat.le_of_eq List.length_range)
  · refine Nat.le_trans (run_len ps _) ?_
    rw [List.length_range]
    omega
end Cut

set_option Elab.async false
set_option linter.all false
set_option maxRecDepth 100000
set_option maxHeartbeats 4000000
/-! texts of parts -/
namespace Cut
open PySem PySem.Spec PyProof.Rows L2 Ly
def sgn (b : Bool) : Nat := if b then 43 else 45
def sT (l : List Bool) : Str := ⟨(l.map sgn).toArray⟩
def Part.text : Part → Str
  | .all => "all"
  | .pat f b => sT f ++ ".." ++ sT b
def fronts : List (List Bool) := [[], [true], [false], [true, true], [true, false], [false, true], [false, false]]
def backs : List (List Bool) := fronts ++ [[true, true, true], [true, true, false], [true, false, true], [true, false, false], [false, true, true], [false, true, false], [false, false, true], [false, false, false]]
theorem mem_fronts : ∀ f : List Bool, f.length ≤ 2 → f ∈ fronts
  | [], _ => by decide
  | [a], _ => by cases a <;> decide
  | [a, b], _ => by cases a <;> cases b <;> decide
  | _ :: _ :: _ :: r, h => by
    simp only [List.length_cons] at h
    omega
theorem mem_backs : ∀ f : List Bool, f.length ≤ 3 → f ∈ backs
  | [], _ => by decide
  | [a], _ => by cases a <;> decide
  | [a, b], _ => by cases a <;> cases b <;> decide
  | [a, b, c], _ => by cases a <;> cases b <;> cases c <;> decide
  | _ :: _ :: _ :: _ :: r, h => by
    simp only [List.length_cons] at h
    omega
def facts (f b : List Bool) : Bool :=
  decide (Txt.partition (Part.pat f b).text ".." = (sT f, (".." : Str), sT b)) && decide (Txt.split (Part.pat f b).text ".." = [sT f, sT b]) && !decide ((Part.pat f b).text = "all") && decide ((Part.pat f b).text.length ≤ 10) &&
  (Part.pat f b).text.cps.toList.all fun c => decide (c = 43 ∨ c = 45 ∨ c = 46)
theorem all_facts : (fronts.all fun f => backs.all fun b => facts f b) = true := by decide +kernel
structure Facts (f b : List Bool) : Prop where
  part : Txt.partition (Part.pat f b).text ".." = (sT f, (".." : Str), sT b)
  spl : Txt.split (Part.pat f b).text ".." = [sT f, sT b]
  ne : (Part.pat f b).text ≠ "all"
  len : (Part.pat f b).text.length ≤ 10
  cs : ∀ c ∈ (Part.pat f b).text.cps.toList, c = 43 ∨ c = 45 ∨ c = 46
theorem pat_facts {f b : List Bool} (h : Ok (.pat f b)) : Facts f b := by
  obtain ⟨hf, hb⟩ := (show f.length ≤ 2 ∧ b.length ≤ 3 from h)
  have z := List.all_eq_true.mp (List.all_eq_true.mp all_facts f (mem_fronts f hf)) b (mem_backs b hb)
  unfold facts at z
  simp only [Bool.and_eq_true, decide_eq_true_eq, Bool.not_eq_true', decide_eq_false_iff_not, List.all_eq_true] at z
  obtain ⟨⟨⟨⟨z1, z2⟩, z3⟩, z4⟩, z5⟩ := z
  exact ⟨z1, z2, z3, z4, z5⟩
theorem text_len {p : Part} (h : Ok p) : p.text.length ≤ 10 := by
  cases p with
  | all => decide +kernel
  | pat f b => exact (pat_facts h).len
theorem text_cs {p : Part} (h : Ok p) : ∀ c ∈ p.text.cps.toList, c < 16 ^ 8 := by
  cases p with
  | all => decide +kernel
  | pat f b =>
    intro c hc
    rcases (pat_facts h).cs c hc with e | e | e <;> rw [e] <;> decide
theorem text_all {p : Part} (h : Ok p) : decide (p.text = "all") = decide (p = .all) := by
  cases p with
  | all =>
    show decide ((Str.ofString "all" : Str) = Str.ofString "all") = decide (Part.all = Part.all)
    rw [decide_eq_true rfl, decide_eq_true rfl]
  | pat f b => rw [decide_eq_false (pat_facts h).ne, decide_eq_false (fun z => by cases z)]
theorem sT_len (l : List Bool) : (sT l).length = l.length := by
  show ((l.map sgn).toArray).size = l.length
  simp
theorem sT_get {l : List Bool} {i : Nat} (h : i < l.length) : (sT l).cps.toList[i]? = some (sgn (l.getD i false)) := by
  show ((l.map sgn).toArray).toList[i]? = _
  rw [List.getD_eq_getElem?_getD, List.getElem?_eq_getElem h]
  simp [h]
theorem sgn_plus (b : Bool) : decide ((⟨#[sgn b]⟩ : Str) = "+") = b := by cases b <;> decide +kernel
theorem sT_sign {l : List Bool} {c : Nat} (h : c ∈ (sT l).cps.toList) : c = 43 ∨ c = 45 := by
  have h' : c ∈ l.map sgn := by
    have e : (sT l).cps.toList = l.map sgn := by
      show ((l.map sgn).toArray).toList = _
      simp
    rw [e] at h
    exact h
  obtain ⟨b, _, rfl⟩ := List.mem_map.mp h'
  cases b
  · exact .inr rfl
  · exact .inl rfl
/-- list(range(n)) as values -/
def iV (l : List Nat) : List V := l.map fun (i : Nat) => V.int (i : Int)
theorem rgV_iV (n : Nat) : rgV 0 (n : Int) = iV (List.range n) := by
  unfold rgV iV
  rw [show ((n : Int) - 0).toNat = n by omega]
  exact List.map_congr_left fun i _ => by rw [Int.zero_add]
theorem iV_len (l : List Nat) : (iV l).length = l.length := List.length_map _
theorem iV_get {l : List Nat} {i x : Nat} (h : l[i]? = some x) : (iV l)[i]? = some (.int (x : Int)) := by
  unfold iV
  rw [List.getElem?_map, h]
  rfl
section
variable {X : Cx} {x : Str} {pos : Pos}
theorem pe_gI {n : Int} (hg : Gl X x) (h : ∃ t, X.mg x = some (.int n t)) (hd : (x == ("__debug__" : Str)) = false := by decide) : PE X (.Name x pos) (tC (.int n)) := by
  obtain ⟨t, h⟩ := h
  exact pe_glob hg h ⟨t, rfl⟩ hd
theorem pe_gS {z : Str} (hg : Gl X x) (h : ∃ t, X.mg x = some (.str z t)) (hd : (x == ("__debug__" : Str)) = false := by decide) : PE X (.Name x pos) (tC (.str z)) := by
  obtain ⟨t, h⟩ := h
  exact pe_glob hg h ⟨t, rfl⟩ hd
end
/-- the parts of a cutter as values -/
def pV (ps : List Part) : List V := ps.map fun p => V.str p.text
end Cut

set_option Elab.async false
set_option linter.all false
set_option maxRecDepth 100000
set_option maxHeartbeats 4000000
/-! cutters as objects -/
namespace Cut
open PySem PySem.Spec PyProof.Rows L2 Ly
theorem pV_len (ps : List Part) : (pV ps).length = ps.length := List.length_map _
theorem pV_get {ps : List Part} {i : Nat} {x : V} (hx : (pV ps)[i]? = some x) : ∃ pt, ps[i]? = some pt ∧ x = V.str pt.text := by
  have hx' : (ps.map fun p => V.str p.text)[i]? = some x := hx
  rw [List.getElem?_map] at hx'
  cases e : ps[i]? with
  | none => rw [e] at hx'; cases hx'
  | some pt =>
    rw [e] at hx'
    exact ⟨pt, rfl, (Option.some.inj hx').symm⟩
/-- the value at a place -/
def atV (xs : List V) : V → V
  | .int i => xs.getD i.toNat .non
  | _ => .non
theorem map_atV (ps : List Part) (xs : List V) : (iV (places ps xs.length)).map (atV xs) = run ps xs := by
  rw [run_get]
  have h : ∀ l : List Nat, (∀ i ∈ l, i < xs.length) → (iV l).map (atV xs) = l.filterMap fun i => xs[i]? := by
    intro l
    induction l with
    | nil => intro _; rfl
    | cons a l ih =>
      intro h
      have ha := h a List.mem_cons_self
      rw [List.filterMap_cons, List.getElem?_eq_getElem ha, ← ih fun i hi => h i (List.mem_cons_of_mem _ hi)]
      show xs.getD (a : Int).toNat .non :: _ = _
      rw [Int.toNat_natCast, List.getD_eq_getElem?_getD, List.getElem?_eq_getElem ha]
      rfl
  exact h _ fun i hi => places_lt hi
/-- where the five places stand in a longer row, as values -/
def embV (n : Nat) : V → V
  | .int i => .int (if i < 2 then i else i + ((n : Int) - 5))
  | _ => .non
theorem map_embV {ps : List Part} (hok : ∀ p ∈ ps, Ok p) (h : keepsAll ps = false) {n : Nat} (hn : 5 ≤ n) : (iV (places ps 5)).map (embV n) = iV (places ps n) := by
  rw [places_five ps hok h n hn]
  unfold iV
  rw [List.map_map, List.map_map]
  refine List.map_congr_left fun i _ => ?_
  show V.int (if (i : Int) < 2 then (i : Int) else (i : Int) + ((n : Int) - 5)) = V.int ((emb n i : Nat) : Int)
  unfold emb
  by_cases h2 : i < 2
  · rw [if_pos h2, if_pos (by omega)]
  · rw [if_neg h2, if_neg (by omega)]
    refine congrArg V.int ?_
    omega
theorem iV_getI {l : List Nat} {i : Nat} {x : V} (hx : (iV l)[i]? = some x) : ∃ m : Nat, l[i]? = some m ∧ x = .int (m : Int) := by
  have hx' : (l.map fun (i : Nat) => V.int (i : Int))[i]? = some x := hx
  rw [List.getElem?_map] at hx'
  cases e : l[i]? with
  | none => rw [e] at hx'; cases hx'
  | some m =>
    rw [e] at hx'
    exact ⟨m, rfl, (Option.some.inj hx').symm⟩
/-- a cutter with these parts stands at x -/
structure CutAt (C : Addr) (H : Hp) (x : Addr) (ps : List Part) : Prop where
  ok : ∀ p ∈ ps, Ok p
  le : ps.length ≤ 4
  ex : ∃ (dx p t : Addr) (ts : List V), H x = some (.ins C dx [("_parts", .ref p), ("_table", .ref t), ("_keeps_all", .bl (keepsAll ps))]) ∧ H p = some (.tup (pV ps)) ∧ H t = some (.tup ts) ∧ ts.length = 7 ∧ ∀ i, i < 7 → ∃ q, ts[i]? = some (.ref q) ∧ H q = some (.tup (iV (places ps i)))
theorem CutAt.mono {C x : Addr} {H H' : Hp} {ps : List Part} (c : CutAt C H x ps) (k : ∀ b o, (∀ xs, o ≠ .lst xs) → H b = some o → H' b = some o) : CutAt C H' x ps := by
  obtain ⟨dx, p, t, ts, h1, h2, h3, hl, h4⟩ := c.ex
  refine ⟨c.ok, c.le, dx, p, t, ts, k _ _ (fun _ z => nomatch z) h1, k _ _ (fun _ z => nomatch z) h2, k _ _ (fun _ z => nomatch z) h3, hl, fun i hi => ?_⟩
  obtain ⟨q, e, hq⟩ := h4 i hi
  exact ⟨q, e, k _ _ (fun _ z => nomatch z) hq⟩
theorem CutAt.same {C x : Addr} {H H' : Hp} {ps : List Part} (c : CutAt C H x ps) (s : Same H H') : CutAt C H' x ps := c.mono fun b o _ h => s b o h
theorem CutAt.chg {C x d : Addr} {H H' : Hp} {ps : List Part} {xs : List V} (c : CutAt C H x ps) (s : Chg d H H') (hd : H d = some (.lst xs)) : CutAt C H' x ps :=
  c.mono fun b o n h => s b o (fun e => n xs (by rw [e, hd] at h; exact (Option.some.inj h).symm)) h
/-- what the class must have -/
structure CK (K : PySem.W.Frag) (C : Addr) : Prop where
  cls : Cls K C
  np : NoAttr K C "_parts"
  nt : NoAttr K C "_table"
  nk : NoAttr K C "_keeps_all"
  cc : PySem.W.findIn K (.ref C) "__class__" = some (some (.builtin "object.__class__"))
  cg : PySem.W.specialIn K (.builtin "object.__class__") "__get__" = some (some (.builtin "getset_descriptor.__get__"))
  ct : PySem.W.takesIn K (.builtin "object.__class__") = some true
  cm : PySem.W.mroIn K C (.type "object") = some true
  kit : PySem.W.kitOne K (.ref C) (.ref C) = some true
theorem CK.ty {K : PySem.W.Frag} {C : Addr} (c : CK K C) {H : Hp} {a dx : Addr} {fs : List (Str × V)} (e : H a = some (.ins C dx fs)) : TyX K H (.ref a) (.ref C) := .base (.ins e c.cls c.cc c.cg c.ct c.cm)
/-! ### tables as data -/
def dI (l : List Nat) : PyData := .tuple (l.map fun (i : Nat) => PyData.int (i : Int))
def dT (ps : List Part) : PyData := .tuple ((List.range 7).map fun i => dI (places ps i))
/-- the two keep the same of up to six places -/
def alike (ps qs : List Part) : Bool := (List.range 7).all fun i => decide (places ps i = places qs i)
theorem dpAll_iV {K : PySem.W.Frag} {H : Hp} : ∀ l : List Nat, DpAll K H (iV l) (l.map fun (i : Nat) => PyData.int (i : Int))
  | [] => .nil
  | i :: l => .cons (.int _) (dpAll_iV l)
theorem dp_iV {K : PySem.W.Frag} {H : Hp} {q : Addr} {l : List Nat} (h : H q = some (.tup (iV l))) : Dp K H (.ref q) (dI l) := .tup (.of h) (dpAll_iV l)
theorem dpAll_of {K : PySem.W.Frag} {H : Hp} {α : Type} (d : α → PyData) : ∀ (l : List α) (ts : List V), ts.length = l.length → (∀ (i : Nat) (x : α), l[i]? = some x → ∃ v, ts[i]? = some v ∧ Dp K H v (d x)) → DpAll K H ts (l.map d)
  | [], [], _, _ => .nil
  | [], _ :: _, h, _ => by cases h
  | _ :: _, [], h, _ => by cases h
  | x :: l, t :: ts, h, k => by
    obtain ⟨v, e, hv⟩ := k 0 x rfl
    cases e
    exact .cons hv (dpAll_of d l ts (Nat.succ.inj h) fun i y hy => k (i + 1) y hy)
theorem dp_table {K : PySem.W.Frag} {H : Hp} {t : Addr} {ts : List V} {ps : List Part} (h : H t = some (.tup ts)) (hl : ts.length = 7) (k : ∀ i, i < 7 → ∃ q, ts[i]? = some (.ref q) ∧ H q = some (.tup (iV (places ps i)))) : Dp K H (.ref t) (dT ps) := by
  refine .tup (.of h) (dpAll_of (fun i => dI (places ps i)) _ _ (by rw [hl, List.length_range]) fun i x hx => ?_)
  obtain ⟨hi, e⟩ := List.getElem?_eq_some_iff.mp hx
  rw [List.length_range] at hi
  rw [List.getElem_range] at e
  subst e
  obtain ⟨q, e1, e2⟩ := k i hi
  exact ⟨_, e1, dp_iV e2⟩
theorem eqvAll_ints : ∀ a b : List Nat, PyData.eqvAll (a.map fun (i : Nat) => PyData.int (i : Int)) (b.map fun (i : Nat) => PyData.int (i : Int)) = decide (a = b)
  | [], [] => rfl
  | [], _ :: _ => rfl
  | _ :: _, [] => rfl
  | x :: a, y :: b => by
    show (((x : Int) == (y : Int)) && PyData.eqvAll (a.map fun (i : Nat) => PyData.int (i : Int)) (b.map fun (i : Nat) => PyData.int (i : Int))) = _
    rw [eqvAll_ints a b]
    by_cases h : x = y
    · subst h
      rw [beq_self_eq_true, Bool.true_and, decide_eq_decide]
      exact ⟨fun h => by rw [h], fun h => (List.cons.inj h).2⟩
    · rw [show ((x : Int) == (y : Int)) = false from beq_eq_false_iff_ne.mpr (by omega), Bool.false_and]
      exact (decide_eq_false fun z => h (List.cons.inj z).1).symm
theorem eqv_dI (a b : List Nat) : PyData.eqv (dI a) (dI b) = decide (a = b) := eqvAll_ints a b
theorem eqvAll_map {α : Type} (f g : α → List Nat) : ∀ l : List α, PyData.eqvAll (l.map fun i => dI (f i)) (l.map fun i => dI (g i)) = l.all fun i => decide (f i = g i)
  | [] => rfl
  | x :: l => by
    show (PyData.eqv (dI (f x)) (dI (g x)) && PyData.eqvAll (l.map fun i => dI (f i)) (l.map fun i => dI (g i))) = _
    rw [eqv_dI, eqvAll_map f g l, List.all_cons]
theorem eqv_dT (ps qs : List Part) : PyData.eqv (dT ps) (dT qs) = alike ps qs := eqvAll_map _ _ _
theorem shp_ints : ∀ l : List Nat, PyData.canLayAll0 (l.map fun (i : Nat) => PyData.int (i : Int)) = true ∧ PyData.depthAll (l.map fun (i : Nat) => PyData.int (i : Int)) = 0
  | [] => ⟨rfl, rfl⟩
  | x :: l => by
    obtain ⟨h1, h2⟩ := shp_ints l
    exact ⟨h1, by show max 0 _ = 0; rw [h2]; rfl⟩
theorem shp_dI (l : List Nat) : SeqAt.shaped (dI l) = true := by
  obtain ⟨h1, h2⟩ := shp_ints l
  show (PyData.canLayAll0 (l.map fun (i : Nat) => PyData.int (i : Int)) && decide (PyData.depthAll (l.map fun (i : Nat) => PyData.int (i : Int)) + 1 ≤ 64)) = true
  rw [h1, h2]
  rfl
theorem shp_map {α : Type} (f : α → List Nat) : ∀ l : List α, PyData.canLayAll0 (l.map fun i => dI (f i)) = true ∧ PyData.depthAll (l.map fun i => dI (f i)) ≤ 1
  | [] => ⟨rfl, Nat.zero_le _⟩
  | x :: l => by
    obtain ⟨h1, h2⟩ := shp_map f l
    obtain ⟨h3, h4⟩ := shp_ints (f x)
    refine ⟨?_, ?_⟩
    · show (PyData.canLayAll0 ((f x).map fun (i : Nat) => PyData.int (i : Int)) && PyData.canLayAll0 (l.map fun i => dI (f i))) = true
      rw [h3, h1]
      rfl
    · show max (PyData.depthAll ((f x).map fun (i : Nat) => PyData.int (i : Int)) + 1) (PyData.depthAll (l.map fun i => dI (f i))) ≤ 1
      rw [h4]
      omega
theorem shp_dT (ps : List Part) : SeqAt.shaped (dT ps) = true := by
  obtain ⟨h1, h2⟩ := shp_map (fun i => places ps i) (List.range 7)
  show (PyData.canLayAll0 ((List.range 7).map fun i => dI (places ps i)) && decide (PyData.depthAll ((List.range 7).map fun i => dI (places ps i)) + 1 ≤ 64)) = true
  rw [h1]
  show decide _ = true
  exact decide_eq_true (by omega)
/-! ### what its defs promise -/
def cutText (ps : List Part) : Str := if ps = [] then "all" else Txt.join " > " (ps.map Part.text)
def spParts (C : Addr) : Sp := fun vs H Q _ => ∃ (x : Addr) (ps : List Part), vs = [.ref x] ∧ CutAt C H x ps ∧ ∀ p, H p = some (.tup (pV ps)) → Q (.ref p) H
def spKeeps (C : Addr) : Sp := fun vs H Q _ => ∃ (x : Addr) (ps : List Part), vs = [.ref x] ∧ CutAt C H x ps ∧ ∀ H', Same H H' → Q (.bl (keepsAll ps)) H'
def spCutLen (C : Addr) : Sp := fun vs H Q _ => ∃ (x : Addr) (ps : List Part), vs = [.ref x] ∧ CutAt C H x ps ∧ Q (.int ps.length) H
def spCutStr (C : Addr) : Sp := fun vs H Q _ => ∃ (x : Addr) (ps : List Part), vs = [.ref x] ∧ CutAt C H x ps ∧ ∀ H', Same H H' → Q (.str (cutText ps)) H'
def spCutEq (C : Addr) : Sp := fun vs H Q _ => ∃ (x y : Addr) (ps qs : List Part), vs = [.ref x, .ref y] ∧ CutAt C H x ps ∧ CutAt C H y qs ∧ Q (.bl (alike ps qs)) H
def spCutPlaces (C : Addr) : Sp := fun vs H Q _ => ∃ (x : Addr) (ps : List Part) (n : Nat), vs = [.ref x, .int n] ∧ CutAt C H x ps ∧ n ≤ 1000 ∧ ∀ H' q, Same H H' → H' q = some (.tup (iV (places ps n))) → Q (.ref q) H'
def spCutCall (C : Addr) : Sp := fun vs H Q _ => ∃ (x r : Addr) (ps : List Part) (xs : List V), vs = [.ref x, .ref r] ∧ CutAt C H x ps ∧ H r = some (.tup xs) ∧ xs.length ≤ 1000 ∧ ∀ H' q, Same H H' → H q = none → H' q = some (.tup (run ps xs)) → Q (.ref q) H'
def spCutOf (C : Addr) : Sp := fun vs H Q _ => ∃ (a : Addr) (ps : List Part), vs = [.ref C, .ref a] ∧ H a = some (.tup (pV ps)) ∧ (∀ p ∈ ps, Ok p) ∧ ps.length ≤ 4 ∧ ∀ H' x, Same H H' → H x = none → CutAt C H' x ps → Q (.ref x) H'
end Cut

set_option Elab.async false
set_option linter.all false
set_option maxRecDepth 100000
set_option maxHeartbeats 4000000
/-! what cutters tell, as data that repr and == see -/
namespace Cut
open PySem PySem.Spec PyProof.Rows L2 Ly
theorem log_small {i : Int} (h : i.natAbs < 2 ^ 1900) : i.natAbs.log2 < 1920 := by
  by_cases h0 : i.natAbs = 0
  · rw [h0]
    decide
  · exact Nat.lt_of_lt_of_le ((Nat.log2_lt h0).mpr h) (by decide)
theorem rpAll_iV {H : Hp} : ∀ l : List Nat, (∀ i ∈ l, i ≤ 2000) → RpAll H (l.map fun (i : Nat) => PyData.int (i : Int)) (iV l)
  | [], _ => rfl
  | i :: l, h => by
    refine ⟨.int i, iV l, rfl, ⟨rfl, log_small ?_⟩, rpAll_iV l fun j hj => h j (List.mem_cons_of_mem _ hj)⟩
    have h1 := h i List.mem_cons_self
    have h2 : (2000 : Nat) < 2 ^ 1900 := by decide +kernel
    rw [Int.natAbs_natCast]
    omega
theorem rp_iV {H : Hp} {q : Addr} {l : List Nat} (e : H q = some (.tup (iV l))) (h : ∀ i ∈ l, i ≤ 2000) : Rp H (dI l) (.ref q) := ⟨q, iV l, rfl, e, rpAll_iV l h⟩
theorem bulk_ints : ∀ l : List Nat, PyData.bulkAll (l.map fun (i : Nat) => PyData.int (i : Int)) = l.length
  | [] => rfl
  | i :: l => by
    show 0 + 1 + PyData.bulkAll (l.map fun (i : Nat) => PyData.int (i : Int)) = l.length + 1
    rw [bulk_ints l]
    omega
theorem bulk_dI (l : List Nat) : (dI l).bulk = l.length := bulk_ints l
theorem depth_dI (l : List Nat) : (dI l).depth = 1 := by
  show PyData.depthAll (l.map fun (i : Nat) => PyData.int (i : Int)) + 1 = 1
  rw [(shp_ints l).2]
/-- the parts as data -/
def dP (ps : List Part) : List PyData := ps.map fun p => PyData.str p.text
theorem rpAll_pV {H : Hp} : ∀ ps : List Part, (∀ p ∈ ps, Ok p) → RpAll H (dP ps) (pV ps)
  | [], _ => rfl
  | p :: ps, h => ⟨.str p.text, pV ps, rfl, ⟨rfl, text_cs (h p List.mem_cons_self)⟩, rpAll_pV ps fun q hq => h q (List.mem_cons_of_mem _ hq)⟩
theorem bulk_dP : ∀ ps : List Part, (∀ p ∈ ps, Ok p) → PyData.bulkAll (dP ps) ≤ 11 * ps.length
  | [], _ => Nat.le_refl _
  | p :: ps, h => by
    have h1 := text_len (h p List.mem_cons_self)
    have h2 := bulk_dP ps fun q hq => h q (List.mem_cons_of_mem _ hq)
    show p.text.cps.size + 1 + PyData.bulkAll (dP ps) ≤ 11 * (ps.length + 1)
    have h3 : p.text.cps.size ≤ 10 := h1
    omega
theorem depth_dP : ∀ ps : List Part, PyData.depthAll (dP ps) = 0
  | [] => rfl
  | p :: ps => by
    show max 0 (PyData.depthAll (dP ps)) = 0
    rw [depth_dP ps]
    rfl
theorem text_pt {p : Part} (h : Ok p) : p.text.cps.all (· < 0x110000) = true := by
  rw [← Array.all_toList, List.all_eq_true]
  intro c hc
  cases p with
  | all =>
    have : ∀ c ∈ (Part.text .all).cps.toList, decide (c < 0x110000) = true := by decide +kernel
    exact this c hc
  | pat f b =>
    rcases (pat_facts h).cs c hc with e | e | e <;> rw [e] <;> decide
theorem canLay_dP : ∀ ps : List Part, (∀ p ∈ ps, Ok p) → PyData.canLayAll0 (dP ps) = true
  | [], _ => rfl
  | p :: ps, h => by
    show (PyData.strOk p.text && PyData.canLayAll0 (dP ps)) = true
    rw [canLay_dP ps fun q hq => h q (List.mem_cons_of_mem _ hq), Bool.and_true]
    exact text_pt (h p List.mem_cons_self)
theorem shp_list {ds : List PyData} (h : PyData.canLayAll0 ds = true) (hd : PyData.depthAll ds = 0) : SeqAt.shaped (.list ds) = true := by
  show (PyData.canLayAll0 ds && decide (PyData.depthAll ds + 1 ≤ 64)) = true
  rw [h, hd]
  rfl
theorem dpAll_pV {K : PySem.W.Frag} {H : Hp} : ∀ ps : List Part, DpAll K H (pV ps) (dP ps)
  | [] => .nil
  | p :: ps => .cons (.str _) (dpAll_pV ps)
theorem eqv_empty (ds : List PyData) : PyData.eqv (.list ds) (.list []) = ds.isEmpty := by cases ds <;> rfl
/-! ### texts of cutters -/
theorem join_len (sep : Str) : ∀ xs : List Str, (Str.join sep xs).length ≤ (xs.map fun x => x.length + sep.length).sum
  | [] => Nat.zero_le _
  | [x] => by
    show x.length ≤ x.length + sep.length + 0
    omega
  | x :: y :: r => by
    have h := join_len sep (y :: r)
    show (x ++ sep ++ Str.join sep (y :: r) : Str).length ≤ _
    rw [← str_len, app_cps, app_cps, List.length_append, List.length_append, str_len, str_len, str_len, List.map_cons, List.sum_cons]
    omega
theorem join_mem (sep : Str) : ∀ (xs : List Str) (c : Nat), c ∈ (Str.join sep xs).cps.toList → c ∈ sep.cps.toList ∨ ∃ x ∈ xs, c ∈ x.cps.toList
  | [], c, h => absurd (show c ∈ ([] : List Nat) from h) List.not_mem_nil
  | [x], c, h => .inr ⟨x, List.mem_cons_self, h⟩
  | x :: y :: r, c, h => by
    have h' : c ∈ (x ++ sep ++ Str.join sep (y :: r) : Str).cps.toList := h
    rw [app_cps, app_cps, List.mem_append, List.mem_append] at h'
    rcases h' with (h' | h') | h'
    · exact .inr ⟨x, List.mem_cons_self, h'⟩
    · exact .inl h'
    · rcases join_mem sep (y :: r) c h' with h' | ⟨z, hz, h'⟩
      · exact .inl h'
      · exact .inr ⟨z, List.mem_cons_of_mem _ hz, h'⟩
theorem cutText_cs {ps : List Part} (h : ∀ p ∈ ps, Ok p) : ∀ c ∈ (cutText ps).cps.toList, c < 16 ^ 8 := by
  intro c hc
  unfold cutText at hc
  by_cases e : ps = []
  · rw [if_pos e] at hc
    have : ∀ c ∈ (Str.ofString "all").cps.toList, c < 16 ^ 8 := by decide +kernel
    exact this c hc
  · rw [if_neg e, show Txt.join " > " (ps.map Part.text) = Str.join " > " (ps.map Part.text) from StrLaws.glued_eq_join _ _] at hc
    rcases join_mem _ _ _ hc with hc | ⟨x, hx, hc⟩
    · have : ∀ c ∈ (Str.ofString " > ").cps.toList, c < 16 ^ 8 := by decide +kernel
      exact this c hc
    · obtain ⟨p, hp, rfl⟩ := List.mem_map.mp hx
      exact text_cs (h p hp) c hc
theorem cutText_len {ps : List Part} (h : ∀ p ∈ ps, Ok p) (hl : ps.length ≤ 4) : (cutText ps).length ≤ 60 := by
  unfold cutText
  by_cases e : ps = []
  · rw [if_pos e]
    decide +kernel
  · rw [if_neg e, show Txt.join " > " (ps.map Part.text) = Str.join " > " (ps.map Part.text) from StrLaws.glued_eq_join _ _]
    refine Nat.le_trans (join_len _ _) ?_
    have e3 : (Str.ofString " > ").length = 3 := by decide +kernel
    have hb : ∀ l : List Part, (∀ p ∈ l, Ok p) → ((l.map Part.text).map fun x => x.length + 3).sum ≤ 13 * l.length := by
      intro l
      induction l with
      | nil => intro _; exact Nat.le_refl _
      | cons a l ih =>
        intro h
        have h1 := text_len (h a List.mem_cons_self)
        have h2 := ih fun p hp => h p (List.mem_cons_of_mem _ hp)
        rw [List.map_cons, List.map_cons, List.sum_cons, List.length_cons]
        omega
    have := hb ps h
    show ((ps.map Part.text).map fun x => x.length + (Str.ofString " > ").length).sum ≤ 60
    rw [e3]
    omega
theorem join_size {ps : List Part} (h : ∀ p ∈ ps, Ok p) (hl : ps.length ≤ 4) : ((ps.map Part.text).map fun x => x.length).sum + (ps.map Part.text).length * (Str.ofString " > ").length ≤ 16777216 := by
  have hb : ∀ l : List Part, (∀ p ∈ l, Ok p) → ((l.map Part.text).map fun x => x.length).sum ≤ 10 * l.length := by
    intro l
    induction l with
    | nil => intro _; exact Nat.le_refl _
    | cons a l ih =>
      intro h
      have h1 := text_len (h a List.mem_cons_self)
      have h2 := ih fun p hp => h p (List.mem_cons_of_mem _ hp)
      rw [List.map_cons, List.map_cons, List.sum_cons, List.length_cons]
      omega
  have h1 := hb ps h
  have e3 : (Str.ofString " > ").length = 3 := by decide +kernel
  rw [List.length_map, e3]
  omega
/-! ### rows of small data -/
theorem rpAll_append {H : Hp} : ∀ {ds : List PyData} {xs : List V} {es : List PyData} {ys : List V}, RpAll H ds xs → RpAll H es ys → RpAll H (ds ++ es) (xs ++ ys)
  | [], xs, es, ys, h, k => by
    have h' : xs = [] := h
    subst h'
    exact k
  | d :: ds, xs, es, ys, h, k => by
    obtain ⟨x, r, rfl, h1, h2⟩ := (show ∃ x r, xs = x :: r ∧ Rp H d x ∧ RpAll H ds r from h)
    exact ⟨x, r ++ ys, rfl, h1, rpAll_append h2 k⟩
theorem rpAll_len {H : Hp} : ∀ {ds : List PyData} {xs : List V}, RpAll H ds xs → ds.length = xs.length
  | [], xs, h => by
    have h' : xs = [] := h
    subst h'
    rfl
  | d :: ds, xs, h => by
    obtain ⟨x, r, rfl, h1, h2⟩ := (show ∃ x r, xs = x :: r ∧ Rp H d x ∧ RpAll H ds r from h)
    rw [List.length_cons, List.length_cons, rpAll_len h2]
theorem rpAll_get {H : Hp} : ∀ {ds : List PyData} {xs : List V} (i : Nat), RpAll H ds xs → (∃ d x, ds[i]? = some d ∧ xs[i]? = some x ∧ Rp H d x) ∨ (ds[i]? = none ∧ xs[i]? = none)
  | [], xs, i, h => by
    have h' : xs = [] := h
    subst h'
    exact .inr ⟨rfl, rfl⟩
  | d :: ds, xs, i, h => by
    obtain ⟨x, r, rfl, h1, h2⟩ := (show ∃ x r, xs = x :: r ∧ Rp H d x ∧ RpAll H ds r from h)
    cases i with
    | zero => exact .inl ⟨d, x, rfl, rfl, h1⟩
    | succ i => exact rpAll_get i h2
theorem rpAll_sel {H : Hp} {ds : List PyData} {xs : List V} (h : RpAll H ds xs) : ∀ l : List Nat, RpAll H (l.filterMap fun i => ds[i]?) (l.filterMap fun i => xs[i]?)
  | [] => rfl
  | i :: l => by
    rw [List.filterMap_cons, List.filterMap_cons]
    rcases rpAll_get i h with ⟨d, x, e1, e2, h1⟩ | ⟨e1, e2⟩
    · rw [e1, e2]
      exact ⟨x, _, rfl, h1, rpAll_sel h l⟩
    · rw [e1, e2]
      exact rpAll_sel h l
theorem rpAll_run {H : Hp} {ds : List PyData} {xs : List V} (ps : List Part) (h : RpAll H ds xs) : RpAll H (run ps ds) (run ps xs) := by
  rw [run_get, run_get, rpAll_len h]
  exact rpAll_sel h _
/-- small data -/
def Sm (ds : List PyData) : Prop := ∀ e ∈ ds, e.bulk ≤ 3 ∧ e.depth ≤ 1
theorem Sm.bulk : ∀ {ds : List PyData}, Sm ds → PyData.bulkAll ds ≤ 4 * ds.length
  | [], _ => Nat.le_refl _
  | d :: ds, h => by
    have h1 := (h d List.mem_cons_self).1
    have h2 := Sm.bulk fun e he => h e (List.mem_cons_of_mem _ he)
    show d.bulk + 1 + PyData.bulkAll ds ≤ 4 * (ds.length + 1)
    omega
theorem Sm.depth : ∀ {ds : List PyData}, Sm ds → PyData.depthAll ds ≤ 1
  | [], _ => Nat.zero_le _
  | d :: ds, h => by
    have h1 := (h d List.mem_cons_self).2
    have h2 := Sm.depth fun e he => h e (List.mem_cons_of_mem _ he)
    show max d.depth (PyData.depthAll ds) ≤ 1
    omega
theorem Sm.run {ds : List PyData} (h : Sm ds) (ps : List Part) : Sm (run ps ds) := fun e he => h e (run_sub ps ds e he)
/-- a row of small data, whatever the dice do -/
def RowD (d : Addr) (H : Hp) (xs : List V) (ds : List PyData) : Prop := Sm ds ∧ ∀ H', Chg d H H' → RpAll H' ds xs
theorem RowD.mono {d : Addr} {H H1 : Hp} {xs : List V} {ds : List PyData} (h : RowD d H xs ds) (c : Chg d H H1) : RowD d H1 xs ds := ⟨h.1, fun H' c' => h.2 H' (c.trans c')⟩
theorem RowD.snoc {d : Addr} {H : Hp} {xs : List V} {ds : List PyData} {x : V} {e : PyData} (h : RowD d H xs ds) (hb : e.bulk ≤ 3) (hd : e.depth ≤ 1) (k : ∀ H', Chg d H H' → Rp H' e x) : RowD d H (xs ++ [x]) (ds ++ [e]) := by
  refine ⟨fun y hy => ?_, fun H' c => rpAll_append (h.2 H' c) ⟨x, [], rfl, k H' c, rfl⟩⟩
  rcases List.mem_append.mp hy with hy | hy
  · exact h.1 y hy
  · rw [List.mem_singleton.mp hy]
    exact ⟨hb, hd⟩
/-- .. and whatever the list does in which the row is gathered -/
def Chg2 (d L : Addr) (H H' : Hp) : Prop := ∀ b o, b ≠ d → b ≠ L → H b = some o → H' b = some o
theorem Chg2.trans {d L : Addr} {H H1 H2 : Hp} (a : Chg2 d L H H1) (b : Chg2 d L H1 H2) : Chg2 d L H H2 := fun x o n m h => b x o n m (a x o n m h)
theorem Chg2.of {d L : Addr} {H H' : Hp} (c : Chg d H H') : Chg2 d L H H' := fun x o n _ h => c x o n h
theorem Chg2.upd {d L : Addr} {H H' : Hp} {o : HO} (c : Chg2 d L H H') : Chg2 d L H (L2.upd H' L o) := fun x u n m h => by
  rw [upd_ne m]
  exact c x u n m h
def RowL (d L : Addr) (H : Hp) (xs : List V) (ds : List PyData) : Prop := Sm ds ∧ ∀ H', Chg2 d L H H' → RpAll H' ds xs
theorem RowL.row {d L : Addr} {H : Hp} {xs : List V} {ds : List PyData} (h : RowL d L H xs ds) : RowD d H xs ds := ⟨h.1, fun H' c => h.2 H' (.of c)⟩
theorem RowL.mono {d L : Addr} {H H1 : Hp} {xs : List V} {ds : List PyData} (h : RowL d L H xs ds) (c : Chg2 d L H H1) : RowL d L H1 xs ds := ⟨h.1, fun H' c' => h.2 H' (c.trans c')⟩
theorem RowL.snoc {d L : Addr} {H : Hp} {xs : List V} {ds : List PyData} {x : V} {e : PyData} (h : RowL d L H xs ds) (hb : e.bulk ≤ 3) (hd : e.depth ≤ 1) (k : ∀ H', Chg2 d L H H' → Rp H' e x) : RowL d L H (xs ++ [x]) (ds ++ [e]) := by
  refine ⟨fun y hy => ?_, fun H' c => rpAll_append (h.2 H' c) ⟨x, [], rfl, k H' c, rfl⟩⟩
  rcases List.mem_append.mp hy with hy | hy
  · exact h.1 y hy
  · rw [List.mem_singleton.mp hy]
    exact ⟨hb, hd⟩
/-- the parts that are not all -/
theorem noAll (ps : List Part) : (ps.filter fun p => !decide (p = .all)).isEmpty = keepsAll ps := by
  induction ps with
  | nil => rfl
  | cons p ps ih =>
    show _ = (decide (p = .all) && keepsAll ps)
    rw [List.filter_cons]
    by_cases h : p = .all
    · rw [decide_eq_true h, Bool.true_and, ← ih]
      rfl
    · rw [decide_eq_false h, Bool.false_and]
      rfl
theorem places_zero (ps : List Part) : places ps 0 = [] := List.eq_nil_of_length_eq_zero (Nat.le_zero.mp (places_len ps 0))
theorem places_one (ps : List Part) : places ps 1 = [] ∨ places ps 1 = [0] := by
  have hl := places_len ps 1
  have hlt := fun i (h : i ∈ places ps 1) => places_lt h
  generalize places ps 1 = l at hl hlt
  match l, hl, hlt with
  | [], _, _ => exact .inl rfl
  | [i], _, hlt =>
    have := hlt i List.mem_cons_self
    have e : i = 0 := by omega
    subst e
    exact .inr rfl
  | _ :: _ :: _, hl, _ =>
    simp only [List.length_cons] at hl
    omega
end Cut

set_option Elab.async false
set_option linter.all false
set_option maxRecDepth 100000
set_option maxHeartbeats 8000000
namespace K24
open PySem PySem.Spec PyProof.Rows L2 Ly Cut

def topS (i : Nat) : Stmt := PySem.Challenge.pw_namedabove_k24_short_forms.main.body.getD i (.Pass ⟨0, 0, 0, 0⟩)
structure Zs (mg : Str → Option Value) : Prop where
  z_len : mg "len" = none
  z_int : mg "int" = none
  z_abs : mg "abs" = none
  z_max : mg "max" = none
  z_min : mg "min" = none
  z_range : mg "range" = none
  z_all : mg "all" = none
  z_isinstance : mg "isinstance" = none
  z_str : mg "str" = none
  z_repr : mg "repr" = none
  z_bool : mg "bool" = none
  z_list : mg "list" = none
  z_tuple : mg "tuple" = none
  z_sorted : mg "sorted" = none
  z_set : mg "set" = none
  g_REACH : ∃ t, mg "REACH" = some (.int 5 t)
  g_MAX_FRONT : ∃ t, mg "MAX_FRONT" = some (.int 2 t)
  g_MAX_BACK : ∃ t, mg "MAX_BACK" = some (.int 3 t)
abbrev s_is_whole : Stmt := topS 3
abbrev N_is_whole : List Str := ["value"]
abbrev P_is_whole : List Str := ["value"]
theorem sc_is_whole : FnScope N_is_whole P_is_whole (defScope s_is_whole) := ⟨rfl, rfl, rfl, by decide +kernel, rfl, by decide +kernel, by decide +kernel⟩

abbrev s_shortf : Stmt := topS 73
abbrev N_shortf : List Str := ["row", "number"]
abbrev P_shortf : List Str := ["row"]
theorem sc_shortf : FnScope N_shortf P_shortf (defScope s_shortf) := ⟨rfl, rfl, rfl, by decide +kernel, rfl, by decide +kernel, by decide +kernel⟩

abbrev s_dice : Stmt := topS 92
abbrev N_dice : List Str := ["_law_script", "_law_at", "_law_cell", "_law_great", "_law_mixed"]
abbrev P_dice : List Str := ["_law_script", "_law_at"]
theorem sc_dice : FnScope N_dice P_dice (defScope s_dice) := ⟨rfl, rfl, rfl, by decide +kernel, rfl, by decide +kernel, by decide +kernel⟩

abbrev s_roll : Stmt := topS 93
abbrev N_roll : List Str := ["_law_dice_here", "_law_total", "_law_found", "_law_one", "_law_two"]
abbrev P_roll : List Str := ["_law_dice_here", "_law_total"]
theorem sc_roll : FnScope N_roll P_roll (defScope s_roll) := ⟨rfl, rfl, rfl, by decide +kernel, rfl, by decide +kernel, by decide +kernel⟩

abbrev s_one_of : Stmt := topS 94
abbrev N_one_of : List Str := ["_law_dice_here", "_law_items"]
abbrev P_one_of : List Str := ["_law_dice_here", "_law_items"]
theorem sc_one_of : FnScope N_one_of P_one_of (defScope s_one_of) := ⟨rfl, rfl, rfl, by decide +kernel, rfl, by decide +kernel, by decide +kernel⟩

abbrev s_lshort : Stmt := topS 95
abbrev N_lshort : List Str := ["_law_row"]
abbrev P_lshort : List Str := ["_law_row"]
theorem sc_lshort : FnScope N_lshort P_lshort (defScope s_lshort) := ⟨rfl, rfl, rfl, by decide +kernel, rfl, by decide +kernel, by decide +kernel⟩

abbrev s_short : Stmt := inClass (topS 89) 3
abbrev N_short : List Str := ["row", "number"]
abbrev P_short : List Str := ["row"]
theorem sc_short : FnScope N_short P_short (defScope s_short) := ⟨rfl, rfl, rfl, by decide +kernel, rfl, by decide +kernel, by decide +kernel⟩

section
variable {P : Program} {w : World} {K : PySem.W.Frag} {mg : Str → Option Value} {base : Heap} {f CW CI : Addr} {fd : FuncData}
theorem ok_dice (Z : Zs mg) (D : Df K mg "_law_dice" s_dice P_dice f fd) : FnOk P w K mg base CX0 1 f fd P_dice (spDice K) := by
  refine D.F.ok sc_dice (fun vs H Q E h => ?_) (fun cdv A outer s H vs Q E hr h => ?_)
  · obtain ⟨a, ns, k, rfl, _⟩ := h
    rfl
  · obtain ⟨a, ns, k, rfl, hS, h63, hk, q⟩ := h
    have nd := sc_dice.nd
    refine ⟨_,
    (pss_cons
    (ps_set (i := 2) nd rfl (Or.inl rfl) (pe_ifExp (pt_cmpR op_lt (pv 1) (pe_callB call_lenL (by rfl) Z.z_len (by decide +kernel) (pa_cons (pv 0) pa_nil)) (nomark _)) (pe_ix ix_list (pv 0) (pv 1) (fun _ _ => rfl)) (pe_op op_add (pe_op op_mul pe_int (pv 1)) pe_int)))
    (pss_cons
    (ps_set (i := 3) nd rfl (Or.inl rfl) (pe_op op_mod (pe_callTy call_intI (by rfl) Z.z_int (by decide +kernel) (pa_cons (pe_callB call_abs (by rfl) Z.z_abs (by decide +kernel) (pa_cons (pv 2) pa_nil)) pa_nil)) (pe_op op_powW (pe_op op_powW pe_int pe_int) pe_int)))
    (pss_cons
    (ps_set (i := 4) nd rfl (Or.inl rfl) (pe_op op_add (pe_op op_add (pe_op op_add (pe_op op_mul (pe_op op_mod (pe_callTy call_intI (by rfl) Z.z_int (by decide +kernel) (pa_cons (pv 3) pa_nil)) pe_int) pe_int) (pe_op op_mul pe_int (pv 1))) (pe_op op_mul pe_int (pe_callTy call_intB (by rfl) Z.z_int (by decide +kernel) (pa_cons (pe_cmpR op_lt (pv 2) pe_int (nomark _)) pa_nil)))) pe_int))
    (pss_one
    (ps_ret (pe_lst (pa_cons (pe_callB (call_max2 rfl) (by rfl) Z.z_max (by decide +kernel) (pa_cons pe_int (pa_cons (pe_op op_sub (pv 3) (pe_op op_powW pe_int pe_int)) pa_nil))) (pa_cons (pe_op op_mod (pe_callTy call_intI (by rfl) Z.z_int (by decide +kernel) (pa_cons (pv 4) pa_nil)) pe_int) (pa_cons pe_int pa_nil))))))))), ?_⟩
    refine asgS (fun v H1 => H1 = H ∧ ∃ x : Int, v = .int x) (fun Q' q' => ?_) (fun v H' hv => ?_)
    · refine ⟨.int k, rfl, .ref a, rfl, a, _, rfl, hS, _, _, rfl, rfl, _, rfl, ite2 (fun e => ?_) (fun e => ?_)⟩
      · have e1 := of_decide_eq_true e
        rw [List.length_map] at e1
        have e2 : k < ns.length := by omega
        refine ⟨_, rfl, _, rfl, a, _, _, .int ns[k], rfl, rfl, hS, atI_nat ?_, q' _ _ ⟨rfl, _, rfl⟩⟩
        rw [List.getElem?_map, List.getElem?_eq_getElem e2]
        rfl
      · exact ⟨_, rfl, _, _, rfl, rfl, .inl ⟨by decide, by decide⟩, _, _, rfl, rfl, q' _ _ ⟨rfl, _, rfl⟩⟩
    · obtain ⟨rfl, x, rfl⟩ := hv
      have p60 : CPw 10 60 := ⟨by decide, by decide +kernel⟩
      have p600 : CPw ((10 : Int) ^ (60 : Int).toNat) 10 := ⟨by decide, by decide +kernel⟩
      have pos : (0 : Int) < ((10 : Int) ^ (60 : Int).toNat) ^ (10 : Int).toNat := by decide +kernel
      refine asgS (fun v H1 => H1 = H' ∧ ∃ gr : Int, v = .int gr ∧ 0 ≤ gr ∧ gr.natAbs < 2 ^ 2000) (fun Q' q' => ?_) (fun v H1 hv => ?_)
      · refine ⟨_, rfl, _, rfl, _, rfl, _, _, rfl, rfl, p60, _, _, rfl, rfl, p600, _, _, rfl, rfl, pos, q' _ _ ⟨rfl, _, rfl, great_ok _⟩⟩
      obtain ⟨rfl, gr, rfl, g0, gB⟩ := hv
      have cm : ∀ y : Int, CMul (y % 2147483399) 60029 := fun y => .inr ⟨by decide, by decide⟩
      refine ⟨_, rfl, _, rfl, _, _, rfl, rfl, by change (0 : Int) < _; decide, _, _, rfl, rfl, cm _, _, rfl, _, _, rfl, rfl, .inl ⟨by decide, by decide⟩, _, _, rfl, rfl, _, rfl, _, _, rfl, rfl, _, rfl, _, _, rfl, rfl, .inl ⟨by decide, by decide⟩, _, _, rfl, rfl, _, _, rfl, rfl, ?_⟩
      refine ⟨_, rfl, _, _, rfl, rfl, ⟨by decide, by decide +kernel⟩, _, _, rfl, rfl, _, _, rfl, _, rfl, _, rfl, _, _, rfl, rfl, by change (0 : Int) < _; decide, ?_⟩
      refine ⟨by show 3 ≤ sizeLine; decide, fun p hp => q _ p (same_new hp) hp ⟨_, _, _, upd_same, ?_⟩⟩
      refine ⟨?_, ?_, Int.emod_nonneg _ (by decide), Int.lt_trans (Int.emod_lt_of_pos _ (by decide)) (by decide), Int.le_refl _⟩
      · split <;> omega
      · refine less_ok g0 gB (by split <;> omega) ?_
        have t : (0 : Int) ≤ 10 ^ (18 : Int).toNat := by decide +kernel
        split <;> omega

theorem ok_roll (Z : Zs mg) (D : Df K mg "_law_roll" s_roll P_roll f fd) : FnOk P w K mg base CX0 1 f fd P_roll spRoll := by
  refine D.F.ok sc_roll (fun vs H Q E h => ?_) (fun cdv A outer s H vs Q E hr h => ?_)
  · obtain ⟨d, n, rfl, _⟩ := h
    rfl
  · obtain ⟨d, n, rfl, ⟨a, b, c, hd, B⟩, n0, n1, q⟩ := h
    have nd := sc_roll.nd
    refine ⟨_,
    (pss_cons
    (ps_if (pt_cmpR op_gt (pe_ix ix_list (pv 0) pe_int (fun _ _ => rfl)) pe_int (nomark _))
      (pss_cons
      (ps_set (i := 2) nd rfl (Or.inl rfl) (pe_op op_mod (pe_callTy call_intI (by rfl) Z.z_int (by decide +kernel) (pa_cons (pe_ix ix_list (pv 0) pe_int (fun _ _ => rfl)) pa_nil)) (pv 1)))
      (pss_cons
      (ps_asg (pe_op op_fdivW (pe_ix ix_list (pv 0) pe_int (fun _ _ => rfl)) (pv 1)) (pg_sub (pv 0) pe_int set_list))
      (pss_one
      (ps_ret (pv 2)))))
      pss_nil)
    (pss_cons
    (ps_asg (pe_op op_add (pe_ix ix_list (pv 0) pe_int (fun _ _ => rfl)) pe_int) (pg_sub (pv 0) pe_int set_list))
    (pss_cons
    (ps_set (i := 3) nd rfl (Or.inl rfl) (pe_op op_mod (pe_callTy call_intI (by rfl) Z.z_int (by decide +kernel) (pa_cons (pe_op op_add (pe_ix ix_list (pv 0) pe_int (fun _ _ => rfl)) (pe_op op_mul pe_int (pe_ix ix_list (pv 0) pe_int (fun _ _ => rfl)))) pa_nil)) pe_int))
    (pss_cons
    (ps_set (i := 4) nd rfl (Or.inl rfl) (pe_op op_add (pe_op op_mul (pe_op op_mod (pe_callTy call_intI (by rfl) Z.z_int (by decide +kernel) (pa_cons (pe_op op_mul (pv 3) (pv 3)) pa_nil)) pe_int) (pv 3)) (pe_op op_mul pe_int (pe_ix ix_list (pv 0) pe_int (fun _ _ => rfl)))))
    (pss_cons
    (ps_set (i := 4) nd rfl (Or.inl rfl) (pe_op op_mod (pe_callTy call_intI (by rfl) Z.z_int (by decide +kernel) (pa_cons (pv 4) pa_nil)) pe_int))
    (pss_one
    (ps_ret (pe_op op_mod (pe_callTy call_intI (by rfl) Z.z_int (by decide +kernel) (pa_cons (pe_op op_fdiv (pv 4) pe_int) pa_nil)) (pv 1))))))))), ?_⟩
    have nB : n.natAbs < 2 ^ 200 := by
      have e : (2 : Int) ^ 200 = ((2 ^ 200 : Nat) : Int) := by decide +kernel
      rw [e] at n1
      generalize (2 ^ 200 : Nat) = m at *
      omega
    refine ⟨_, rfl, d, _, 0, _, rfl, rfl, .of hd, rfl, a, 0, rfl, rfl, _, rfl, ite2 (fun e => ?_) (fun e => ?_)⟩
    · refine ⟨_, rfl, d, _, 0, _, rfl, rfl, .of hd, rfl, _, rfl, _, rfl, _, _, rfl, rfl, n0, ?_⟩
      refine ⟨_, rfl, d, _, 0, _, rfl, rfl, .of hd, rfl, _, rfl, _, _, rfl, rfl, wide_div n0 nB (by decide) (by decide), _, rfl, d, _, 0, 0, rfl, rfl, hd, rfl, ?_⟩
      refine ⟨_, rfl, q _ _ ((Chg.refl d H).upd) ⟨_, _, _, upd_same, ?_⟩ (Int.emod_nonneg _ (by omega)) (Int.emod_lt_of_pos _ n0)⟩
      have h1 : a / n ≤ a := Int.ediv_le_self _ B.a0
      have h2 : 0 ≤ a / n := Int.ediv_nonneg B.a0 (by omega)
      exact ⟨h2, less_ok B.a0 B.aB h2 h1, B.b0, B.b1, B.c0⟩
    · refine ⟨_, rfl, d, _, 2, _, rfl, rfl, .of hd, rfl, _, _, rfl, rfl, _, rfl, d, _, 2, 2, rfl, rfl, hd, rfl, ?_⟩
      have hd1 : (upd H d (.lst [.int a, .int b, .int (c + 1)])) d = some (.lst [.int a, .int b, .int (c + 1)]) := upd_same
      dsimp only
      refine asgS (fun v H' => H' = upd H d (.lst [.int a, .int b, .int (c + 1)]) ∧ ∃ x : Int, v = .int x ∧ 0 ≤ x ∧ x < 2305843009213693951) (fun Q' q' => ?_) (fun v H' hv => ?_)
      · refine ⟨_, rfl, d, _, 1, _, rfl, rfl, .of hd1, rfl, _, rfl, d, _, 2, _, rfl, rfl, .of hd1, rfl, _, _, rfl, rfl, .inl ⟨by decide, by decide⟩, _, _, rfl, rfl, _, rfl, _, _, rfl, rfl, by change (0 : Int) < _; decide, q' _ _ ⟨rfl, _, rfl, Int.emod_nonneg _ (by decide), Int.emod_lt_of_pos _ (by decide)⟩⟩
      obtain ⟨rfl, x, rfl, x0, x1⟩ := hv
      have y0 := Int.emod_nonneg (x * x) (show (2305843009213693921 : Int) ≠ 0 by decide)
      have y1 := Int.emod_lt_of_pos (x * x) (show (0 : Int) < 2305843009213693921 by decide)
      refine ⟨_, rfl, _, rfl, _, _, rfl, rfl, .inl ⟨by omega, by omega⟩, _, rfl, _, _, rfl, rfl, by change (0 : Int) < _; decide, _, rfl, _, _, rfl, rfl, .inl ⟨by omega, by omega⟩, _, rfl, d, _, 2, _, rfl, rfl, .of hd1, rfl, _, _, rfl, rfl, .inl ⟨by decide, by decide⟩, _, _, rfl, rfl, ?_⟩
      refine ⟨_, rfl, _, rfl, _, _, rfl, rfl, by change (0 : Int) < _; decide, ?_⟩
      refine ⟨_, rfl, _, _, rfl, rfl, ⟨by decide, by decide⟩, _, rfl, _, rfl, _, _, rfl, rfl, n0, ?_⟩
      refine q _ _ ((Chg.refl d H).upd) ⟨_, _, _, hd1, ?_⟩ (Int.emod_nonneg _ (by omega)) (Int.emod_lt_of_pos _ n0)
      have c1 := B.c0
      exact ⟨B.a0, B.aB, B.b0, B.b1, by omega⟩

theorem ok_oneL (Z : Zs mg) (D : Df K mg "_law_one_of" s_one_of P_one_of f fd) {fr : Addr} {fdr : FuncData} (D_roll : Cl P w K mg base "_law_roll" 1 fr fdr P_roll spRoll) : FnOk P w K mg base CX0 2 f fd P_one_of (spOneL K) := by
  refine D.F.ok sc_one_of (fun vs H Q E h => ?_) (fun cdv A outer s H vs Q E hr h => ?_)
  · obtain ⟨d, a, xs, rfl, _⟩ := h
    rfl
  · obtain ⟨d, a, xs, rfl, hD, ne, hS, h0, h1, q⟩ := h
    have nd := sc_one_of.nd
    refine ⟨_,
    (pss_one
    (ps_ret (pe_ix ix_list (pv 1) (pe_call D_roll.ok (hr.mono (by decide)) (by rfl) D_roll.g D_roll.kp D_roll.b .nil pass0 (pa_cons (pv 0) (pa_cons (pe_callB call_lenL (by rfl) Z.z_len (by decide +kernel) (pa_cons (pv 1) pa_nil)) pa_nil))) (fun _ _ => rfl)))), ?_⟩
    refine ⟨_, rfl, _, rfl, _, rfl, a, xs, rfl, hS, d, xs.length, rfl, hD, by omega, by omega, fun H' r c D' r0 r1 => ?_⟩
    have hr' : r.toNat < xs.length := by omega
    refine ⟨a, xs, r, xs[r.toNat], rfl, rfl, c.seq ne hS, ?_, q _ _ c D' (List.getElem_mem hr')⟩
    exact at_nat r0 (List.getElem?_eq_getElem hr')

def spWhole (K : PySem.W.Frag) : Sp := fun vs H Q _ => ∃ (x : V) (t : String) (b1 b2 : Bool), vs = [x] ∧ Ly.TyB K H x t ∧ kitB t "int" = some b1 ∧ (b1 = true → kitB t "bool" = some b2) ∧ Q (.bl (b1 && !b2)) H
theorem ok_whole (Z : Zs mg) (D : Df K mg "is_whole" s_is_whole P_is_whole f fd) : FnOk P w K mg base CX0 1 f fd P_is_whole (spWhole K) := by
  refine D.F.ok sc_is_whole (fun vs H Q E h => ?_) (fun cdv A outer s H vs Q E hr h => ?_)
  · obtain ⟨x, t, _, _, rfl, _⟩ := h
    rfl
  · obtain ⟨x, t, b1, b2, rfl, ht, k1, k2, q⟩ := h
    have nd := sc_is_whole.nd
    refine ⟨_,
    (pss_one
    (ps_ret (pe_and (pe_callB call_isi (by rfl) Z.z_isinstance (by decide +kernel) (pa_cons (pv 0) (pa_cons (pe_bltn (v := .ty "int") (by rfl) Z.z_int (by decide +kernel) rfl) pa_nil))) (pe_one (pe_not (pe_callB call_isi (by rfl) Z.z_isinstance (by decide +kernel) (pa_cons (pv 0) (pa_cons (pe_bltn (v := .ty "bool") (by rfl) Z.z_bool (by decide +kernel) rfl) pa_nil)))))))), ?_⟩
    refine ⟨_, rfl, x, .ty "int", _, _, b1, rfl, .ty _, ht, kit_ty k1, b1, rfl, ?_⟩
    cases b1 with
    | false => exact q
    | true => exact ⟨_, rfl, x, .ty "bool", _, _, b2, rfl, .ty _, ht, kit_ty (k2 rfl), b2, rfl, q⟩

/-- the short form of a row of ints -/
def IsShort (ns f m l : List Int) : Prop := (ns.length ≤ 5 ∧ f = ns ∧ m = [] ∧ l = []) ∨ (5 < ns.length ∧ f = ns.take 2 ∧ l = ns.drop (ns.length - 3) ∧ m.Pairwise (· < ·) ∧ (∀ k, k ∈ m ↔ k ∈ (ns.drop 2).take (ns.length - 5)) ∧ m.length ≤ 40)
theorem IsShort.one {ns f m l f' m' l' : List Int} (a : IsShort ns f m l) (b : IsShort ns f' m' l') : f = f' ∧ m = m' ∧ l = l' := by
  rcases a with ⟨h, rfl, rfl, rfl⟩ | ⟨h, rfl, rfl, p, q, _⟩
  · rcases b with ⟨h', rfl, rfl, rfl⟩ | ⟨h', _⟩
    · exact ⟨rfl, rfl, rfl⟩
    · omega
  · rcases b with ⟨h', _⟩ | ⟨h', rfl, rfl, p', q', _⟩
    · omega
    · exact ⟨rfl, asc_uniq p p' fun k => (q k).trans (q' k).symm, rfl⟩
/-- .. as it stands at t -/
def ShH (H : Hp) (t : Addr) (ns : List Int) : Prop := ∃ (a b c : Addr) (f m l : List Int), H t = some (.tup [.ref a, .ref b, .ref c]) ∧ H a = some (.tup (f.map V.int)) ∧ H b = some (.tup (m.map V.int)) ∧ H c = some (.tup (l.map V.int)) ∧ IsShort ns f m l
theorem ShH.same {H H' : Hp} {t : Addr} {ns : List Int} (s : Same H H') (h : ShH H t ns) : ShH H' t ns := by
  obtain ⟨a, b, c, f, m, l, h1, h2, h3, h4, h5⟩ := h
  exact ⟨a, b, c, f, m, l, s _ _ h1, s _ _ h2, s _ _ h3, s _ _ h4, h5⟩
def spShortF : Sp := fun vs H Q _ => ∃ (r : Addr) (ns : List Int), vs = [.ref r] ∧ H r = some (.tup (ns.map V.int)) ∧ ns.length ≤ 40 ∧ ∀ H' t, Same H H' → ShH H' t ns → Q (.ref t) H'
theorem sIx_at (n d k : Nat) (h : k ≤ n) : HT.sIx n d (some (k : Int)) = k := by
  rw [HT.sIx_nat]
  exact Nat.min_eq_left h
theorem sIx_end (n d k : Nat) (h0 : 0 < k) : HT.sIx n d (some (-(k : Int))) = n - k := by
  show (if -(k : Int) < 0 then (-(k : Int) + (n : Int)).toNat else min (-(k : Int)).toNat n) = n - k
  rw [if_pos (by omega)]
  omega
theorem ok_shortf (Z : Zs mg) (D : Df K mg "short_form" s_shortf P_shortf f fd) : FnOk P w K mg base CX0 1 f fd P_shortf spShortF := by
  refine D.F.ok sc_shortf (fun vs H Q E h => ?_) (fun cdv A outer s H vs Q E hr h => ?_)
  · obtain ⟨r, ns, rfl, _⟩ := h
    rfl
  · obtain ⟨r, ns, rfl, hr', hl, q⟩ := h
    have nd := sc_shortf.nd
    refine ⟨_,
    (pss_cons
    (ps_if (pt_cmpR op_le (pe_callB call_lenT (by rfl) Z.z_len (by decide +kernel) (pa_cons (pv 0) pa_nil)) (pe_gI rfl Z.g_REACH) (nomark _))
      (pss_one
      (ps_ret (pe_tup (pa_cons (pv 0) (pa_cons (pe_tup pa_nil) (pa_cons (pe_tup pa_nil) pa_nil))))))
      pss_nil)
    (pss_one
    (ps_ret (pe_tup (pa_cons (pe_slice sl_tup (pv 0) po_none (po_some (pe_gI rfl Z.g_MAX_FRONT))) (pa_cons (pe_callTy call_tuple_of (by rfl) Z.z_tuple (by decide +kernel) (pa_cons (pe_callB (cr_sortedSet rfl) (by rfl) Z.z_sorted (by decide +kernel) (pa_cons (pe_scX (own := [("number", 1)]) (g := gName 1) (tt := tYes) (z := zI _) (rA := rAddI _) rfl nd (pi_tup (pe_slice sl_tup (pv 0) (po_some (pe_gI rfl Z.g_MAX_FRONT)) (po_some (pe_un un_neg (pe_gI rfl Z.g_MAX_BACK))))) (blkOk_by (N := N_shortf) (sc := defScope s_shortf) (by decide +kernel)) (fun _ _ _ _ _ => setRuleI rfl) (fun _ _ _ _ _ => (pg_name (i := 1) nd rfl (Or.inl rfl))) (fun _ _ _ _ _ => pts_nil) (fun _ _ _ _ _ => (pv 1))) pa_nil)) pa_nil)) (pa_cons (pe_slice sl_tup (pv 0) (po_some (pe_un un_neg (pe_gI rfl Z.g_MAX_BACK))) po_none) pa_nil))))))), ?_⟩
    have hL : (ns.map V.int).length = ns.length := List.length_map _
    refine ⟨_, rfl, r, _, rfl, .of hr', _, _, rfl, rfl, _, rfl, ?_⟩
    rw [hL]
    by_cases h5 : (ns.length : Int) ≤ 5
    · refine ifT (decide_eq_true h5) ⟨_, rfl, by show 0 ≤ sizeLine; decide, fun p1 n1 => ⟨by show 0 ≤ sizeLine; decide, fun p2 n2 => ⟨by show 3 ≤ sizeLine; decide, fun p3 n3 => ?_⟩⟩⟩
      have s1 := same_new (o := .tup []) n1
      have s2 := same_new (o := .tup []) n2
      have s3 := same_new (o := .tup [V.ref r, .ref p1, .ref p2]) n3
      exact q _ p3 ((s1.trans s2).trans s3) ⟨r, p1, p2, ns, [], [], upd_same, s3 _ _ (s2 _ _ (s1 _ _ hr')), s3 _ _ (s2 _ _ upd_same), s3 _ _ upd_same, .inl ⟨by omega, rfl, rfl, rfl⟩⟩
    · refine ifF (decide_eq_false h5) ?_
      dsimp only [tNext]
      have h6 : 5 < ns.length := by omega
      have x2 : HT.sIx (ns.map V.int).length (ns.map V.int).length (some 2) = 2 := by rw [hL]; exact sIx_at _ _ 2 (by omega)
      have y2 : HT.sIx (ns.map V.int).length 0 (some 2) = 2 := by rw [hL]; exact sIx_at _ _ 2 (by omega)
      have x3 : HT.sIx (ns.map V.int).length (ns.map V.int).length (some (-3)) = ns.length - 3 := by rw [hL]; exact sIx_end _ _ 3 (by omega)
      have y3 : HT.sIx (ns.map V.int).length 0 (some (-3)) = ns.length - 3 := by rw [hL]; exact sIx_end _ _ 3 (by omega)
      refine ⟨_, rfl, 2, rfl, r, _, rfl, .of hr', fun z => ?_, fun p1 n1 => ?_⟩
      · rw [x2, hL] at z
        omega
      have e1 : cutV (ns.map V.int) none (some 2) = (ns.take 2).map V.int := by
        unfold cutV
        rw [x2, HT.sIx_none, List.drop_zero, Nat.sub_zero, List.map_take]
      rw [e1]
      have s1 := same_new (o := .tup ((ns.take 2).map V.int)) n1
      refine ⟨_, rfl, 2, rfl, _, rfl, _, rfl, r, _, rfl, .of (s1 _ _ hr'), fun z => ?_, fun p2 n2 => ?_⟩
      · rw [y2] at z
        omega
      have e2 : cutV (ns.map V.int) (some 2) (some (-3)) = ((ns.drop 2).take (ns.length - 5)).map V.int := by
        unfold cutV
        rw [y2, x3, List.map_take, List.map_drop]
        congr 1
      rw [e2]
      have s2 := same_new (o := .tup (((ns.drop 2).take (ns.length - 5)).map V.int)) n2
      refine ⟨p2, rfl, ⟨_, .of upd_same⟩, fun D9 nD => ?_⟩
      generalize hmid : (ns.drop 2).take (ns.length - 5) = mid at s2 nD ⊢
      have lm : mid.length ≤ 35 := by rw [← hmid, List.length_take, List.length_drop]; omega
      refine sc_ints (ns := mid) (.of upd_same) nD (by unfold scanBound; omega) (fun k H Q N kq => ?_) (fun H3 S n s3 hD hm hn => ?_)
      · exact ⟨rfl, _, rfl, kq H (Same.refl H)⟩
      refine ⟨D9, S, n, rfl, hD, by omega, fun m p3 hasc hmem hlen n3 => ?_⟩
      have s4 := same_new (o := .lst (m.map V.int)) n3
      refine ⟨p3, _, rfl, .inl ⟨.of upd_same, fun p4 n4 => ?_⟩⟩
      have s5 := same_new (o := .tup (m.map V.int)) n4
      have s15 := ((s1.trans s2).trans s3).trans (s4.trans s5)
      refine ⟨_, rfl, _, rfl, _, rfl, r, _, rfl, .of (s15 _ _ hr'), fun z => ?_, fun p5 n5 => ?_⟩
      · rw [y3] at z
        omega
      have e3 : cutV (ns.map V.int) (some (-3)) none = (ns.drop (ns.length - 3)).map V.int := by
        unfold cutV
        rw [y3, HT.sIx_none, hL, List.map_drop]
        exact List.take_of_length_le (by rw [List.length_drop, hL]; exact Nat.le_refl _)
      rw [e3]
      have s6 := same_new (o := .tup ((ns.drop (ns.length - 3)).map V.int)) n5
      refine ⟨by show 3 ≤ sizeLine; decide, fun p6 n6 => ?_⟩
      have s7 := same_new (o := .tup [V.ref p1, .ref p4, .ref p5]) n6
      refine q _ p6 ((s15.trans s6).trans s7) ⟨p1, p4, p5, _, m, _, upd_same, s7 _ _ (s6 _ _ (s5 _ _ (s4 _ _ (s3 _ _ (s2 _ _ upd_same))))), s7 _ _ (s6 _ _ upd_same), s7 _ _ upd_same, .inr ⟨h6, rfl, rfl, hasc, fun k => ?_, by omega⟩⟩
      rw [hmid, hmem k, hm k]

end
end K24
set_option Elab.async false
set_option linter.all false
set_option maxRecDepth 100000
set_option maxHeartbeats 8000000
namespace K24
open PySem PySem.Spec PyProof.Rows L2 Ly Cut

abbrev s_refused : Stmt := topS 96
abbrev N_refused : List Str := ["_law_value"]
abbrev P_refused : List Str := ["_law_value"]
theorem sc_refused : FnScope N_refused P_refused (defScope s_refused) := ⟨rfl, rfl, rfl, by decide +kernel, rfl, by decide +kernel, by decide +kernel⟩

section
variable {P : Program} {w : World} {K : PySem.W.Frag} {mg : Str → Option Value} {base : Heap} {f CW CI : Addr} {fd : FuncData}
/-- an item is an integer, or it is none -/
def Wh (K : PySem.W.Frag) (H : Hp) (x : V) (b : Bool) : Prop := ∃ (t : String) (b1 b2 : Bool), Ly.TyB K H x t ∧ kitB t "int" = some b1 ∧ (b1 = true → kitB t "bool" = some b2) ∧ (b1 && !b2) = b
theorem wh_int {H : Hp} {i : Int} : Wh K H (.int i) true := ⟨"int", true, false, .base (.int i), by decide +kernel, fun _ => by decide +kernel, rfl⟩
/-- what is no row of integers -/
def Bad (K : PySem.W.Frag) (H : Hp) (v : V) : Prop := (∃ t : String, Ly.TyB K H v t ∧ kitB t "tuple" = some false) ∨ ∃ (r : Addr) (xs : List V) (bs : List Bool), v = .ref r ∧ H r = some (.tup xs) ∧ xs.length ≤ 60 ∧ bs.length = xs.length ∧ (∀ (i : Nat) (x : V) (b : Bool), xs[i]? = some x → bs[i]? = some b → ∀ H', Same H H' → Wh K H' x b) ∧ bs.all id = false
def spShort (K : PySem.W.Frag) (CI : Addr) : Sp := fun vs H Q E => ∃ v : V, vs = [v] ∧ ((∃ (r : Addr) (ns : List Int), v = .ref r ∧ H r = some (.tup (ns.map V.int)) ∧ ns.length ≤ 40 ∧ ∀ H' t, Same H H' → ShH H' t ns → Q (.ref t) H') ∨ (Bad K H v ∧ ∀ H', Same H H' → E (.ref CI) none H'))
theorem ok_short (Z : Zs mg) (D : Dm K "short" "Walk.short" s_short P_short f fd) {f1 f2 : Addr} {d1 d2 : FuncData} (D_whole : Cl P w K mg base "is_whole" 1 f1 d1 P_is_whole (spWhole K)) (D_shortf : Cl P w K mg base "short_form" 1 f2 d2 P_shortf spShortF)
    (gI : mg "InvalidOperation" = some (.ref CI)) (xI : PySem.W.excIn K CI [.type "ValueError", .type "Exception", .type "BaseException", .type "object"] "ValueError.__new__" = true) (kI : PySem.W.keepIn K (.ref CI) = true) (bI : PySem.W.subIn K (.ref CI) (.type "BaseException") = some true) (tI : PySem.W.typeIn K (.ref CI) = some (.type "type")) :
    FnOk P w K mg base (L2.CX P w) 2 f fd P_short (spShort K CI) := by
  refine D.F.okX sc_short (fun vs H Q E h => ?_) (fun cdv A outer s H vs Q E hr h => ?_)
  · obtain ⟨v, rfl, _⟩ := h
    rfl
  · obtain ⟨v, rfl, h⟩ := h
    have nd := sc_short.nd
    refine ⟨_,
    (pss_cons
    (ps_if (PW.pt (pw_or (pt_not (pt_val (pe_callB call_isi (by rfl) Z.z_isinstance (by decide +kernel) (pa_cons (pv 0) (pa_cons (pe_bltn (v := .ty "tuple") (by rfl) Z.z_tuple (by decide +kernel) rfl) pa_nil))))) (pw_or1 (pt_not (pt_val (pe_callB (cr_all rfl) (by rfl) Z.z_all (by decide +kernel) (pa_cons (pe_lc (own := [("number", 1)]) (g := gName 1) (tt := tYes) rfl nd (pi_tup (pv 0)) (blkOk_by (N := N_short) (sc := defScope s_short) (by decide +kernel)) (fun _ _ _ _ _ => (pg_name (i := 1) nd rfl (Or.inl rfl))) (fun _ _ _ _ _ => pts_nil) (fun _ _ _ _ _ => (pe_call D_whole.ok (hr.mono (by decide)) (by rfl) D_whole.g D_whole.kp D_whole.b .nil pass0 (pa_cons (pv 1) pa_nil)))) pa_nil)))))))
      (pss_one
      (ps_raise rfl (takes_of rfl rfl rfl rfl) (pmk_own F.excBase_ValueError xI gI kI (raises_own bI tI) rfl)))
      pss_nil)
    (pss_one
    (ps_ret (pe_call D_shortf.ok (hr.mono (by decide)) (by rfl) D_shortf.g D_shortf.kp D_shortf.b .nil pass0 (pa_cons (pv 0) pa_nil))))), ?_⟩
    have tup : ∀ (r : Addr) (xs : List V) (bs : List Bool), H r = some (.tup xs) → xs.length ≤ 60 → bs.length = xs.length → (∀ (i : Nat) (x : V) (b : Bool), xs[i]? = some x → bs[i]? = some b → ∀ H', Same H H' → Wh K H' x b) → ∀ Q' : Bool → Hp → Prop, (∀ H', Same H H' → Q' (!bs.all id) H') →
        tNot (tB (tCB (rAll (cxOf (L2.CX P w) P w K mg base N_short "Walk.short" (defScope s_short) f cdv A outer s H E).K) (tCons (tLc (iTup (cxOf (L2.CX P w) P w K mg base N_short "Walk.short" (defScope s_short) f cdv A outer s H E).K (tVar 0)) (gName 1) tYes (tCall (spWhole K) [] E0 (tCons (tVar 1) tNil)) ([((Str.ofString "number"), 1)].map (fun x => x.2))) tNil))) (L2.start N_short [V.ref r]) H Q' := fun r xs bs hr' hl hb hw Q' q' => by
      refine ⟨_, rfl, r, rfl, ⟨_, .of hr'⟩, fun D9 nD => ?_⟩
      refine lc_tup (xs := xs) (fun i H2 => Same H H2 ∧ H2 D9 = some (.lst ((bs.take i).map V.bl))) ⟨same_new nD, upd_same⟩ (fun i H2 _ hP => .of (hP.1 _ _ hr')) (fun i x H2 hx hP => ?_) (fun H2 hP => ?_)
      · obtain ⟨s2, hd⟩ := hP
        have hi := (List.getElem?_eq_some_iff.mp hx).1
        have hbi : bs[i]? = some bs[i] := List.getElem?_eq_getElem (by omega)
        obtain ⟨t, b1, b2, ht, k1, k2, e⟩ := hw i x _ hx hbi H2 s2
        refine ⟨rfl, _, rfl, x, t, b1, b2, rfl, ht, k1, k2, _, hd, ?_, same_set s2 nD, ?_⟩
        · rw [List.length_map, List.length_take]
          exact small1000 (by omega)
        · rw [upd_same, e, List.take_add_one, hbi, List.map_append]
          rfl
      · obtain ⟨s2, hd⟩ := hP
        rw [← hb, List.take_length] at hd
        exact ⟨D9, bs, rfl, .of hd, _, rfl, q' H2 s2⟩
    rcases h with ⟨r, ns, rfl, hr', hl, q⟩ | ⟨hb, q⟩
    · refine ⟨_, rfl, .ref r, .ty "tuple", _, _, true, rfl, .ty _, .base (.tup hr'), kit_ty (by decide +kernel), true, rfl, ifF rfl ?_⟩
      refine tup r _ (List.replicate (ns.map V.int).length true) hr' (by rw [List.length_map]; omega) List.length_replicate (fun i x b hx hbi H' _ => ?_) _ fun H' s1 => ifF ?_ ?_
      · obtain ⟨k, _, rfl⟩ : ∃ k, ns[i]? = some k ∧ x = .int k := by
          rw [List.getElem?_map] at hx
          cases e : ns[i]? with
          | none => rw [e] at hx; cases hx
          | some k => rw [e] at hx; exact ⟨k, rfl, (Option.some.inj hx).symm⟩
        rw [List.eq_of_mem_replicate (List.mem_of_getElem? hbi)]
        exact wh_int
      · rw [List.all_eq_true.mpr fun x hx => by rw [List.eq_of_mem_replicate hx]; rfl]
        rfl
      · exact ⟨_, rfl, r, ns, rfl, s1 _ _ hr', hl, fun H2 t s2 ht => q H2 t (s1.trans s2) ht⟩
    · rcases hb with ⟨t, ht, kt⟩ | ⟨r, xs, bs, rfl, hr', hl, hb, hw, hf⟩
      · exact ⟨_, rfl, v, .ty "tuple", _, _, false, rfl, .ty _, ht, kit_ty kt, false, rfl, ifT rfl (ifT rfl (q H (Same.refl H)))⟩
      · refine ⟨_, rfl, .ref r, .ty "tuple", _, _, true, rfl, .ty _, .base (.tup hr'), kit_ty (by decide +kernel), true, rfl, ifF rfl ?_⟩
        exact tup r xs bs hr' hl hb hw _ fun H' s1 => ifT (by rw [hf]; rfl) (q H' s1)

def spLShort : Sp := fun vs H Q _ => ∃ (r : Addr) (ns : List Int), vs = [.ref r] ∧ H r = some (.tup (ns.map V.int)) ∧ ns.length ≤ 40 ∧ ∀ H' t, Same H H' → ShH H' t ns → Q (.ref t) H'
theorem ok_lshort (Z : Zs mg) (D : Df K mg "_law_short" s_lshort P_lshort f fd) : FnOk P w K mg base CX0 1 f fd P_lshort spLShort := by
  refine D.F.ok sc_lshort (fun vs H Q E h => ?_) (fun cdv A outer s H vs Q E hr h => ?_)
  · obtain ⟨r, ns, rfl, _⟩ := h
    rfl
  · obtain ⟨r, ns, rfl, hr', hl, q⟩ := h
    have nd := sc_lshort.nd
    refine ⟨_,
    (pss_cons
    (ps_set (i := 0) nd rfl (Or.inl rfl) (pe_callTy call_tuple_of (by rfl) Z.z_tuple (by decide +kernel) (pa_cons (pv 0) pa_nil)))
    (pss_cons
    (ps_if (pt_cmpR op_lt (pe_callB call_lenT (by rfl) Z.z_len (by decide +kernel) (pa_cons (pv 0) pa_nil)) pe_int (nomark _))
      (pss_one
      (ps_ret (pe_tup (pa_cons (pv 0) (pa_cons (pe_tup pa_nil) (pa_cons (pe_tup pa_nil) pa_nil))))))
      pss_nil)
    (pss_one
    (ps_ret (pe_tup (pa_cons (pe_slice sl_tup (pv 0) po_none (po_some pe_int)) (pa_cons (pe_callTy call_tuple_of (by rfl) Z.z_tuple (by decide +kernel) (pa_cons (pe_callB (cr_sortedSet rfl) (by rfl) Z.z_sorted (by decide +kernel) (pa_cons (pe_callTy (call_setT rfl) (by rfl) Z.z_set (by decide +kernel) (pa_cons (pe_slice sl_tup (pv 0) (po_some pe_int) (po_some (pe_op op_sub (pe_callB call_lenT (by rfl) Z.z_len (by decide +kernel) (pa_cons (pv 0) pa_nil)) pe_int))) pa_nil)) pa_nil)) pa_nil)) (pa_cons (pe_slice sl_tup (pv 0) (po_some (pe_op op_sub (pe_callB call_lenT (by rfl) Z.z_len (by decide +kernel) (pa_cons (pv 0) pa_nil)) pe_int)) po_none) pa_nil)))))))), ?_⟩
    refine ⟨_, rfl, r, _, rfl, .inr ⟨.of hr', ?_⟩⟩
    have hL : (ns.map V.int).length = ns.length := List.length_map _
    refine ⟨_, rfl, r, _, rfl, .of hr', _, _, rfl, rfl, _, rfl, ?_⟩
    rw [hL]
    by_cases h5 : (ns.length : Int) < 6
    · refine ifT (decide_eq_true h5) ⟨_, rfl, by show 0 ≤ sizeLine; decide, fun p1 n1 => ⟨by show 0 ≤ sizeLine; decide, fun p2 n2 => ⟨by show 3 ≤ sizeLine; decide, fun p3 n3 => ?_⟩⟩⟩
      have s1 := same_new (o := .tup []) n1
      have s2 := same_new (o := .tup []) n2
      have s3 := same_new (o := .tup [V.ref r, .ref p1, .ref p2]) n3
      exact q _ p3 ((s1.trans s2).trans s3) ⟨r, p1, p2, ns, [], [], upd_same, s3 _ _ (s2 _ _ (s1 _ _ hr')), s3 _ _ (s2 _ _ upd_same), s3 _ _ upd_same, .inl ⟨by omega, rfl, rfl, rfl⟩⟩
    · refine ifF (decide_eq_false h5) ?_
      dsimp only [tNext]
      have h6 : 5 < ns.length := by omega
      have x2 : HT.sIx (ns.map V.int).length (ns.map V.int).length (some 2) = 2 := by rw [hL]; exact sIx_at _ _ 2 (by omega)
      have y2 : HT.sIx (ns.map V.int).length 0 (some 2) = 2 := by rw [hL]; exact sIx_at _ _ 2 (by omega)
      have e0 : (ns.length : Int) - 3 = ((ns.length - 3 : Nat) : Int) := by omega
      have x3 : HT.sIx (ns.map V.int).length (ns.map V.int).length (some ((ns.length - 3 : Nat) : Int)) = ns.length - 3 := by rw [hL]; exact sIx_at _ _ _ (by omega)
      have y3 : HT.sIx (ns.map V.int).length 0 (some ((ns.length - 3 : Nat) : Int)) = ns.length - 3 := by rw [hL]; exact sIx_at _ _ _ (by omega)
      refine ⟨_, rfl, 2, rfl, r, _, rfl, .of hr', fun z => ?_, fun p1 n1 => ?_⟩
      · rw [x2, hL] at z
        omega
      have e1 : cutV (ns.map V.int) none (some 2) = (ns.take 2).map V.int := by
        unfold cutV
        rw [x2, HT.sIx_none, List.drop_zero, Nat.sub_zero, List.map_take]
      rw [e1]
      have s1 := same_new (o := .tup ((ns.take 2).map V.int)) n1
      refine ⟨_, rfl, 2, rfl, _, rfl, r, _, rfl, .of (s1 _ _ hr'), _, _, rfl, rfl, _, rfl, r, _, rfl, .of (s1 _ _ hr'), ?_⟩
      rw [hL, e0]
      refine ⟨fun z => ?_, fun p2 n2 => ?_⟩
      · rw [show HT.sIx ns.length 0 (some 2) = 2 from sIx_at _ _ 2 (by omega)] at z
        omega
      have e2 : cutV (ns.map V.int) (some 2) (some ((ns.length - 3 : Nat) : Int)) = ((ns.drop 2).take (ns.length - 5)).map V.int := by
        unfold cutV
        rw [y2, x3, List.map_take, List.map_drop]
        congr 1
      rw [e2]
      have s2 := same_new (o := .tup (((ns.drop 2).take (ns.length - 5)).map V.int)) n2
      generalize hmid : (ns.drop 2).take (ns.length - 5) = mid at s2 ⊢
      have lm : mid.length ≤ 35 := by rw [← hmid, List.length_take, List.length_drop]; omega
      refine ⟨p2, mid, rfl, .of upd_same, by unfold scanBound; omega, fun l S n nl hm hn => ?_⟩
      have s3 := same_new (o := SetO w l S n) nl
      refine ⟨l, S, n, rfl, upd_same, by omega, fun m p3 hasc hmem hlen n3 => ?_⟩
      have s4 := same_new (o := .lst (m.map V.int)) n3
      refine ⟨p3, _, rfl, .inl ⟨.of upd_same, fun p4 n4 => ?_⟩⟩
      have s5 := same_new (o := .tup (m.map V.int)) n4
      have s15 := ((s1.trans s2).trans s3).trans (s4.trans s5)
      refine ⟨_, rfl, _, rfl, r, _, rfl, .of (s15 _ _ hr'), _, _, rfl, rfl, _, rfl, r, _, rfl, .of (s15 _ _ hr'), ?_⟩
      rw [hL, e0]
      refine ⟨fun z => ?_, fun p5 n5 => ?_⟩
      · rw [show HT.sIx ns.length 0 (some ((ns.length - 3 : Nat) : Int)) = ns.length - 3 from sIx_at _ _ _ (by omega)] at z
        omega
      have e3 : cutV (ns.map V.int) (some ((ns.length - 3 : Nat) : Int)) none = (ns.drop (ns.length - 3)).map V.int := by
        unfold cutV
        rw [y3, HT.sIx_none, hL, List.map_drop]
        exact List.take_of_length_le (by rw [List.length_drop, hL]; exact Nat.le_refl _)
      rw [e3]
      have s6 := same_new (o := .tup ((ns.drop (ns.length - 3)).map V.int)) n5
      refine ⟨by show 3 ≤ sizeLine; decide, fun p6 n6 => ?_⟩
      have s7 := same_new (o := .tup [V.ref p1, .ref p4, .ref p5]) n6
      refine q _ p6 ((s15.trans s6).trans s7) ⟨p1, p4, p5, _, m, _, upd_same, s7 _ _ (s6 _ _ (s5 _ _ (s4 _ _ (s3 _ _ (s2 _ _ upd_same))))), s7 _ _ (s6 _ _ upd_same), s7 _ _ upd_same, .inr ⟨h6, rfl, rfl, hasc, fun k => ?_, by omega⟩⟩
      rw [hmid, hmem k, hm k]

def spRefused (K : PySem.W.Frag) : Sp := fun vs H Q _ => ∃ v : V, vs = [v] ∧ Bad K H v ∧ ∀ H', Same H H' → Q (.bl true) H'
theorem ok_refused (Z : Zs mg) (D : Df K mg "_law_is_refused" s_refused P_refused f fd) {f1 p1 : Addr} (gW : mg "Walk" = some (.ref CW)) (sW : SMet K CW "short" p1 f1) (F_short : FnR P w K mg base (L2.CX P w) 2 f1 (spShort K CI)) (gI : mg "InvalidOperation" = some (.ref CI)) (eI : PySem.W.exmOne K (.ref CI) (.ref CI) = some true) :
    FnOk P w K mg base CX0 3 f fd P_refused (spRefused K) := by
  refine D.F.ok sc_refused (fun vs H Q E h => ?_) (fun cdv A outer s H vs Q E hr h => ?_)
  · obtain ⟨v, rfl, _⟩ := h
    rfl
  · obtain ⟨v, rfl, hb, q⟩ := h
    have nd := sc_refused.nd
    refine ⟨_, (pss_cons (ps_try_only (tb := fun W => tDrop (tSMeth CW (spShort K CI) (WE W) (tC (.ref CW)) (tCons (tVar 0) tNil))) (ts := fun a cls d => tRet (tC (.bl true))) (Wout := fun _ _ _ _ => False) rfl rfl ⟨rfl, by decide, Or.inl gI⟩ takes0
      (fun W pn xe tk _ => pss_one (ps_expr (pe_smeth (E := WE W) (pe_glob (v := .ref CW) rfl gW rfl) sW F_short (hr.mono (by decide)) (fun σ => passAt tk σ) (pa_cons (pv 0) pa_nil))))
      (fun a oe cls d pn _ _ => pss_one (ps_ret pe_bl))) (pss_one (ps_ret pe_bl))), ?_⟩
    refine ⟨rfl, _, rfl, v, rfl, .inr ⟨hb, fun H1 s1 => ⟨true, eI, fun _ a _ => q H1 s1, fun z => Bool.noConfusion z⟩⟩⟩

end
end K24
set_option Elab.async false
set_option linter.all false
set_option maxRecDepth 100000
set_option maxHeartbeats 8000000
namespace K24
open PySem PySem.Spec PyProof.Rows L2 Ly Cut

abbrev s_right : Stmt := topS 97
abbrev N_right : List Str := ["_law_dice_here", "_law_menu", "_law_row", "_law_at", "_law_odd", "_law_value"]
abbrev P_right : List Str := ["_law_dice_here"]
theorem sc_right : FnScope N_right P_right (defScope s_right) := ⟨rfl, rfl, rfl, by decide +kernel, rfl, by decide +kernel, by decide +kernel⟩

section
variable {P : Program} {w : World} {K : PySem.W.Frag} {mg : Str → Option Value} {base : Heap} {f CW CI : Addr} {fd : FuncData}
theorem passNA {X : Cx} {σ : L2.St} : PassesAt (L2.CX X.prog X.w) X σ E0 := fun _ _ _ _ _ _ ⟨_, _, _, _, _, _, _, _, _, _, _, _, h⟩ => False.elim h
theorem cutOp {r : R2} {ta tb : TE} {σ : L2.St} {H : Hp} {Q : VK} (P : V → Hp → Prop) (h : ∀ Q' : VK, (∀ v H', P v H' → Q' v H') → ta σ H Q') (k : ∀ v H', P v H' → tb σ H' fun y H2 => r v y H2 Q) : tOp r ta tb σ H Q := h _ k
theorem bad_ins {H : Hp} {r : Addr} {v : V} {a b : List Int} (hr : H r = some (.tup (a.map V.int ++ [v] ++ b.map V.int))) (hl : a.length + b.length ≤ 40) (hv : ∀ H', Same H H' → Wh K H' v false) : Bad K H (.ref r) := by
  refine .inr ⟨r, _, List.replicate a.length true ++ [false] ++ List.replicate b.length true, rfl, hr, by simp; omega, by simp, fun i x c hx hc H' s => ?_, by simp⟩
  have l1 : (a.map V.int).length = a.length := List.length_map _
  have l2 : (List.replicate a.length true).length = a.length := List.length_replicate
  rw [List.append_assoc] at hx hc
  rcases Nat.lt_trichotomy i a.length with h | h | h
  · rw [List.getElem?_append_left (by omega), List.getElem?_map, List.getElem?_eq_getElem h] at hx
    rw [List.getElem?_append_left (by omega)] at hc
    cases hx
    rw [List.eq_of_mem_replicate (List.mem_of_getElem? hc)]
    exact wh_int
  · rw [List.getElem?_append_right (by omega), l1, h, Nat.sub_self] at hx
    rw [List.getElem?_append_right (by omega), l2, h, Nat.sub_self] at hc
    cases hx
    cases hc
    exact hv H' s
  · rw [List.getElem?_append_right (by omega), l1, List.getElem?_append_right (by show 1 ≤ _; omega), List.getElem?_map] at hx
    rw [List.getElem?_append_right (by omega), l2, List.getElem?_append_right (by show 1 ≤ _; omega)] at hc
    rw [List.eq_of_mem_replicate (List.mem_of_getElem? hc)]
    cases e : b[i - a.length - [v].length]? with
    | none => rw [e] at hx; cases hx
    | some k =>
      rw [e] at hx
      cases hx
      exact wh_int
/-- the data of a short form -/
def dZ (l : List Int) : PyData := .tuple (l.map PyData.int)
def dSh (f m l : List Int) : PyData := .tuple [dZ f, dZ m, dZ l]
theorem log_b {i : Int} (h : i.natAbs < 2 ^ 100) : i.natAbs.log2 < 1920 := log_small (Nat.lt_of_lt_of_le h (by decide +kernel))
theorem rpAll_Z {H : Hp} : ∀ l : List Int, (∀ i ∈ l, i.natAbs < 2 ^ 100) → RpAll H (l.map PyData.int) (l.map V.int)
  | [], _ => rfl
  | i :: l, h => ⟨.int i, l.map V.int, rfl, ⟨rfl, log_b (h i List.mem_cons_self)⟩, rpAll_Z l fun j hj => h j (List.mem_cons_of_mem _ hj)⟩
theorem bulk_Z : ∀ l : List Int, PyData.bulkAll (l.map PyData.int) = l.length
  | [] => rfl
  | i :: l => by
    show 0 + 1 + PyData.bulkAll (l.map PyData.int) = l.length + 1
    rw [bulk_Z l]
    omega
theorem depth_Z : ∀ l : List Int, PyData.depthAll (l.map PyData.int) = 0
  | [] => rfl
  | i :: l => by
    show max 0 (PyData.depthAll (l.map PyData.int)) = 0
    rw [depth_Z l]
    rfl
theorem bulk_Sh (f m l : List Int) : (dSh f m l).bulk = f.length + m.length + l.length + 3 := by
  show PyData.bulkAll (f.map PyData.int) + 1 + (PyData.bulkAll (m.map PyData.int) + 1 + (PyData.bulkAll (l.map PyData.int) + 1 + 0)) = _
  rw [bulk_Z, bulk_Z, bulk_Z]
  omega
theorem depth_Sh (f m l : List Int) : (dSh f m l).depth ≤ 60 := by
  show max (PyData.depthAll (f.map PyData.int) + 1) (max (PyData.depthAll (m.map PyData.int) + 1) (max (PyData.depthAll (l.map PyData.int) + 1) 0)) + 1 ≤ 60
  rw [depth_Z, depth_Z, depth_Z]
  decide
theorem IsShort.sub {ns f m l : List Int} (h : IsShort ns f m l) (hl : ns.length ≤ 40) : (∀ k ∈ f, k ∈ ns) ∧ (∀ k ∈ m, k ∈ ns) ∧ (∀ k ∈ l, k ∈ ns) ∧ f.length ≤ 40 ∧ m.length ≤ 40 ∧ l.length ≤ 40 := by
  rcases h with ⟨h, rfl, rfl, rfl⟩ | ⟨h, rfl, rfl, p, q, r⟩
  · exact ⟨fun k h => h, fun k h => absurd h List.not_mem_nil, fun k h => absurd h List.not_mem_nil, hl, by show 0 ≤ 40; decide, by show 0 ≤ 40; decide⟩
  · refine ⟨fun k h => List.mem_of_mem_take h, fun k h => List.mem_of_mem_drop (List.mem_of_mem_take ((q k).mp h)), fun k h => List.mem_of_mem_drop h, ?_, r, ?_⟩
    · rw [List.length_take]
      omega
    · rw [List.length_drop]
      omega
theorem rp_Sh {H : Hp} {t : Addr} {ns : List Int} (h : ShH H t ns) (hl : ns.length ≤ 40) (hb : ∀ k ∈ ns, k.natAbs < 2 ^ 100) : ∃ f m l, IsShort ns f m l ∧ Rp H (dSh f m l) (.ref t) ∧ (dSh f m l).bulk ≤ 8000 := by
  obtain ⟨a, b, c, f, m, l, h1, h2, h3, h4, h5⟩ := h
  obtain ⟨k1, k2, k3, k4, k5, k6⟩ := h5.sub hl
  refine ⟨f, m, l, h5, ⟨t, _, rfl, h1, .ref a, _, rfl, ⟨a, _, rfl, h2, rpAll_Z f fun k hk => hb k (k1 k hk)⟩, .ref b, _, rfl, ⟨b, _, rfl, h3, rpAll_Z m fun k hk => hb k (k2 k hk)⟩, .ref c, _, rfl, ⟨c, _, rfl, h4, rpAll_Z l fun k hk => hb k (k3 k hk)⟩, rfl⟩, ?_⟩
  rw [bulk_Sh]
  omega
def spRight : Sp := fun vs H Q _ => ∃ d : Addr, vs = [.ref d] ∧ Dice H d ∧ ∀ H', Chg d H H' → Q (.bl true) H'
theorem ok_right (Z : Zs mg) (D : Df K mg "_law_right" s_right P_right f fd) {f1 f2 f3 f4 f5 p5 : Addr} {d1 d2 d3 d4 : FuncData} (D_roll : Cl P w K mg base "_law_roll" 1 f1 d1 P_roll spRoll) (D_oneL : Cl P w K mg base "_law_one_of" 2 f2 d2 P_one_of (spOneL K)) (D_lshort : Cl P w K mg base "_law_short" 1 f3 d3 P_lshort spLShort)
    (D_refused : Cl P w K mg base "_law_is_refused" 3 f4 d4 P_refused (spRefused K)) (gW : mg "Walk" = some (.ref CW)) (sW : SMet K CW "short" p5 f5) (F_short : FnR P w K mg base (L2.CX P w) 2 f5 (spShort K CI)) : FnG P w K mg base CX0 4 f spRight := by
  refine fnG_of D.F sc_right D.b (fun vs H Q E h => ?_) (fun cdv A outer s H vs Q E hr hq h => ?_)
  · obtain ⟨d, rfl, _⟩ := h
    rfl
  · obtain ⟨d, rfl, hD, q⟩ := h
    have nd := sc_right.nd
    have hu : (A.deeper (envOfC "_law_right" (defScope s_right) s.heap.objs.size f cdv)).units + 64 < cLine := by
      have := hr.un
      omega
    refine ⟨_,
    (pss_cons
    (ps_set (i := 1) nd rfl (Or.inr rfl) (pe_call D_oneL.ok (hr.mono (by decide)) (by rfl) D_oneL.g D_oneL.kp D_oneL.b .nil pass0 (pa_cons (pv 0) (pa_cons (pe_lst (pa_cons (pe_lst (pa_cons pe_int (pa_cons pe_int pa_nil))) (pa_cons (pe_lst (pa_cons pe_int (pa_cons pe_int (pa_cons pe_int pa_nil)))) (pa_cons (pe_lst (pa_cons pe_int (pa_cons pe_int (pa_cons pe_int (pa_cons pe_int pa_nil))))) (pa_cons (pe_lst (pa_cons pe_int (pa_cons pe_int (pa_cons (pe_op op_sub pe_int pe_int) (pa_cons pe_int pa_nil))))) (pa_cons (pe_lst (pa_cons (pe_call D_roll.ok (hr.mono (by decide)) (by rfl) D_roll.g D_roll.kp D_roll.b .nil pass0 (pa_cons (pv 0) (pa_cons (pe_op op_powW pe_int pe_int) pa_nil))) (pa_cons pe_int pa_nil))) pa_nil)))))) pa_nil))))
    (pss_cons
    (ps_set (i := 2) nd rfl (Or.inl rfl) (pe_callTy call_tuple_of (by rfl) Z.z_tuple (by decide +kernel) (pa_cons (pe_lc (own := [("_law_at", 3)]) (g := gName 3) (tt := tYes) rfl nd (pi_range1 (by rfl) Z.z_range (pa_cons (pe_call D_roll.ok (hr.mono (by decide)) (by rfl) D_roll.g D_roll.kp D_roll.b .nil pass0 (pa_cons (pv 0) (pa_cons pe_int pa_nil))) pa_nil)) (blkOk_by (N := N_right) (sc := defScope s_right) (by decide +kernel)) (fun _ _ _ _ _ => (pg_name (i := 3) nd rfl (Or.inl rfl))) (fun _ _ _ _ _ => pts_nil) (fun _ _ _ _ _ => (pe_call D_oneL.ok (hr.mono (by decide)) (by rfl) D_oneL.g D_oneL.kp D_oneL.b .nil pass0 (pa_cons (pv 0) (pa_cons (pv 1) pa_nil))))) pa_nil)))
    (pss_cons
    (ps_if (pt_cmpR op_ne (pe_callB (call_repr hq hu) (by rfl) Z.z_repr (by decide +kernel) (pa_cons (pe_smeth (E := fun _ => E0) (pe_glob (v := .ref CW) rfl gW rfl) sW F_short (hr.mono (by decide)) (fun _ => passNA) (pa_cons (pv 2) pa_nil)) pa_nil)) (pe_callB (call_repr hq hu) (by rfl) Z.z_repr (by decide +kernel) (pa_cons (pe_call D_lshort.ok (hr.mono (by decide)) (by rfl) D_lshort.g D_lshort.kp D_lshort.b .nil pass0 (pa_cons (pv 2) pa_nil)) pa_nil)) (nomark _))
      (pss_one
      (ps_ret pe_bl))
      pss_nil)
    (pss_cons
    (ps_set (i := 3) nd rfl (Or.inl rfl) (pe_call D_roll.ok (hr.mono (by decide)) (by rfl) D_roll.g D_roll.kp D_roll.b .nil pass0 (pa_cons (pv 0) (pa_cons (pe_op op_add (pe_callB call_lenT (by rfl) Z.z_len (by decide +kernel) (pa_cons (pv 2) pa_nil)) pe_int) pa_nil))))
    (pss_cons
    (ps_set (i := 4) nd rfl (Or.inl rfl) (pe_lst (pa_cons pe_non (pa_cons (pe_callTy call_list_of (by rfl) Z.z_list (by decide +kernel) (pa_cons (pv 2) pa_nil)) (pa_cons pe_dnewK (pa_cons pe_str (pa_cons pe_int (pa_cons pe_bl pa_nil))))))))
    (pss_cons
    (ps_for PassesOwn.never rfl (pi_list (pe_lst (pa_cons pe_non (pa_cons pe_bl (pa_cons pe_bl (pa_cons pe_str (pa_cons (pe_tup (pa_cons pe_int pa_nil)) (pa_cons (pe_lst (pa_cons pe_int pa_nil)) (pa_cons (pe_tup pa_nil) (pa_cons pe_dnewK pa_nil)))))))))) (pg_name (i := 5) nd rfl (Or.inl rfl))
      (pss_one
      (ps_expr (pe_bm PySem.F.plainAttrs_list PySem.F.slot_list_append PySem.F.type_list_append mt_append (pv 4) (pa_cons (pe_op op_catA (pe_op op_catA (pe_slice sl_tupA (pv 2) po_none (po_some (pv 3))) (pe_tup (pa_cons (pv 5) pa_nil))) (pe_slice sl_tupA (pv 2) (po_some (pv 3)) po_none)) pa_nil)))))
    (pss_one
    (ps_ret (pe_cmpR (op_eqD hu) (pe_lc (own := [("_law_value", 5)]) (g := gName 5) rfl nd (pi_list (pv 4)) (blkOk_by (N := N_right) (sc := defScope s_right) (by decide +kernel)) (fun _ _ _ _ _ => (pg_name (i := 5) nd rfl (Or.inl rfl))) (fun _ _ _ _ _ => (pts_one (pt_not (pt_val (pe_call D_refused.ok (hr.mono (by decide)) (by rfl) D_refused.g D_refused.kp D_refused.b .nil pass0 (pa_cons (pv 5) pa_nil)))))) (fun _ _ _ _ _ => (pv 5))) (pe_lst pa_nil) (nomark _)))))))))), ?_⟩
    -- menu
    refine asgS (fun v H1 => ∃ (m : Addr) (ks : List Int), v = .ref m ∧ m ≠ d ∧ Chg d H H1 ∧ Dice H1 d ∧ H1 m = some (.lst (ks.map V.int)) ∧ 0 < ks.length ∧ ks.length < 10 ∧ ∀ k ∈ ks, k.natAbs < 2 ^ 100) (fun Q' q' => ?_) (fun v H1 hv => ?_)
    · refine ⟨_, rfl, by show 2 ≤ sizeLine; decide, fun m1 n1 => ⟨by show 3 ≤ sizeLine; decide, fun m2 n2 => ⟨by show 4 ≤ sizeLine; decide, fun m3 n3 => ⟨_, _, rfl, rfl, by show 4 ≤ sizeLine; decide, fun m4 n4 => ?_⟩⟩⟩⟩
      have s1 := same_new (o := .lst [V.int 0, .int 1]) n1
      have s2 := same_new (o := .lst [V.int 0, .int 1, .int 2]) n2
      have s3 := same_new (o := .lst [V.int 0, .int 0, .int 0, .int 1]) n3
      have s4 := same_new (o := .lst [V.int 7, .int 3, .int (0 - 5), .int 0]) n4
      have g1 := s4 _ _ (s3 _ _ (s2 _ _ (upd_same (H := H) (a := m1) (o := .lst [V.int 0, .int 1]))))
      have g2 := s4 _ _ (s3 _ _ (upd_same (H := upd H m1 (.lst [V.int 0, .int 1])) (a := m2) (o := .lst [V.int 0, .int 1, .int 2])))
      have g3 := s4 _ _ (upd_same (H := upd (upd H m1 (.lst [V.int 0, .int 1])) m2 (.lst [V.int 0, .int 1, .int 2])) (a := m3) (o := .lst [V.int 0, .int 0, .int 0, .int 1]))
      have g4 := upd_same (H := upd (upd (upd H m1 (.lst [V.int 0, .int 1])) m2 (.lst [V.int 0, .int 1, .int 2])) m3 (.lst [V.int 0, .int 0, .int 0, .int 1])) (a := m4) (o := .lst [V.int 7, .int 3, .int (0 - 5), .int 0])
      have s14 := ((s1.trans s2).trans s3).trans s4
      have D4 := hD.keep s14
      have e1 : m1 ≠ d := (dice_ne hD n1).symm
      have e2 : m2 ≠ d := (dice_ne (hD.keep s1) n2).symm
      have e3 : m3 ≠ d := (dice_ne (hD.keep (s1.trans s2)) n3).symm
      have e4 : m4 ≠ d := (dice_ne (hD.keep ((s1.trans s2).trans s3)) n4).symm
      dsimp only
      generalize upd (upd (upd (upd H m1 (.lst [V.int 0, .int 1])) m2 (.lst [V.int 0, .int 1, .int 2])) m3 (.lst [V.int 0, .int 0, .int 0, .int 1])) m4 (.lst [V.int 7, .int 3, .int (0 - 5), .int 0]) = H4 at g1 g2 g3 g4 s14 D4 ⊢
      refine ⟨_, rfl, _, _, rfl, rfl, ⟨by decide, by decide +kernel⟩, d, _, rfl, D4, by decide +kernel, by decide +kernel, fun H5 r c5 D5 r0 r1 => ⟨by show 2 ≤ sizeLine; decide, fun m5 n5 => ⟨by show 5 ≤ sizeLine; decide, fun M nM => ?_⟩⟩⟩
      have s6 := same_new (o := .lst [V.int r, .int 0]) n5
      have s7 := same_new (o := .lst [V.ref m1, .ref m2, .ref m3, .ref m4, .ref m5]) nM
      have s67 := s6.trans s7
      have e5 : m5 ≠ d := (dice_ne D5 n5).symm
      have eM : M ≠ d := (dice_ne (D5.keep s6) nM).symm
      have k5 := s7 _ _ (upd_same (H := H5) (a := m5) (o := .lst [V.int r, .int 0]))
      have kM := upd_same (H := upd H5 m5 (.lst [V.int r, .int 0])) (a := M) (o := .lst [V.ref m1, .ref m2, .ref m3, .ref m4, .ref m5])
      have k1 := s67 _ _ (c5 _ _ e1 g1)
      have k2 := s67 _ _ (c5 _ _ e2 g2)
      have k3 := s67 _ _ (c5 _ _ e3 g3)
      have k4 := s67 _ _ (c5 _ _ e4 g4)
      have c7 := ((Chg.of s14).trans c5).trans (.of s67)
      have D7 := D5.keep s67
      refine ⟨d, M, _, rfl, D7, eM, .of kM, by show 0 < 5; decide, by show 5 < 1000; decide, fun H8 x c8 D8 mem => ?_⟩
      have c08 := c7.trans c8
      have h100 : (10 : Int) ^ (12 : Int).toNat < 2 ^ 100 := by decide +kernel
      have h100' : (2 : Int) ^ 100 = ((2 ^ 100 : Nat) : Int) := by decide +kernel
      have rb : r.natAbs < 2 ^ 100 := by
        rw [h100'] at h100
        generalize (2 ^ 100 : Nat) = B at *
        omega
      have small : ∀ k ∈ [(0 : Int), 1, 2, 3, 7, 0 - 5], k.natAbs < 2 ^ 100 := by decide +kernel
      simp only [List.mem_cons, List.not_mem_nil, or_false] at mem
      rcases mem with e | e | e | e | e <;> subst e
      · exact q' _ _ ⟨m1, [0, 1], rfl, e1, c08, D8, c8 _ _ e1 k1, by decide, by decide, fun k hk => small k (by revert k; decide +kernel)⟩
      · exact q' _ _ ⟨m2, [0, 1, 2], rfl, e2, c08, D8, c8 _ _ e2 k2, by decide, by decide, fun k hk => small k (by revert k; decide +kernel)⟩
      · exact q' _ _ ⟨m3, [0, 0, 0, 1], rfl, e3, c08, D8, c8 _ _ e3 k3, by decide, by decide, fun k hk => small k (by revert k; decide +kernel)⟩
      · exact q' _ _ ⟨m4, [7, 3, 0 - 5, 0], rfl, e4, c08, D8, c8 _ _ e4 k4, by decide, by decide, fun k hk => small k (by revert k; decide +kernel)⟩
      · refine q' _ _ ⟨m5, [r, 0], rfl, e5, c08, D8, c8 _ _ e5 k5, by show 0 < 2; decide, by show 2 < 10; decide, fun k hk => ?_⟩
        simp only [List.mem_cons, List.not_mem_nil, or_false] at hk
        rcases hk with e | e <;> subst e
        · exact rb
        · exact small 0 (by decide)
    obtain ⟨m, ks, rfl, emd, c1, D1, hm, hk0, hk9, hkb⟩ := hv
    -- row
    refine asgS (fun v H2 => ∃ (R : Addr) (ns : List Int), v = .ref R ∧ R ≠ d ∧ Chg d H H2 ∧ Dice H2 d ∧ H2 R = some (.tup (ns.map V.int)) ∧ ns.length ≤ 14 ∧ ∀ k ∈ ns, k.natAbs < 2 ^ 100) (fun Q' q' => ?_) (fun v H2 hv => ?_)
    · refine ⟨_, rfl, d, 15, rfl, D1, by decide, by decide, fun H2 r c2 D2 r0 r1 => ⟨r, rfl, by omega, by omega, fun L nL => ?_⟩⟩
      have ne := dice_ne D2 nL
      have c02 := c1.trans c2
      have hm2 := c2 _ _ emd hm
      have emL : m ≠ L := fun e => by rw [e, nL] at hm2; cases hm2
      refine lc_range (lo := 0) (n := r.toNat) (fun i H3 => Chg d H H3 ∧ Dice H3 d ∧ H3 m = some (.lst (ks.map V.int)) ∧ ∃ ns : List Int, H3 L = some (.lst (ns.map V.int)) ∧ ns.length = i ∧ ∀ k ∈ ns, k.natAbs < 2 ^ 100)
        ⟨c02.new nL, D2.new nL, by rw [upd_ne emL]; exact hm2, [], upd_same, rfl, fun _ h => by cases h⟩ (fun i H3 hi hP => ?_) (fun H3 hP => ?_)
      · obtain ⟨c3, D3, hm3, ns, hL, hl, hb⟩ := hP
        refine ⟨rfl, _, rfl, _, rfl, d, m, _, rfl, D3, emd, .of hm3, by rw [List.length_map]; exact hk0, by rw [List.length_map]; omega, fun H4 x c4 D4 mem => ?_⟩
        obtain ⟨k, hk, rfl⟩ := List.mem_map.mp mem
        have hL4 := c4 _ _ ne.symm hL
        refine ⟨_, hL4, by rw [List.length_map]; exact small1000 (by omega), fun b o nb eb => ?_, ?_, ?_, ns ++ [k], ?_, by rw [List.length_append, hl]; rfl, fun j hj => ?_⟩
        · rw [upd_ne (ne_of_none (c02 _ _ nb eb) nL)]
          exact (c3.trans c4) b o nb eb
        · obtain ⟨z1, z2, z3, ed, B⟩ := D4
          exact ⟨z1, z2, z3, by rw [upd_ne ne]; exact ed, B⟩
        · rw [upd_ne emL]
          exact c4 _ _ emd hm3
        · rw [upd_same, List.map_append]
          rfl
        · rcases List.mem_append.mp hj with hj | hj
          · exact hb j hj
          · rw [List.mem_singleton.mp hj]
            exact hkb k hk
      · obtain ⟨c3, D3, hm3, ns, hL, hl, hb⟩ := hP
        refine ⟨L, _, rfl, .inl ⟨.of hL, fun R nR => ?_⟩⟩
        exact q' _ _ ⟨R, ns, rfl, (dice_ne D3 nR).symm, c3.new nR, D3.new nR, upd_same, by omega, hb⟩
    obtain ⟨R, ns, rfl, eRd, c2, D2, hR, hl, hb⟩ := hv
    clear hkb hk9 hk0 hm D1 c1
    -- both reprs
    refine ⟨rfl, _, rfl, .ref R, rfl, .inl ⟨R, ns, rfl, hR, by omega, fun H3 t s3 ht => ?_⟩⟩
    obtain ⟨f1', m1', l1', i1, rp1, bk1⟩ := rp_Sh ht (by omega) hb
    refine ⟨_, _, rfl, rp1, bk1, depth_Sh _ _ _, ?_⟩
    refine ⟨_, rfl, R, ns, rfl, s3 _ _ hR, by omega, fun H4 t2 s4 ht2 => ?_⟩
    obtain ⟨f2', m2', l2', i2, rp2, bk2⟩ := rp_Sh ht2 (by omega) hb
    obtain ⟨rfl, rfl, rfl⟩ := i1.one i2
    refine ⟨_, _, rfl, rp2, bk2, depth_Sh _ _ _, rfl, _, rfl, ifF (by rw [decide_eq_true rfl]; rfl) ?_⟩
    dsimp only [tNext]
    have s34 := s3.trans s4
    have hR4 := s34 _ _ hR
    have c4 := c2.trans (.of s34)
    have D4 := D2.keep s34
    clear rp1 rp2 ht ht2 s3 s4 s34 hR D2 c2
    have hL : (ns.map V.int).length = ns.length := List.length_map _
    -- at
    refine asgS (fun v H5 => ∃ at_ : Nat, v = .int at_ ∧ at_ ≤ ns.length ∧ Chg d H H5 ∧ H5 R = some (.tup (ns.map V.int))) (fun Q' q' => ?_) (fun v H5 hv => ?_)
    · refine ⟨_, rfl, _, rfl, R, _, rfl, .of hR4, _, _, rfl, rfl, ?_⟩
      rw [hL]
      refine ⟨d, _, rfl, D4, by omega, by omega, fun H5 r c5 D5 r0 r1 => q' _ _ ⟨r.toNat, by rw [Int.toNat_of_nonneg r0], by omega, c4.trans c5, c5 _ _ eRd hR4⟩⟩
    obtain ⟨k, rfl, hk, c5, hR5⟩ := hv
    clear c4 D4 hR4
    -- odd
    refine asgS (fun v H6 => ∃ (L : Addr) (vs : List V), v = .ref L ∧ L ≠ R ∧ Same H5 H6 ∧ H5 L = none ∧ H6 L = some (.lst vs) ∧ vs.length ≤ 20 ∧ ∀ v ∈ vs, ∀ H', Chg L H6 H' → Bad K H' v) (fun Q' q' => ?_) (fun v H6 hv => ?_)
    · refine ⟨_, rfl, R, _, rfl, .inr (.of hR5), fun l nl => ?_⟩
      have s1 := same_new (o := .lst (ns.map V.int)) nl
      intro dd nd'
      have s2 := same_new (o := .dK []) nd'
      refine ⟨by show 6 ≤ sizeLine; decide, fun L nL => ?_⟩
      have s3 := same_new (o := .lst [V.non, .ref l, .ref dd, .str "row", .int 0, .bl true]) nL
      have g1 := s2 _ _ (upd_same (H := H5) (a := l) (o := .lst (ns.map V.int)))
      have g2 := upd_same (H := upd H5 l (.lst (ns.map V.int))) (a := dd) (o := .dK [])
      have n1 : l ≠ L := fun e => by
        have z := nL
        rw [← e, g1] at z
        cases z
      have n2 : dd ≠ L := fun e => by
        have z := nL
        rw [← e, g2] at z
        cases z
      have n3 : L ≠ R := fun e => by
        have := s2 _ _ (s1 _ _ hR5)
        rw [← e, nL] at this
        cases this
      refine q' _ _ ⟨L, _, rfl, n3, (s1.trans s2).trans s3, (s1.trans s2).free nL, upd_same, by show 6 ≤ 20; decide, fun v hv H' c' => ?_⟩
      have g1 := c' _ _ n1 (s3 _ _ g1)
      have g2 := c' _ _ n2 (s3 _ _ g2)
      simp only [List.mem_cons, List.not_mem_nil, or_false] at hv
      rcases hv with e | e | e | e | e | e <;> subst e
      · exact .inl ⟨"NoneType", .base .non, by decide +kernel⟩
      · exact .inl ⟨"list", .base (.lst g1), by decide +kernel⟩
      · exact .inl ⟨"dict", .base (.dK g2), by decide +kernel⟩
      · exact .inl ⟨"str", .base (.str _), by decide +kernel⟩
      · exact .inl ⟨"int", .base (.int _), by decide +kernel⟩
      · exact .inl ⟨"bool", .base (.bl _), by decide +kernel⟩
    obtain ⟨L, vs, rfl, eLR, s6, nL5, hL6, hvl, hbad⟩ := hv
    have c6 := c5.trans (.of s6)
    have hR6 := s6 _ _ hR5
    -- the eight values
    refine ⟨by show 1 ≤ sizeLine; decide, fun t1 n1 => ⟨by show 1 ≤ sizeLine; decide, fun l1 n2 => ⟨by show 0 ≤ sizeLine; decide, fun t2 n3 => ?_⟩⟩⟩
    intro d1 n4
    refine ⟨by show 8 ≤ sizeLine; decide, fun V8 n5 => ⟨V8, rfl, ⟨_, .of upd_same⟩, ?_⟩⟩
    have s1 := same_new (o := .tup [V.int 0]) n1
    have s2 := same_new (o := .lst [V.int 0]) n2
    have s3 := same_new (o := .tup []) n3
    have s4 := same_new (o := .dK []) n4
    have s5 := same_new (o := .lst [V.non, .bl true, .bl false, .str "0", .ref t1, .ref l1, .ref t2, .ref d1]) n5
    have g1 := s5 _ _ (s4 _ _ (s3 _ _ (s2 _ _ (upd_same (H := H6) (a := t1) (o := .tup [V.int 0])))))
    have g2 := s5 _ _ (s4 _ _ (s3 _ _ (upd_same (H := upd H6 t1 (.tup [V.int 0])) (a := l1) (o := .lst [V.int 0]))))
    have g3 := s5 _ _ (s4 _ _ (upd_same (H := upd (upd H6 t1 (.tup [V.int 0])) l1 (.lst [V.int 0])) (a := t2) (o := .tup [])))
    have g4 := s5 _ _ (upd_same (H := upd (upd (upd H6 t1 (.tup [V.int 0])) l1 (.lst [V.int 0])) t2 (.tup [])) (a := d1) (o := .dK []))
    have g5 := upd_same (H := upd (upd (upd (upd H6 t1 (.tup [V.int 0])) l1 (.lst [V.int 0])) t2 (.tup [])) d1 (.dK [])) (a := V8) (o := .lst [V.non, .bl true, .bl false, .str "0", .ref t1, .ref l1, .ref t2, .ref d1])
    have s15 := (((s1.trans s2).trans s3).trans s4).trans s5
    have hL7 := s15 _ _ hL6
    have m1 : t1 ≠ L := fun e => by rw [e, hL6] at n1; cases n1
    have m2 : l1 ≠ L := fun e => by rw [e, s1 _ _ hL6] at n2; cases n2
    have m3 : t2 ≠ L := fun e => by rw [e, (s1.trans s2) _ _ hL6] at n3; cases n3
    have m4 : d1 ≠ L := fun e => by rw [e, ((s1.trans s2).trans s3) _ _ hL6] at n4; cases n4
    have m5 : V8 ≠ L := fun e => by rw [e, (((s1.trans s2).trans s3).trans s4) _ _ hL6] at n5; cases n5
    have hR7 := s15 _ _ hR6
    have hbad7 : ∀ v ∈ vs, ∀ H', Chg L (upd (upd (upd (upd (upd H6 t1 (.tup [V.int 0])) l1 (.lst [V.int 0])) t2 (.tup [])) d1 (.dK [])) V8 (.lst [V.non, .bl true, .bl false, .str "0", .ref t1, .ref l1, .ref t2, .ref d1])) H' → Bad K H' v := fun v hv H' c' => hbad v hv H' ((Chg.of s15).trans c')
    have c7 := c6.trans (.of s15)
    generalize upd (upd (upd (upd (upd H6 t1 _) l1 _) t2 _) d1 _) V8 _ = H7 at g1 g2 g3 g4 g5 s15 hL7 hR7 hbad7 c7 ⊢
    have wh : ∀ v ∈ [V.non, .bl true, .bl false, .str "0", .ref t1, .ref l1, .ref t2, .ref d1], ∀ H', Chg L H7 H' → Wh K H' v false := fun v hv H' c' => by
      simp only [List.mem_cons, List.not_mem_nil, or_false] at hv
      rcases hv with e | e | e | e | e | e | e | e <;> subst e
      · exact ⟨"NoneType", false, false, .base .non, by decide +kernel, fun z => Bool.noConfusion z, rfl⟩
      · exact ⟨"bool", true, true, .base (.bl _), by decide +kernel, fun _ => by decide +kernel, rfl⟩
      · exact ⟨"bool", true, true, .base (.bl _), by decide +kernel, fun _ => by decide +kernel, rfl⟩
      · exact ⟨"str", false, false, .base (.str _), by decide +kernel, fun z => Bool.noConfusion z, rfl⟩
      · exact ⟨"tuple", false, false, .base (.tup (c' _ _ m1 g1)), by decide +kernel, fun z => Bool.noConfusion z, rfl⟩
      · exact ⟨"list", false, false, .base (.lst (c' _ _ m2 g2)), by decide +kernel, fun z => Bool.noConfusion z, rfl⟩
      · exact ⟨"tuple", false, false, .base (.tup (c' _ _ m3 g3)), by decide +kernel, fun z => Bool.noConfusion z, rfl⟩
      · exact ⟨"dict", false, false, .base (.dK (c' _ _ m4 g4)), by decide +kernel, fun z => Bool.noConfusion z, rfl⟩
    refine for_list (xs := [V.non, .bl true, .bl false, .str "0", .ref t1, .ref l1, .ref t2, .ref d1]) (fun i σ' H' => Chg L H7 H' ∧ (∃ vs', H' L = some (.lst vs') ∧ vs'.length ≤ 20 + i ∧ ∀ v ∈ vs', ∀ H2, Chg L H' H2 → Bad K H2 v) ∧ ∃ a5, σ' = [some (.ref d), some (.ref m), some (.ref R), some (.int k), some (.ref L), a5])
      ⟨Chg.refl _ _, ⟨vs, hL7, by omega, hbad7⟩, _, rfl⟩ (fun i σ' H' _ hP => .of (hP.1 _ _ m5 g5)) (fun i v σ' H8 hv hP => ?_) (fun σ' H8 hP => ?_)
    · obtain ⟨c8, ⟨vs', hL8, hl8, hb8⟩, a5, rfl⟩ := hP
      have hi := (List.getElem?_eq_some_iff.mp hv).1
      simp only [List.length_cons, List.length_nil] at hi
      have wv := wh v (List.mem_of_getElem? hv)
      have hR8 := c8 _ _ eLR.symm hR7
      refine ⟨_, rfl, .inl ⟨rfl, _, .of hL8⟩, ?_⟩
      -- front + (value,) + back
      refine cutOp (fun y H9 => ∃ T2, y = .ref T2 ∧ Same H8 H9 ∧ H9 T2 = some (.tup ((ns.take k).map V.int ++ [v]))) (fun Q' q' => ?_) (fun y H9 hy => ?_)
      · refine cutOp (fun y H9 => ∃ T1, y = .ref T1 ∧ Same H8 H9 ∧ H9 T1 = some (.tup ((ns.take k).map V.int))) (fun Q2 q2 => ?_) (fun y H9 hy => ?_)
        · refine ⟨_, rfl, _, rfl, _, rfl, R, _, rfl, .of hR8, fun z => ?_, fun _ p np => ?_⟩
          · rw [hL] at z
            have e := z.2
            rw [sIx_at _ _ _ hk] at e
            refine q2 _ _ ⟨R, rfl, Same.refl _, ?_⟩
            rw [e, List.take_length]
            exact hR8
          · have e1 : cutV (ns.map V.int) none (some (k : Int)) = (ns.take k).map V.int := by
              unfold cutV
              rw [hL, sIx_at _ _ _ hk, HT.sIx_none, List.drop_zero, Nat.sub_zero, List.map_take]
            rw [e1]
            exact q2 _ _ ⟨p, rfl, same_new np, upd_same⟩
        · obtain ⟨T1, rfl, s9, hT1⟩ := hy
          refine ⟨_, rfl, by show 1 ≤ sizeLine; decide, fun p np => ?_⟩
          have sp := same_new (o := .tup [v]) np
          refine ⟨T1, p, _, _, rfl, rfl, .of (sp _ _ hT1), .of upd_same, ?_, fun e => ?_, fun _ e => absurd e (List.cons_ne_nil _ _), fun _ _ p2 np2 => ?_⟩
          · rw [List.length_map, List.length_take]
            exact sz1000 (by show min k ns.length + 1 < 1000; omega)
          · refine q' _ _ ⟨p, rfl, s9.trans sp, ?_⟩
            rw [upd_same, e]
            rfl
          · exact q' _ _ ⟨p2, rfl, (s9.trans sp).trans (same_new np2), upd_same⟩
      · obtain ⟨T2, rfl, s9, hT2⟩ := hy
        have hR9 := s9 _ _ hR8
        refine Ly.cutE (fun y HA => ∃ T3, y = .ref T3 ∧ Same H9 HA ∧ HA T3 = some (.tup ((ns.drop k).map V.int))) (fun Q2 q2 => ?_) (fun y HA hy => ?_)
        · refine ⟨_, rfl, _, rfl, _, rfl, R, _, rfl, .of hR9, fun z => ?_, fun _ p np => ?_⟩
          · rw [hL] at z
            have e := z.1
            rw [sIx_at _ _ _ hk] at e
            refine q2 _ _ ⟨R, rfl, Same.refl _, ?_⟩
            rw [e, List.drop_zero]
            exact hR9
          · have e1 : cutV (ns.map V.int) (some (k : Int)) none = (ns.drop k).map V.int := by
              unfold cutV
              rw [hL, sIx_at _ _ _ hk, HT.sIx_none, List.map_drop]
              exact List.take_of_length_le (by rw [List.length_drop, hL]; exact Nat.le_refl _)
            rw [e1]
            exact q2 _ _ ⟨p, rfl, same_new np, upd_same⟩
        obtain ⟨T3, rfl, sA, hT3⟩ := hy
        have hT2A := sA _ _ hT2
        -- the whole tuple
        have fin : ∀ (T : Addr) (HB : Hp), Same HA HB → HB T = some (.tup ((ns.take k).map V.int ++ [v] ++ (ns.drop k).map V.int)) → rAppend (.ref L) [V.ref T] HB fun _ H' => Chg L H7 H' ∧ (∃ vs', H' L = some (.lst vs') ∧ vs'.length ≤ 20 + (i + 1) ∧ ∀ v ∈ vs', ∀ H2, Chg L H' H2 → Bad K H2 v) ∧ ∃ a5, [some (.ref d), some (.ref m), some (.ref R), some (.int k), some (.ref L), some v] = [some (.ref d), some (.ref m), some (.ref R), some (.int k), some (.ref L), a5] := fun T HB sB hT => by
          have s8B := (s9.trans sA).trans sB
          have hLB := s8B _ _ hL8
          have eTL : T ≠ L := fun e => by rw [e, hLB] at hT; cases hT
          have cB : Chg L H8 (upd HB L (.lst (vs' ++ [.ref T]))) := (Chg.of s8B).upd
          refine ⟨L, vs', .ref T, rfl, rfl, hLB, small1000 (by omega), c8.trans cB, ⟨vs' ++ [.ref T], upd_same, by rw [List.length_append]; show vs'.length + 1 ≤ _; omega, fun u hu H2 c2 => ?_⟩, _, rfl⟩
          rcases List.mem_append.mp hu with hu | hu
          · exact hb8 u hu H2 (cB.trans c2)
          · rw [List.mem_singleton.mp hu]
            have hT' : H2 T = some (.tup ((ns.take k).map V.int ++ [v] ++ (ns.drop k).map V.int)) := c2 _ _ eTL (by rw [upd_ne eTL]; exact hT)
            exact bad_ins hT' (by rw [List.length_take, List.length_drop]; omega) fun H3 s3 => wv H3 (((c8.trans cB).trans c2).trans (.of s3))
        refine ⟨T2, T3, _, _, rfl, rfl, .of hT2A, .of hT3, ?_, fun e => absurd e (by simp), fun _ e => ?_, fun _ _ p np => fin p _ (same_new np) upd_same⟩
        · rw [List.length_append, List.length_map, List.length_map, List.length_take, List.length_drop]
          exact sz1000 (by show min k ns.length + 1 + (ns.length - k) < 1000; omega)
        · refine fin T2 HA (Same.refl _) ?_
          rw [e, List.append_nil]
          exact hT2A
    · obtain ⟨c8, ⟨vs', hL8, hl8, hb8⟩, a5, rfl⟩ := hP
      dsimp only
      have c8d : Chg d H H8 := fun b o nb eb => by
        have e5 := c5 _ _ nb eb
        exact c8 _ _ (ne_of_none e5 nL5) (s15 _ _ (s6 _ _ e5))
      refine ⟨_, rfl, L, rfl, ⟨_, .of hL8⟩, fun D9 nD => ?_⟩
      refine lc_list (xs := vs') (fun j H' => Same H8 H' ∧ H' D9 = some (.lst [])) ⟨same_new nD, upd_same⟩ (fun j H' _ hP => .of (hP.1 _ _ hL8)) (fun j z H9 hz hP => ?_) (fun H9 hP => ?_)
      · obtain ⟨s9, hd⟩ := hP
        exact ⟨rfl, _, rfl, z, rfl, hb8 z (List.mem_of_getElem? hz) H9 (.of s9), fun HA sA => ⟨true, rfl, ifF rfl ⟨s9.trans sA, sA _ _ hd⟩⟩⟩
      · obtain ⟨s9, hd⟩ := hP
        refine ⟨by show 0 ≤ sizeLine; decide, fun l2 nl2 => ?_⟩
        have k7 := same_new (o := .lst []) nl2
        refine ⟨.list [], .list [], .lst (.of (k7 _ _ hd)) .nil, .lst (.of upd_same) .nil, by decide +kernel, by decide +kernel, ?_⟩
        exact q _ (c8d.trans (.of (s9.trans k7)))

end
end K24
set_option Elab.async false
set_option linter.all false
set_option maxRecDepth 100000
set_option maxHeartbeats 8000000
namespace K24
open PySem PySem.Spec PyProof.Rows L2 Ly Cut

abbrev s_law : Stmt := topS 98
abbrev N_law : List Str := ["_law_script", "_law_at", "_law_told", "_law_due"]
abbrev P_law : List Str := ["_law_script"]
theorem sc_law : FnScope N_law P_law (defScope s_law) := ⟨rfl, rfl, rfl, by decide +kernel, rfl, by decide +kernel, by decide +kernel⟩

section
variable {P : Program} {w : World} {K : PySem.W.Frag} {mg : Str → Option Value} {base : Heap} {f CW CI : Addr} {fd : FuncData}
structure Cg (P : Program) (w : World) (K : PySem.W.Frag) (mg : Str → Option Value) (base : Heap) (x : Str) (k : Nat) (f : Addr) (sp : Sp) : Prop where
  ok : FnG P w K mg base CX0 k f sp
  g : mg x = some (.ref f)
  kp : PySem.W.keepIn K (.ref f) = true
theorem is1 : IsShort [1, 0, 0, 1, 1] [1, 0, 0, 1, 1] [] [] := .inl ⟨by decide, rfl, rfl, rfl⟩
theorem is2 : IsShort [0, 1, 9, 1, 1, 0] [0, 1] [9] [1, 1, 0] := .inr ⟨by decide, rfl, rfl, by decide, fun k => Iff.rfl, by decide⟩
theorem is3 : IsShort [3, 3, 2, 1, 2, 0, 4, 4, 4] [3, 3] [0, 1, 2] [4, 4, 4] := .inr ⟨by decide, rfl, rfl, by decide, fun k => by
  show k ∈ [(0 : Int), 1, 2] ↔ k ∈ [(2 : Int), 1, 2, 0]
  simp only [List.mem_cons, List.not_mem_nil, or_false]
  omega, by decide⟩
theorem is0 : IsShort [] [] [] [] := .inl ⟨by decide, rfl, rfl, rfl⟩
theorem dpAll_Z {H : Hp} : ∀ l : List Int, DpAll K H (l.map V.int) (l.map PyData.int)
  | [] => .nil
  | i :: l => .cons (.int _) (dpAll_Z l)
theorem ShH.dp {H : Hp} {t : Addr} {ns f m l : List Int} (h : ShH H t ns) (i : IsShort ns f m l) : Dp K H (.ref t) (dSh f m l) := by
  obtain ⟨a, b, c, f', m', l', h1, h2, h3, h4, h5⟩ := h
  obtain ⟨rfl, rfl, rfl⟩ := h5.one i
  exact .tup (.of h1) (.cons (.tup (.of h2) (dpAll_Z _)) (.cons (.tup (.of h3) (dpAll_Z _)) (.cons (.tup (.of h4) (dpAll_Z _)) .nil)))
theorem cutLst {ta : TA} {σ : L2.St} {H : Hp} {Q : VK} (h : ta σ H fun xs H1 => xs.length ≤ sizeLine ∧ ∀ p, H1 p = none → Q (.ref p) (upd H1 p (.lst xs))) : tLst ta σ H Q := h
theorem cutC {te : TE} {ta : TA} {σ : L2.St} {H : Hp} {Q : List V → Hp → Prop} (P : V → Hp → Prop) (h : ∀ Q' : VK, (∀ v H', P v H' → Q' v H') → te σ H Q') (k : ∀ v H', P v H' → ta σ H' fun xs H2 => Q (v :: xs) H2) : tCons te ta σ H Q := h _ k
/-- a tuple of three tuples of ints -/
theorem sh_three {H : Hp} {a b c p : Addr} {ns f m l : List Int} (na : H a = none) (nb : upd H a (.tup (f.map V.int)) b = none) (nc : upd (upd H a (.tup (f.map V.int))) b (.tup (m.map V.int)) c = none)
    (np : upd (upd (upd H a (.tup (f.map V.int))) b (.tup (m.map V.int))) c (.tup (l.map V.int)) p = none) (i : IsShort ns f m l) :
    Same H (upd (upd (upd (upd H a (.tup (f.map V.int))) b (.tup (m.map V.int))) c (.tup (l.map V.int))) p (.tup [.ref a, .ref b, .ref c])) ∧ ShH (upd (upd (upd (upd H a (.tup (f.map V.int))) b (.tup (m.map V.int))) c (.tup (l.map V.int))) p (.tup [.ref a, .ref b, .ref c])) p ns := by
  have k1 := same_new (o := .tup (f.map V.int)) na
  have k2 := same_new (o := .tup (m.map V.int)) nb
  have k3 := same_new (o := .tup (l.map V.int)) nc
  have k4 := same_new (o := .tup [V.ref a, .ref b, .ref c]) np
  exact ⟨((k1.trans k2).trans k3).trans k4, a, b, c, f, m, l, upd_same, k4 _ _ (k3 _ _ (k2 _ _ upd_same)), k4 _ _ (k3 _ _ upd_same), k4 _ _ upd_same, i⟩
def spLaw (K : PySem.W.Frag) : Sp := fun vs H Q _ => ∃ (a : Addr) (ns : List Int), vs = [.ref a] ∧ SqL K H a (ns.map V.int) ∧ ns.length ≤ 63 ∧ ∀ H', Q (.bl true) H'
theorem ok_law (Z : Zs mg) (D : Df K mg "law" s_law P_law f fd) {f1 f2 f5 p5 : Addr} {d1 : FuncData} (D_dice : Cl P w K mg base "_law_dice" 1 f1 d1 P_dice (spDice K)) (D_right : Cg P w K mg base "_law_right" 4 f2 spRight)
    (gW : mg "Walk" = some (.ref CW)) (sW : SMet K CW "short" p5 f5) (F_short : FnR P w K mg base (L2.CX P w) 2 f5 (spShort K CI)) : FnG P w K mg base CX0 5 f (spLaw K) := by
  refine fnG_of D.F sc_law D.b (fun vs H Q E h => ?_) (fun cdv A outer s H vs Q E hr hq h => ?_)
  · obtain ⟨a, ns, rfl, _⟩ := h
    rfl
  · obtain ⟨a, ns, rfl, hS, hl, q⟩ := h
    have nd := sc_law.nd
    have hu : (A.deeper (envOfC "law" (defScope s_law) s.heap.objs.size f cdv)).units + 64 < cLine := by
      have := hr.un
      omega
    refine ⟨_,
    (pss_cons
    (ps_for PassesOwn.never rfl (pi_range1 (by rfl) Z.z_range (pa_cons (pe_callB (call_max2 rfl) (by rfl) Z.z_max (by decide +kernel) (pa_cons pe_int (pa_cons (pe_callB (call_min2 rfl) (by rfl) Z.z_min (by decide +kernel) (pa_cons pe_int (pa_cons (pe_callB call_lenL (by rfl) Z.z_len (by decide +kernel) (pa_cons (pv 0) pa_nil)) pa_nil))) pa_nil))) pa_nil)) (pg_name (i := 1) nd rfl (Or.inl rfl))
      (pss_one
      (ps_if (pt_not (pt_val (pe_callV (callG (X := _) D_right.ok (hr.mono (by decide)) hq pass0) (by rfl) D_right.g D_right.kp (pa_cons (pe_call D_dice.ok (hr.mono (by decide)) (by rfl) D_dice.g D_dice.kp D_dice.b .nil pass0 (pa_cons (pv 0) (pa_cons (pv 1) pa_nil))) pa_nil))))
        (pss_one
        (ps_ret pe_bl))
        pss_nil)))
    (pss_cons
    (ps_set (i := 2) nd rfl (Or.inl rfl) (pe_lst (pa_cons (pe_smeth (E := fun _ => E0) (pe_glob (v := .ref CW) rfl gW rfl) sW F_short (hr.mono (by decide)) (fun _ => passNA) (pa_cons (pe_tup (pa_cons pe_int (pa_cons pe_int (pa_cons pe_int (pa_cons pe_int (pa_cons pe_int pa_nil)))))) pa_nil)) (pa_cons (pe_smeth (E := fun _ => E0) (pe_glob (v := .ref CW) rfl gW rfl) sW F_short (hr.mono (by decide)) (fun _ => passNA) (pa_cons (pe_tup (pa_cons pe_int (pa_cons pe_int (pa_cons pe_int (pa_cons pe_int (pa_cons pe_int (pa_cons pe_int pa_nil))))))) pa_nil)) (pa_cons (pe_smeth (E := fun _ => E0) (pe_glob (v := .ref CW) rfl gW rfl) sW F_short (hr.mono (by decide)) (fun _ => passNA) (pa_cons (pe_tup (pa_cons pe_int (pa_cons pe_int (pa_cons pe_int (pa_cons pe_int (pa_cons pe_int (pa_cons pe_int (pa_cons pe_int (pa_cons pe_int (pa_cons pe_int pa_nil)))))))))) pa_nil)) pa_nil)))))
    (pss_cons
    (ps_set (i := 3) nd rfl (Or.inl rfl) (pe_lst (pa_cons (pe_tup (pa_cons (pe_tup (pa_cons pe_int (pa_cons pe_int (pa_cons pe_int (pa_cons pe_int (pa_cons pe_int pa_nil)))))) (pa_cons (pe_tup pa_nil) (pa_cons (pe_tup pa_nil) pa_nil)))) (pa_cons (pe_tup (pa_cons (pe_tup (pa_cons pe_int (pa_cons pe_int pa_nil))) (pa_cons (pe_tup (pa_cons pe_int pa_nil)) (pa_cons (pe_tup (pa_cons pe_int (pa_cons pe_int (pa_cons pe_int pa_nil)))) pa_nil)))) (pa_cons (pe_tup (pa_cons (pe_tup (pa_cons pe_int (pa_cons pe_int pa_nil))) (pa_cons (pe_tup (pa_cons pe_int (pa_cons pe_int (pa_cons pe_int pa_nil)))) (pa_cons (pe_tup (pa_cons pe_int (pa_cons pe_int (pa_cons pe_int pa_nil)))) pa_nil)))) pa_nil)))))
    (pss_one
    (ps_ret (pe_and (pe_cmpR (op_eqD hu) (pv 2) (pv 3) (nomark _)) (pe_one (pe_cmpR (op_eqD hu) (pe_smeth (E := fun _ => E0) (pe_glob (v := .ref CW) rfl gW rfl) sW F_short (hr.mono (by decide)) (fun _ => passNA) (pa_cons (pe_tup pa_nil) pa_nil)) (pe_tup (pa_cons (pe_tup pa_nil) (pa_cons (pe_tup pa_nil) (pa_cons (pe_tup pa_nil) pa_nil)))) (nomark _))))))))), ?_⟩
    refine ⟨_, rfl, a, _, rfl, hS, _, _, rfl, _, _, rfl, ?_⟩
    rw [List.length_map]
    generalize hn : (if (if (ns.length : Int) < 9 then (ns.length : Int) else 9) > 1 then (if (ns.length : Int) < 9 then (ns.length : Int) else 9) else 1) = n
    have n0 : 0 ≤ n ∧ n ≤ 9 := by
      rw [← hn]
      split <;> (try split) <;> omega
    refine ⟨n, rfl, by omega, by omega, ?_⟩
    refine for_range (lo := 0) (n := n.toNat) (fun i σ' H' => Same H H' ∧ ∃ x1, σ' = [some (.ref a), x1, none, none]) ⟨Same.refl H, none, rfl⟩ (fun i σ' H1 hi hP => ?_) (fun σ' H1 hP => ?_)
    · obtain ⟨s1, x1, rfl⟩ := hP
      refine ⟨_, rfl, _, rfl, a, ns, i, by simp, s1.seq hS, hl, by omega, fun H2 d s2 nd' D2 => ⟨d, rfl, D2, fun H3 c3 => ⟨true, rfl, ifF rfl ⟨fun b o e => ?_, _, rfl⟩⟩⟩⟩
      have e1 := s1 _ _ e
      exact c3 _ _ (ne_of_none e1 nd') (s2 _ _ e1)
    · obtain ⟨s1, x1, rfl⟩ := hP
      dsimp only
      refine asgS (fun v H2 => ∃ L t1 t2 t3, v = .ref L ∧ H2 L = some (.lst [.ref t1, .ref t2, .ref t3]) ∧ ShH H2 t1 [1, 0, 0, 1, 1] ∧ ShH H2 t2 [0, 1, 9, 1, 1, 0] ∧ ShH H2 t3 [3, 3, 2, 1, 2, 0, 4, 4, 4]) (fun Q' q' => ?_) (fun v H2 hv => ?_)
      · refine ⟨rfl, by show 5 ≤ sizeLine; decide, fun p1 n1 => ⟨.ref p1, rfl, .inl ⟨p1, [1, 0, 0, 1, 1], rfl, upd_same, by decide, fun H2 t1 s2 h1 => ?_⟩⟩⟩
        refine ⟨rfl, by show 6 ≤ sizeLine; decide, fun p2 n2 => ⟨.ref p2, rfl, .inl ⟨p2, [0, 1, 9, 1, 1, 0], rfl, upd_same, by decide, fun H3 t2 s3 h2 => ?_⟩⟩⟩
        have k2 := same_new (o := .tup [V.int 0, .int 1, .int 9, .int 1, .int 1, .int 0]) n2
        refine ⟨rfl, by show 9 ≤ sizeLine; decide, fun p3 n3 => ⟨.ref p3, rfl, .inl ⟨p3, [3, 3, 2, 1, 2, 0, 4, 4, 4], rfl, upd_same, by decide, fun H4 t3 s4 h3 => ?_⟩⟩⟩
        have k3 := same_new (o := .tup [V.int 3, .int 3, .int 2, .int 1, .int 2, .int 0, .int 4, .int 4, .int 4]) n3
        refine ⟨by show 3 ≤ sizeLine; decide, fun L nL => ?_⟩
        have k4 := same_new (o := .lst [V.ref t1, .ref t2, .ref t3]) nL
        exact q' _ _ ⟨L, t1, t2, t3, rfl, upd_same, ((((h1.same k2).same s3).same k3).same s4).same k4, ((h2.same k3).same s4).same k4, h3.same k4⟩
      obtain ⟨L, t1, t2, t3, rfl, hL, h1, h2, h3⟩ := hv
      refine asgS (fun v H3 => ∃ L2, v = .ref L2 ∧ Same H2 H3 ∧ Dp K H3 (.ref L2) (.list [dSh [1, 0, 0, 1, 1] [] [], dSh [0, 1] [9] [1, 1, 0], dSh [3, 3] [0, 1, 2] [4, 4, 4]])) (fun Q' q' => ?_) (fun v H3 hv => ?_)
      · refine cutLst (cutC (fun v H' => ∃ t, v = .ref t ∧ Same H2 H' ∧ ShH H' t [1, 0, 0, 1, 1]) (fun Q2 q2 => ?_) (fun v HA hA => ?_))
        · exact ⟨by show 5 ≤ sizeLine; decide, fun a na => ⟨by show 0 ≤ sizeLine; decide, fun b nb => ⟨by show 0 ≤ sizeLine; decide, fun c nc => ⟨by show 3 ≤ sizeLine; decide, fun p np => q2 _ _ ⟨p, rfl, sh_three (f := [1, 0, 0, 1, 1]) (m := []) (l := []) na nb nc np is1⟩⟩⟩⟩⟩
        obtain ⟨u1, rfl, sA, d1⟩ := hA
        refine cutC (fun v H' => ∃ t, v = .ref t ∧ Same HA H' ∧ ShH H' t [0, 1, 9, 1, 1, 0]) (fun Q2 q2 => ?_) (fun v HB hB => ?_)
        · exact ⟨by show 2 ≤ sizeLine; decide, fun a na => ⟨by show 1 ≤ sizeLine; decide, fun b nb => ⟨by show 3 ≤ sizeLine; decide, fun c nc => ⟨by show 3 ≤ sizeLine; decide, fun p np => q2 _ _ ⟨p, rfl, sh_three (f := [0, 1]) (m := [9]) (l := [1, 1, 0]) na nb nc np is2⟩⟩⟩⟩⟩
        obtain ⟨u2, rfl, sB, d2⟩ := hB
        refine cutC (fun v H' => ∃ t, v = .ref t ∧ Same HB H' ∧ ShH H' t [3, 3, 2, 1, 2, 0, 4, 4, 4]) (fun Q2 q2 => ?_) (fun v HC hC => ?_)
        · exact ⟨by show 2 ≤ sizeLine; decide, fun a na => ⟨by show 3 ≤ sizeLine; decide, fun b nb => ⟨by show 3 ≤ sizeLine; decide, fun c nc => ⟨by show 3 ≤ sizeLine; decide, fun p np => q2 _ _ ⟨p, rfl, sh_three (f := [3, 3]) (m := [0, 1, 2]) (l := [4, 4, 4]) na nb nc np is3⟩⟩⟩⟩⟩
        obtain ⟨u3, rfl, sC, d3⟩ := hC
        refine ⟨by show 3 ≤ sizeLine; decide, fun L2 nL2 => ?_⟩
        have kL := same_new (o := .lst [V.ref u1, .ref u2, .ref u3]) nL2
        refine q' _ _ ⟨L2, rfl, ((sA.trans sB).trans sC).trans kL, .lst (.of upd_same) (.cons ((d1.same ((sB.trans sC).trans kL)).dp is1) (.cons ((d2.same (sC.trans kL)).dp is2) (.cons ((d3.same kL).dp is3) .nil)))⟩
      obtain ⟨L2, rfl, s3, d2⟩ := hv
      refine ⟨_, rfl, _, rfl, .list [dSh [1, 0, 0, 1, 1] [] [], dSh [0, 1] [9] [1, 1, 0], dSh [3, 3] [0, 1, 2] [4, 4, 4]], _, .lst (.of (s3 _ _ hL)) (.cons ((h1.same s3).dp is1) (.cons ((h2.same s3).dp is2) (.cons ((h3.same s3).dp is3) .nil))), d2, by decide +kernel, by decide +kernel, true, ?_, ifT rfl ?_⟩
      · exact congrArg V.bl (by decide +kernel)
      refine ⟨rfl, by show 0 ≤ sizeLine; decide, fun p1 n1 => ⟨.ref p1, rfl, .inl ⟨p1, [], rfl, upd_same, by decide, fun H4 t s4 ht => ?_⟩⟩⟩
      refine ⟨by show 0 ≤ sizeLine; decide, fun e1 m1 => ⟨by show 0 ≤ sizeLine; decide, fun e2 m2 => ⟨by show 0 ≤ sizeLine; decide, fun e3 m3 => ⟨by show 3 ≤ sizeLine; decide, fun e4 m4 => ?_⟩⟩⟩⟩
      have k1 := same_new (o := .tup []) m1
      have k2 := same_new (o := .tup []) m2
      have k3 := same_new (o := .tup []) m3
      have k4 := same_new (o := .tup [V.ref e1, .ref e2, .ref e3]) m4
      refine ⟨dSh [] [] [], dSh [] [] [], (ht.same (((k1.trans k2).trans k3).trans k4)).dp is0, .tup (.of upd_same) (.cons (.tup (.of (k4 _ _ (k3 _ _ (k2 _ _ upd_same)))) .nil) (.cons (.tup (.of (k4 _ _ (k3 _ _ upd_same))) .nil) (.cons (.tup (.of (k4 _ _ upd_same)) .nil) .nil))), by decide +kernel, by decide +kernel, ?_⟩
      rw [show PyData.eqv (dSh [] [] []) (dSh [] [] []) = true by decide +kernel]
      exact q _

end
end K24
set_option Elab.async false
set_option linter.all false
set_option maxRecDepth 100000
set_option maxHeartbeats 4000000
/-! own layer: a head whose facts are any tests of the written part -/
namespace Hm
open PySem PySem.Spec PyProof.Rows L2
abbrev Test := PySem.W.Frag → Bool
/-- told by recursions of their own, so that the kernel compares them cell by cell -/
def defsAt (K : PySem.W.Frag) : List He5.DefA → List He5.FnW
  | [] => []
  | d :: r => He5.fnA K (d.at_ K) :: defsAt K r
def defsVal : List He5.DefA → List He5.FnW
  | [] => []
  | d :: r => d.val :: defsVal r
def okAll (K : PySem.W.Frag) : List He5.DefA → Bool
  | [] => true
  | d :: r => d.ok K && okAll K r
def testAll (K : PySem.W.Frag) : List Test → Bool
  | [] => true
  | c :: r => c K && testAll K r
def told (cs : List Test) (fn : List He5.DefA) (K : PySem.W.Frag) : He.AlD := (testAll K cs && okAll K fn, defsAt K fn)
def due (fn : List He5.DefA) : He.AlD := (true, defsVal fn)
theorem defsAt_get {K : PySem.W.Frag} : ∀ {fn : List He5.DefA} {i : Nat} {d : He5.DefA}, fn[i]? = some d → (defsAt K fn)[i]? = some (He5.fnA K (d.at_ K))
  | d :: r, 0, e, h => by cases h; rfl
  | d :: r, i + 1, e, h => defsAt_get (fn := r) (i := i) h
theorem defsVal_get : ∀ {fn : List He5.DefA} {i : Nat} {d : He5.DefA}, fn[i]? = some d → (defsVal fn)[i]? = some d.val
  | d :: r, 0, e, h => by cases h; rfl
  | d :: r, i + 1, e, h => defsVal_get (fn := r) (i := i) h
theorem okAll_get {K : PySem.W.Frag} : ∀ {fn : List He5.DefA} {i : Nat} {d : He5.DefA}, okAll K fn = true → fn[i]? = some d → d.ok K = true
  | d :: r, 0, e, k, h => by cases h; exact (Bool.and_eq_true_iff.mp k).1
  | d :: r, i + 1, e, k, h => okAll_get (fn := r) (i := i) (Bool.and_eq_true_iff.mp k).2 h
theorem testAll_get {K : PySem.W.Frag} : ∀ {cs : List Test} {i : Nat} {f : Test}, testAll K cs = true → cs[i]? = some f → f K = true
  | c :: r, 0, f, k, h => by cases h; exact (Bool.and_eq_true_iff.mp k).1
  | c :: r, i + 1, f, k, h => testAll_get (cs := r) (i := i) (Bool.and_eq_true_iff.mp k).2 h
def Says (cs : List Test) (fn : List He5.DefA) (K : PySem.W.Frag) : Prop := told cs fn K = due fn
/-- what an object names -/
def step (g : Addr → Option Obj) (a : Addr) : List Addr := match g a with
  | some o => He.refsO o
  | none => []
def steps (g : Addr → Option Obj) : List Addr → List Addr
  | [] => []
  | a :: r => step g a ++ steps g r
def rounds (g : Addr → Option Obj) : Nat → List Addr → List Addr
  | 0, _ => []
  | n + 1, as => as ++ rounds g n (steps g as)
def stands (K : PySem.W.Frag) : List Str → List Addr
  | [] => []
  | x :: r => He.ga K x :: stands K r
/-- the written part: the module's names, and what these few of them reach -/
def reach (n : Nat) (xs : List Str) (g : Addr → Option Obj) : List Addr := mainGlobals :: cStatics :: rounds g n (stands (He.frG g [mainGlobals]) xs)
def look (n : Nat) (xs : List Str) (cs : List Test) (fn : List He5.DefA) (g : Addr → Option Obj) : He.AlD := told cs fn (He.frG g (reach n xs g))
def hook (n : Nat) (xs : List Str) (cs : List Test) (fn : List He5.DefA) : PySem.W.Hook where
  α := He.AlD
  obs := fun s => look n xs cs fn s.heap.get?
  val := fun _ => due fn
  says := fun _ h => ∃ K : PySem.W.Frag, K.In h ∧ Says cs fn K
  of := fun _ _ e => ⟨_, He.frG_in, e⟩
  keeps := fun _ _ _ ⟨K, hK, c⟩ k => ⟨K, PySem.W.Frag.In.keeps hK k, c⟩
theorem look_eq {n : Nat} {xs : List Str} {cs : List Test} {fn : List He5.DefA} {g : Addr → Option Obj} {s : Shared} (h : ∀ a, g a = s.heap.get? a) : look n xs cs fn g = (hook n xs cs fn).obs s := by
  rw [(funext h : g = s.heap.get?)]
  rfl
section
variable {cs : List Test} {fn : List He5.DefA} {K : PySem.W.Frag}
theorem Says.test (c : Says cs fn K) (i : Nat) {f : Test} (h : cs[i]? = some f) : f K = true := by
  have z : (testAll K cs && okAll K fn) = true := congrArg Prod.fst c
  exact testAll_get (Bool.and_eq_true_iff.mp z).1 h
theorem Says.def_ (c : Says cs fn K) (i : Nat) {d : He5.DefA} (h : fn[i]? = some d) : ∃ fd, FunD K d.name d.qual d.params d.body d.scope (d.dvs K) (d.kws K) (d.at_ K) fd := by
  have z : (testAll K cs && okAll K fn) = true := congrArg Prod.fst c
  have e : defsAt K fn = defsVal fn := congrArg Prod.snd c
  have e2 : (defsAt K fn)[i]? = (defsVal fn)[i]? := by rw [e]
  rw [defsAt_get h, defsVal_get h] at e2
  exact He5.DefA.funD (Option.some.inj e2) (okAll_get (Bool.and_eq_true_iff.mp z).2 h)
end
end Hm

set_option Elab.async false
set_option linter.all false
set_option maxRecDepth 100000
set_option maxHeartbeats 4000000
namespace Ly
open PySem PySem.Spec PyProof.Rows L2
/-- the end over a head whose written part is found by its facts -/
theorem walk_ofH {l : PySem.W.OpenLaw} {n k : Nat} {q : Program} {loose : List Str} {XP : (Str → Option Value) → Heap → Prop} {YP : World → Heap → Prop} {d : DefRec}
    (hn : l.most = some n) (hn2 : n ≤ sizeLine) (hdf : d.params.defaults = []) (hr : Room k callerA)
    (F : ∀ (w : World) (mg : Str → Option Value) (fa : Addr) (h : Heap), YP w h → h.Ns mainGlobals mg → mg d.name = some (.ref fa) → ∃ (K : PySem.W.Frag) (sp : Sp), K.In h ∧
      (∀ (H : Hp) (a : Addr) (ns : List Int), ns.length ≤ n → Only H → SqL K H a (ns.map V.int) → sp [.ref a] H (fun v _ => v = .bl true) fun _ _ _ => False) ∧
        ∀ base : Heap, K.In base → base.Ns mainGlobals mg → FnG l.prog w K mg base CX0 k fa sp) : PySem.W.WalkO q loose XP YP l.row.toRowW d [] (fun f vs => PySem.call f vs) :=
  Att.attach_call hn hdf fun w _ _ mg _ fa _ _ _ _ a vs ns G Y ho hd hcd hmg hobj hints hlen hg => by
    obtain ⟨K, sp, KX, hsp, hF⟩ := F w mg fa _ Y G.T.g hmg
    exact lawG KX G.T.g G.T.b G.T.builtins G.T.nolimit hg hobj hints (Nat.le_trans hlen hn2) hr hF (fun H hO hS => hsp H a ns hlen hO hS) fun _ _ _ z => z
end Ly

set_option Elab.async false
set_option linter.all false
set_option maxRecDepth 100000
set_option maxHeartbeats 8000000
namespace K24
open PySem PySem.Spec PyProof.Rows L2 Ly Cut

theorem all_mk {l : PySem.W.OpenLaw} {w : World} {K : PySem.W.Frag} {h : Heap} {mg : Str → Option Value} {fa : Addr} (X : K.In h) (G : h.Ns mainGlobals mg) (hfa : mg "law" = some (.ref fa)) {f_is_whole : Addr} {f_shortf : Addr} {f_dice : Addr} {f_roll : Addr} {f_one_of : Addr} {f_lshort : Addr} {f_refused : Addr} {f_right : Addr} {f_law : Addr} {CW : Addr} {p_short : Addr} {f_short : Addr} {CI : Addr} {t_REACH : Tok} {t_MAX_FRONT : Tok} {t_MAX_BACK : Tok} {fd_is_whole : FuncData} {fd_shortf : FuncData} {fd_dice : FuncData} {fd_roll : FuncData} {fd_one_of : FuncData} {fd_lshort : FuncData} {fd_refused : FuncData} {fd_right : FuncData} {fd_law : FuncData} {fd_short : FuncData}
    (a_is_whole : PySem.W.nsIn K mainGlobals "is_whole" = some (some (.ref f_is_whole)))
    (a_shortf : PySem.W.nsIn K mainGlobals "short_form" = some (some (.ref f_shortf)))
    (a_dice : PySem.W.nsIn K mainGlobals "_law_dice" = some (some (.ref f_dice)))
    (a_roll : PySem.W.nsIn K mainGlobals "_law_roll" = some (some (.ref f_roll)))
    (a_one_of : PySem.W.nsIn K mainGlobals "_law_one_of" = some (some (.ref f_one_of)))
    (a_lshort : PySem.W.nsIn K mainGlobals "_law_short" = some (some (.ref f_lshort)))
    (a_refused : PySem.W.nsIn K mainGlobals "_law_is_refused" = some (some (.ref f_refused)))
    (a_right : PySem.W.nsIn K mainGlobals "_law_right" = some (some (.ref f_right)))
    (a_law : PySem.W.nsIn K mainGlobals "law" = some (some (.ref f_law)))
    (aCW : PySem.W.nsIn K mainGlobals "Walk" = some (some (.ref CW)))
    (W1 : PySem.W.readsIn K CW (.type "type") = true)
    (W2 : PySem.W.specialIn K (.ref CW) "__getattribute__" = some (some (.builtin "type.__getattribute__")))
    (w_short : He5.wrapB K CW "staticmethod" "staticmethod.__get__" "short" = true)
    (i_short : PySem.W.fnIn K f_short = true)
    (t_short : PySem.W.findCls K (.ref CW) (.type "type") "short" = some (.get (.builtin "staticmethod.__get__") (.ref p_short) .none (.ref CW)))
    (r_short : ∃ rest, PySem.W.recIn K p_short "staticmethod" = some (.ref f_short :: rest))
    (kp_short : PySem.W.keepIn K (.ref f_short) = true)
    (aCI : PySem.W.nsIn K mainGlobals "InvalidOperation" = some (some (.ref CI)))
    (xI : PySem.W.excIn K CI [.type "ValueError", .type "Exception", .type "BaseException", .type "object"] "ValueError.__new__" = true)
    (kI : PySem.W.keepIn K (.ref CI) = true)
    (bI : PySem.W.subIn K (.ref CI) (.type "BaseException") = some true)
    (tI : PySem.W.typeIn K (.ref CI) = some (.type "type"))
    (eI : PySem.W.exmOne K (.ref CI) (.ref CI) = some true)
    (z_len : PySem.W.nsIn K mainGlobals "len" = some none)
    (z_int : PySem.W.nsIn K mainGlobals "int" = some none)
    (z_abs : PySem.W.nsIn K mainGlobals "abs" = some none)
    (z_max : PySem.W.nsIn K mainGlobals "max" = some none)
    (z_min : PySem.W.nsIn K mainGlobals "min" = some none)
    (z_range : PySem.W.nsIn K mainGlobals "range" = some none)
    (z_all : PySem.W.nsIn K mainGlobals "all" = some none)
    (z_isinstance : PySem.W.nsIn K mainGlobals "isinstance" = some none)
    (z_str : PySem.W.nsIn K mainGlobals "str" = some none)
    (z_repr : PySem.W.nsIn K mainGlobals "repr" = some none)
    (z_bool : PySem.W.nsIn K mainGlobals "bool" = some none)
    (z_list : PySem.W.nsIn K mainGlobals "list" = some none)
    (z_tuple : PySem.W.nsIn K mainGlobals "tuple" = some none)
    (z_sorted : PySem.W.nsIn K mainGlobals "sorted" = some none)
    (z_set : PySem.W.nsIn K mainGlobals "set" = some none)
    (G_REACH : PySem.W.nsIn K mainGlobals "REACH" = some (some (.int 5 t_REACH)))
    (G_MAX_FRONT : PySem.W.nsIn K mainGlobals "MAX_FRONT" = some (some (.int 2 t_MAX_FRONT)))
    (G_MAX_BACK : PySem.W.nsIn K mainGlobals "MAX_BACK" = some (some (.int 3 t_MAX_BACK)))
    (F_is_whole : Fun K "is_whole" "is_whole" s_is_whole f_is_whole fd_is_whole)
    (F_shortf : Fun K "short_form" "short_form" s_shortf f_shortf fd_shortf)
    (F_dice : Fun K "_law_dice" "_law_dice" s_dice f_dice fd_dice)
    (F_roll : Fun K "_law_roll" "_law_roll" s_roll f_roll fd_roll)
    (F_one_of : Fun K "_law_one_of" "_law_one_of" s_one_of f_one_of fd_one_of)
    (F_lshort : Fun K "_law_short" "_law_short" s_lshort f_lshort fd_lshort)
    (F_refused : Fun K "_law_is_refused" "_law_is_refused" s_refused f_refused fd_refused)
    (F_right : Fun K "_law_right" "_law_right" s_right f_right fd_right)
    (F_law : Fun K "law" "law" s_law f_law fd_law)
    (F_short : Fun K "short" "Walk.short" s_short f_short fd_short) :
    ∀ base : Heap, K.In base → base.Ns mainGlobals mg → FnG l.prog w K mg base CX0 5 fa (spLaw K) := by
  have e := hfa.symm.trans (PySem.W.mg_of X G a_law)
  cases e
  have Z : Zs mg := ⟨PySem.W.mg_none_of X G z_len, PySem.W.mg_none_of X G z_int, PySem.W.mg_none_of X G z_abs, PySem.W.mg_none_of X G z_max, PySem.W.mg_none_of X G z_min, PySem.W.mg_none_of X G z_range, PySem.W.mg_none_of X G z_all, PySem.W.mg_none_of X G z_isinstance, PySem.W.mg_none_of X G z_str, PySem.W.mg_none_of X G z_repr, PySem.W.mg_none_of X G z_bool, PySem.W.mg_none_of X G z_list, PySem.W.mg_none_of X G z_tuple, PySem.W.mg_none_of X G z_sorted, PySem.W.mg_none_of X G z_set, ⟨_, PySem.W.mg_of X G G_REACH⟩, ⟨_, PySem.W.mg_of X G G_MAX_FRONT⟩, ⟨_, PySem.W.mg_of X G G_MAX_BACK⟩⟩
  have D_is_whole : Df K mg "is_whole" s_is_whole P_is_whole f_is_whole _ := ⟨F_is_whole, F_is_whole.binds (ps := P_is_whole) fun _ _ _ _ _ _ us hl => match us, hl with | [_], _ => rfl, PySem.W.mg_of X G a_is_whole⟩
  have D_shortf : Df K mg "short_form" s_shortf P_shortf f_shortf _ := ⟨F_shortf, F_shortf.binds (ps := P_shortf) fun _ _ _ _ _ _ us hl => match us, hl with | [_], _ => rfl, PySem.W.mg_of X G a_shortf⟩
  have D_dice : Df K mg "_law_dice" s_dice P_dice f_dice _ := ⟨F_dice, F_dice.binds (ps := P_dice) fun _ _ _ _ _ _ us hl => match us, hl with | [_, _], _ => rfl, PySem.W.mg_of X G a_dice⟩
  have D_roll : Df K mg "_law_roll" s_roll P_roll f_roll _ := ⟨F_roll, F_roll.binds (ps := P_roll) fun _ _ _ _ _ _ us hl => match us, hl with | [_, _], _ => rfl, PySem.W.mg_of X G a_roll⟩
  have D_one_of : Df K mg "_law_one_of" s_one_of P_one_of f_one_of _ := ⟨F_one_of, F_one_of.binds (ps := P_one_of) fun _ _ _ _ _ _ us hl => match us, hl with | [_, _], _ => rfl, PySem.W.mg_of X G a_one_of⟩
  have D_lshort : Df K mg "_law_short" s_lshort P_lshort f_lshort _ := ⟨F_lshort, F_lshort.binds (ps := P_lshort) fun _ _ _ _ _ _ us hl => match us, hl with | [_], _ => rfl, PySem.W.mg_of X G a_lshort⟩
  have D_refused : Df K mg "_law_is_refused" s_refused P_refused f_refused _ := ⟨F_refused, F_refused.binds (ps := P_refused) fun _ _ _ _ _ _ us hl => match us, hl with | [_], _ => rfl, PySem.W.mg_of X G a_refused⟩
  have D_right : Df K mg "_law_right" s_right P_right f_right _ := ⟨F_right, F_right.binds (ps := P_right) fun _ _ _ _ _ _ us hl => match us, hl with | [_], _ => rfl, PySem.W.mg_of X G a_right⟩
  have D_law : Df K mg "law" s_law P_law fa _ := ⟨F_law, F_law.binds (ps := P_law) fun _ _ _ _ _ _ us hl => match us, hl with | [_], _ => rfl, PySem.W.mg_of X G a_law⟩
  have D_short : Dm K "short" "Walk.short" s_short P_short f_short _ := ⟨F_short, F_short.binds (ps := P_short) fun _ _ _ _ _ _ us hl => match us, hl with | [_], _ => rfl⟩
  intro base _ _
  have gW : mg "Walk" = some (.ref CW) := PySem.W.mg_of X G aCW
  have gI : mg "InvalidOperation" = some (.ref CI) := PySem.W.mg_of X G aCI
  have C_whole := D_is_whole.cl (P := l.prog) (w := w) (base := base) (ok_whole Z D_is_whole)
  have C_shortf := D_shortf.cl (P := l.prog) (w := w) (base := base) (ok_shortf Z D_shortf)
  have F_short' := D_short.raw (ok_short (P := l.prog) (w := w) (base := base) Z D_short C_whole C_shortf gI xI kI bI tI)
  have sW : SMet K CW "short" p_short f_short := ⟨W1, W2, t_short, r_short, kp_short⟩
  have C_roll := D_roll.cl (P := l.prog) (w := w) (base := base) (ok_roll Z D_roll)
  have C_one := D_one_of.cl (P := l.prog) (w := w) (base := base) (ok_oneL Z D_one_of C_roll)
  have C_lshort := D_lshort.cl (P := l.prog) (w := w) (base := base) (ok_lshort Z D_lshort)
  have C_refused := D_refused.cl (P := l.prog) (w := w) (base := base) (ok_refused Z D_refused gW sW F_short' gI eI)
  have C_right : Cg l.prog w K mg base "_law_right" 4 f_right spRight := ⟨ok_right Z D_right C_roll C_one C_lshort C_refused gW sW F_short', D_right.g, D_right.kp⟩
  exact ok_law Z D_law (D_dice.cl (ok_dice Z D_dice)) C_right gW sW F_short'
end K24
namespace K24.HD
open PySem PySem.W PySem.Calls PyProof.Rows L2 K24
def nm0 : List PySem.Str := ["_wall", "MAX_NAME", "is_whole", "is_name", "is_mark", "is_mark_below", "is_ascending", "is_marks_below", "kept", "LetterError", "InvalidCutter", "InvalidCompany", "InvalidBundle", "InvalidRule", "InvalidState", "InvalidOperation", "UnknownName", "InvalidNumber", "TooMany", "MAX_PARTS", "MAX_ROW", "KEEP_ALL", "DOTS", "MAX_FRONT", "MAX_BACK", "REACH", "is_part", "check_parts", "has_plus", "part_places"]
def nm1 : List PySem.Str := ["kept_places", "keep_all", "table_of", "Cutter", "check_cutter", "cut", "MAX_PEOPLE", "is_people", "is_some_of", "is_turn", "is_pair", "is_turns", "is_copies", "in_order", "turns_within", "Company", "check_company", "check_person", "check_group", "MAX_LETTERS", "is_letter", "check_letters", "list_behind", "told_of", "Pile", "pile_of", "pile_with", "Bundle", "check_bundle", "check_mark"]
def nm2 : List PySem.Str := ["Rule", "check_rule", "Kinds", "LOST", "NO_MARKS", "short_form", "without_lost", "all_kept", "cut_short", "one_longer", "short_behind", "colours_behind", "is_row_of", "is_short", "COLOURS", "Heads", "Net", "MAX_STATES", "Walk", "check_limit", "_law_dice", "_law_roll", "_law_one_of", "_law_short", "_law_is_refused", "_law_right"]
def nms : List PySem.Str := nm0 ++ nm1 ++ nm2
def ad_f_is_whole (K : Frag) : Addr := He.ga K "is_whole"
def ad_f_shortf (K : Frag) : Addr := He.ga K "short_form"
def ad_f_dice (K : Frag) : Addr := He.ga K "_law_dice"
def ad_f_roll (K : Frag) : Addr := He.ga K "_law_roll"
def ad_f_one_of (K : Frag) : Addr := He.ga K "_law_one_of"
def ad_f_lshort (K : Frag) : Addr := He.ga K "_law_short"
def ad_f_refused (K : Frag) : Addr := He.ga K "_law_is_refused"
def ad_f_right (K : Frag) : Addr := He.ga K "_law_right"
def ad_f_law (K : Frag) : Addr := He.ga K "law"
def ad_CW (K : Frag) : Addr := He.ga K "Walk"
def ad_p_short (K : Frag) : Addr := He.ma K (He.ga K "Walk") "short"
def ad_f_short (K : Frag) : Addr := He5.wf K (He.ga K "Walk") "staticmethod" "short"
def ad_CI (K : Frag) : Addr := He.ga K "InvalidOperation"
def ad_t_REACH (K : Frag) : Tok := (match PySem.W.nsIn K mainGlobals "REACH" with | some (some (.int _ t)) => t | _ => default)
def ad_t_MAX_FRONT (K : Frag) : Tok := (match PySem.W.nsIn K mainGlobals "MAX_FRONT" with | some (some (.int _ t)) => t | _ => default)
def ad_t_MAX_BACK (K : Frag) : Tok := (match PySem.W.nsIn K mainGlobals "MAX_BACK" with | some (some (.int _ t)) => t | _ => default)
def cs0 : List Hm.Test := [fun K => decide (PySem.W.nsIn K mainGlobals "is_whole" = some (some (.ref (ad_f_is_whole K)))),
  fun K => decide (PySem.W.nsIn K mainGlobals "short_form" = some (some (.ref (ad_f_shortf K)))),
  fun K => decide (PySem.W.nsIn K mainGlobals "_law_dice" = some (some (.ref (ad_f_dice K)))),
  fun K => decide (PySem.W.nsIn K mainGlobals "_law_roll" = some (some (.ref (ad_f_roll K)))),
  fun K => decide (PySem.W.nsIn K mainGlobals "_law_one_of" = some (some (.ref (ad_f_one_of K)))),
  fun K => decide (PySem.W.nsIn K mainGlobals "_law_short" = some (some (.ref (ad_f_lshort K)))),
  fun K => decide (PySem.W.nsIn K mainGlobals "_law_is_refused" = some (some (.ref (ad_f_refused K)))),
  fun K => decide (PySem.W.nsIn K mainGlobals "_law_right" = some (some (.ref (ad_f_right K)))),
  fun K => decide (PySem.W.nsIn K mainGlobals "law" = some (some (.ref (ad_f_law K)))),
  fun K => decide (PySem.W.nsIn K mainGlobals "Walk" = some (some (.ref (ad_CW K)))),
  fun K => PySem.W.readsIn K (ad_CW K) (.type "type"),
  fun K => decide (PySem.W.specialIn K (.ref (ad_CW K)) "__getattribute__" = some (some (.builtin "type.__getattribute__"))),
  fun K => He5.wrapB K (ad_CW K) "staticmethod" "staticmethod.__get__" "short",
  fun K => PySem.W.fnIn K (ad_f_short K),
  fun K => PySem.W.keepIn K (.ref (ad_f_short K)),
  fun K => decide (PySem.W.nsIn K mainGlobals "InvalidOperation" = some (some (.ref (ad_CI K)))),
  fun K => PySem.W.excIn K (ad_CI K) [.type "ValueError", .type "Exception", .type "BaseException", .type "object"] "ValueError.__new__",
  fun K => PySem.W.keepIn K (.ref (ad_CI K)),
  fun K => decide (PySem.W.subIn K (.ref (ad_CI K)) (.type "BaseException") = some true),
  fun K => decide (PySem.W.typeIn K (.ref (ad_CI K)) = some (.type "type"))]
def cs1 : List Hm.Test := [fun K => decide (PySem.W.exmOne K (.ref (ad_CI K)) (.ref (ad_CI K)) = some true),
  fun K => decide (PySem.W.nsIn K mainGlobals "len" = some none),
  fun K => decide (PySem.W.nsIn K mainGlobals "int" = some none),
  fun K => decide (PySem.W.nsIn K mainGlobals "abs" = some none),
  fun K => decide (PySem.W.nsIn K mainGlobals "max" = some none),
  fun K => decide (PySem.W.nsIn K mainGlobals "min" = some none),
  fun K => decide (PySem.W.nsIn K mainGlobals "range" = some none),
  fun K => decide (PySem.W.nsIn K mainGlobals "all" = some none),
  fun K => decide (PySem.W.nsIn K mainGlobals "isinstance" = some none),
  fun K => decide (PySem.W.nsIn K mainGlobals "str" = some none),
  fun K => decide (PySem.W.nsIn K mainGlobals "repr" = some none),
  fun K => decide (PySem.W.nsIn K mainGlobals "bool" = some none),
  fun K => decide (PySem.W.nsIn K mainGlobals "list" = some none),
  fun K => decide (PySem.W.nsIn K mainGlobals "tuple" = some none),
  fun K => decide (PySem.W.nsIn K mainGlobals "sorted" = some none),
  fun K => decide (PySem.W.nsIn K mainGlobals "set" = some none),
  fun K => decide (PySem.W.nsIn K mainGlobals "REACH" = some (some (.int 5 (ad_t_REACH K)))),
  fun K => decide (PySem.W.nsIn K mainGlobals "MAX_FRONT" = some (some (.int 2 (ad_t_MAX_FRONT K)))),
  fun K => decide (PySem.W.nsIn K mainGlobals "MAX_BACK" = some (some (.int 3 (ad_t_MAX_BACK K))))]
def cs : List Hm.Test := cs0 ++ cs1
def d_is_whole : He5.DefA := ⟨ad_f_is_whole, "is_whole", "is_whole", defArgs s_is_whole, defBody s_is_whole, defScope s_is_whole, [], []⟩
def d_shortf : He5.DefA := ⟨ad_f_shortf, "short_form", "short_form", defArgs s_shortf, defBody s_shortf, defScope s_shortf, [], []⟩
def d_dice : He5.DefA := ⟨ad_f_dice, "_law_dice", "_law_dice", defArgs s_dice, defBody s_dice, defScope s_dice, [], []⟩
def d_roll : He5.DefA := ⟨ad_f_roll, "_law_roll", "_law_roll", defArgs s_roll, defBody s_roll, defScope s_roll, [], []⟩
def d_one_of : He5.DefA := ⟨ad_f_one_of, "_law_one_of", "_law_one_of", defArgs s_one_of, defBody s_one_of, defScope s_one_of, [], []⟩
def d_lshort : He5.DefA := ⟨ad_f_lshort, "_law_short", "_law_short", defArgs s_lshort, defBody s_lshort, defScope s_lshort, [], []⟩
def d_refused : He5.DefA := ⟨ad_f_refused, "_law_is_refused", "_law_is_refused", defArgs s_refused, defBody s_refused, defScope s_refused, [], []⟩
def d_right : He5.DefA := ⟨ad_f_right, "_law_right", "_law_right", defArgs s_right, defBody s_right, defScope s_right, [], []⟩
def d_law : He5.DefA := ⟨ad_f_law, "law", "law", defArgs s_law, defBody s_law, defScope s_law, [], []⟩
def d_short : He5.DefA := ⟨ad_f_short, "short", "Walk.short", defArgs s_short, defBody s_short, defScope s_short, [], []⟩
def fn0 : List He5.DefA := [d_is_whole, d_shortf, d_dice, d_roll, d_one_of, d_lshort, d_refused, d_right, d_law, d_short]
def fn : List He5.DefA := fn0
def stay : List PySem.Str := ["is_whole", "short_form", "_law_dice", "_law_roll", "_law_one_of", "_law_short", "_law_is_refused", "_law_right", "law", "Walk", "InvalidOperation"]
abbrev R : OpenRow := OpenLaw.row PySem.Challenge.rw_namedabove_k24_short_forms
abbrev hk : Hook := Hm.hook 5 stay cs fn
def ob (s : SharedT) : He.AlD := Hm.look 5 stay cs fn (HandSHeadRun.getT s)
theorem ob_eq (s : SharedT) : ob s = hk.obs s.abs := Hm.look_eq (HandSHeadRun.getT_eq s)
theorem run (w : World) : HandSHeadRun.RunEq R (view R.prog [98]) hk ob 20000 nms w := by
  intro os
  kernel_rfl
theorem facts {l : OpenLaw} {w : World} {K : Frag} {h : Heap} {mg : PySem.Str → Option Value} {fa : Addr} (X : K.In h) (G : h.Ns mainGlobals mg) (hfa : mg "law" = some (.ref fa)) (c : Hm.Says cs fn K) : ∀ base : Heap, K.In base → base.Ns mainGlobals mg → Ly.FnG l.prog w K mg base CX0 5 fa (K24.spLaw K) := by
  obtain ⟨fd_is_whole, G_is_whole⟩ := c.def_ 0 (d := d_is_whole) rfl
  obtain ⟨fd_shortf, G_shortf⟩ := c.def_ 1 (d := d_shortf) rfl
  obtain ⟨fd_dice, G_dice⟩ := c.def_ 2 (d := d_dice) rfl
  obtain ⟨fd_roll, G_roll⟩ := c.def_ 3 (d := d_roll) rfl
  obtain ⟨fd_one_of, G_one_of⟩ := c.def_ 4 (d := d_one_of) rfl
  obtain ⟨fd_lshort, G_lshort⟩ := c.def_ 5 (d := d_lshort) rfl
  obtain ⟨fd_refused, G_refused⟩ := c.def_ 6 (d := d_refused) rfl
  obtain ⟨fd_right, G_right⟩ := c.def_ 7 (d := d_right) rfl
  obtain ⟨fd_law, G_law⟩ := c.def_ 8 (d := d_law) rfl
  obtain ⟨fd_short, G_short⟩ := c.def_ 9 (d := d_short) rfl
  exact all_mk X G hfa (of_decide_eq_true (c.test 0 rfl)) (of_decide_eq_true (c.test 1 rfl)) (of_decide_eq_true (c.test 2 rfl)) (of_decide_eq_true (c.test 3 rfl)) (of_decide_eq_true (c.test 4 rfl)) (of_decide_eq_true (c.test 5 rfl)) (of_decide_eq_true (c.test 6 rfl)) (of_decide_eq_true (c.test 7 rfl)) (of_decide_eq_true (c.test 8 rfl)) (of_decide_eq_true (c.test 9 rfl)) (c.test 10 rfl) (of_decide_eq_true (c.test 11 rfl)) (c.test 12 rfl) (c.test 13 rfl) ((He5.wrapB_ok (c.test 12 rfl)).1) ((He5.wrapB_ok (c.test 12 rfl)).2) (c.test 14 rfl) (of_decide_eq_true (c.test 15 rfl)) (c.test 16 rfl) (c.test 17 rfl) (of_decide_eq_true (c.test 18 rfl)) (of_decide_eq_true (c.test 19 rfl)) (of_decide_eq_true (c.test 20 rfl)) (of_decide_eq_true (c.test 21 rfl)) (of_decide_eq_true (c.test 22 rfl)) (of_decide_eq_true (c.test 23 rfl)) (of_decide_eq_true (c.test 24 rfl)) (of_decide_eq_true (c.test 25 rfl)) (of_decide_eq_true (c.test 26 rfl)) (of_decide_eq_true (c.test 27 rfl)) (of_decide_eq_true (c.test 28 rfl)) (of_decide_eq_true (c.test 29 rfl)) (of_decide_eq_true (c.test 30 rfl)) (of_decide_eq_true (c.test 31 rfl)) (of_decide_eq_true (c.test 32 rfl)) (of_decide_eq_true (c.test 33 rfl)) (of_decide_eq_true (c.test 34 rfl)) (of_decide_eq_true (c.test 35 rfl)) (of_decide_eq_true (c.test 36 rfl)) (of_decide_eq_true (c.test 37 rfl)) (of_decide_eq_true (c.test 38 rfl)) (He5.fun_of G_is_whole) (He5.fun_of G_shortf) (He5.fun_of G_dice) (He5.fun_of G_roll) (He5.fun_of G_one_of) (He5.fun_of G_lshort) (He5.fun_of G_refused) (He5.fun_of G_right) (He5.fun_of G_law) (He5.fun_of G_short)
end K24.HD
open PySem PySem.W PySem.Calls PyProof.Rows
set_option maxHeartbeats 0 in
theorem PySem.Challenge.cw_namedabove_k24_short_forms_holds : PySem.Challenge.rw_namedabove_k24_short_forms.Holds := by
  w_on; o_law
  refine HandSHeadRun.head_any (r := OpenLaw.row PySem.Challenge.rw_namedabove_k24_short_forms) (q := view (OpenLaw.row PySem.Challenge.rw_namedabove_k24_short_forms).prog [98]) (H := K24.HD.hk) (ob := K24.HD.ob) (M := 20000) (loose := K24.HD.nms) (d := HandSHeadRun.topDef (OpenLaw.row PySem.Challenge.rw_namedabove_k24_short_forms).prog 98) (kwd := []) K24.HD.ob_eq
    (by kernel_rfl) (fun s => by kernel_rfl) K24.HD.run (by kernel_rfl) (by kernel_rfl) (by kernel_rfl) (by rfl) (by first | assumption | decide +kernel) (by decide +kernel) ⟨rfl, rfl, rfl, rfl, rfl, by decide +kernel⟩ ?hw ?hc
  case hw => w_witness2
  case hc =>
    refine Ly.walk_ofH (l := PySem.Challenge.rw_namedabove_k24_short_forms) (n := 63) (k := 5) rfl (by decide) (by kernel_rfl) ⟨rfl, by decide, by decide⟩ ?F
    intro w mg fa h Y G hmg0
    obtain ⟨K, KX, c⟩ := Y
    have e : (HandSHeadRun.topDef (OpenLaw.row PySem.Challenge.rw_namedabove_k24_short_forms).prog 98).name = ("law" : PySem.Str) := by kernel_rfl
    rw [e] at hmg0
    exact ⟨K, K24.spLaw K, KX, fun H a ns hl _ hS => ⟨a, ns, rfl, hS, hl, fun _ => rfl⟩, K24.HD.facts (l := PySem.Challenge.rw_namedabove_k24_short_forms) (w := w) KX G hmg0 c⟩
