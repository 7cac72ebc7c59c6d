import PyProof.Rows.All
import Wide.All
import OpenK.AllK
import Wide.FinOn
import HandS.ForMost
import HandS.IsInst
import HandS.Style
import HandS.Wide
import HandS.Star
import HandS.Property
import HandS.ClsMeth
import HandS.OwnEq
import HandS.Conv
import KE.GoesEnum
import HandS.RaiseMore
import HandS.Flow
import HandS.Zip
import HandS.ExcInit
import HandS.ExcField
import HandS.TryOnly
import HandS.WordsExc
import KE.KExcInit
import HandS.TryMany
import HandS.ExcIs
import HandS.ExcValue
import HandS.DictComp
import KE.KExcIs
import PyProof.ExcBaseAll.LookupError
import HandS.FStr
import HandS.Iter
import HandS.Lambda
import HandS.Dict
import HandS.EndBits
import KE.KOpsOwn
import KE.KStateDown
import HandS.Base
import HandS.Call
import HandS.Ends
import HandS.More
import HandS.Words
import HandS.Defaults
import HandS.Head0
import HandS.Head1
import HandS.Head2
import HandS.HeadEnd
import HandS.HeadHook1
import HandS.HeadHook2
import HandS.HeadNt
import PySem.Challenge.RW_namedabove_k05_errors_of_cutters
set_option Elab.async false
set_option linter.all false
set_option maxRecDepth 100000
set_option maxHeartbeats 4000000
/-! own layer: flat rules, what a list of three numbers keeps -/
namespace Ly
open PySem PySem.Spec PyProof.Rows L2

/-- all but d stands -/
def Chg (d : Addr) (H H' : Hp) : Prop := ∀ x o, x ≠ d → H x = some o → H' x = some o
theorem Chg.refl (d : Addr) (H : Hp) : Chg d H H := fun _ _ _ h => h
theorem Chg.trans {d : Addr} {H H1 H2 : Hp} (a : Chg d H H1) (b : Chg d H1 H2) : Chg d H H2 := fun x o n h => b x o n (a x o n h)
theorem Chg.of {d : Addr} {H H' : Hp} (s : Same H H') : Chg d H H' := fun x o _ h => s x o h
theorem Chg.upd {d : Addr} {H H' : Hp} {o : HO} (c : Chg d H H') : Chg d H (upd H' d o) := fun x u n h => by
  rw [upd_ne n]
  exact c x u n h
theorem same_new {H : Hp} {p : Addr} {o : HO} (h : H p = none) : Same H (upd H p o) := fun b x e => by
  rw [upd_ne (ne_of_none e h)]
  exact e
theorem Chg.new {d p : Addr} {H H' : Hp} {o : HO} (c : Chg d H H') (h : H' p = none) : Chg d H (L2.upd H' p o) := c.trans (.of (same_new h))

/-! ### rules with flat readings -/
section
variable {X : Cx}
theorem call_intI : CallR X (.type "int") (fun xs H Q => ∃ i, xs = [.int i] ∧ Q (.int i) H) := fun pins s σ H xs us Q I r ⟨i, e, q⟩ => call_int1 pins s σ H xs us Q I r (.inl ⟨i, e, q⟩)
theorem call_intB : CallR X (.type "int") (fun xs H Q => ∃ b : Bool, xs = [.bl b] ∧ Q (.int (if b then 1 else 0)) H) := fun pins s σ H xs us Q I r ⟨i, e, q⟩ => call_int1 pins s σ H xs us Q I r (.inr ⟨i, e, q⟩)
theorem call_lenL : CallR X (.builtin "len") (fun xs H Q => ∃ p ys, xs = [.ref p] ∧ SqL X.K H p ys ∧ Q (.int ys.length) H) := fun pins s σ H xs us Q I r ⟨p, ys, e, h, q⟩ => call_len_seq pins s σ H xs us Q I r ⟨p, ys, e, .inl h, q⟩
theorem call_lenT : CallR X (.builtin "len") (fun xs H Q => ∃ p ys, xs = [.ref p] ∧ SqT X.K H p ys ∧ Q (.int ys.length) H) := fun pins s σ H xs us Q I r ⟨p, ys, e, h, q⟩ => call_len_seq pins s σ H xs us Q I r ⟨p, ys, e, .inr h, q⟩
/-- powers of great numbers -/
def CPw (i j : Int) : Prop := 0 ≤ j ∧ (Builtin.Int.intBits i : Int) * j ≤ 2 ^ 27
theorem op_powW : OpR X (binaryOp .Pow) (rI CPw fun i j => .int (i ^ j.toNat)) := opI fun _ _ _ _ _ _ _ hc q => pow_int hc.1 hc.2 q
theorem call_reprB : CallR X (.builtin "repr") (fun xs H Q => ∃ b : Bool, xs = [.bl b] ∧ Q (.str (if b then "True" else "False")) H) := by
  intro pins s σ H xs us Q I r h
  obtain ⟨b, rfl, q⟩ := h
  obtain ⟨u, rfl, r1⟩ := vals1 r
  cases r1
  exact PySem.P.repr_of_bool ⟨.str (if b then "True" else "False"), H, I.tok _, ⟨_, rfl⟩, q⟩
end

/-! ### the three numbers of the dice -/
structure DB (a b c : Int) : Prop where
  a0 : 0 ≤ a
  aB : a.natAbs < 2 ^ 2000
  b0 : 0 ≤ b
  b1 : b < 2305843009213693951
  c0 : 0 ≤ c
def Dice (H : Hp) (d : Addr) : Prop := ∃ a b c : Int, H d = some (.lst [.int a, .int b, .int c]) ∧ DB a b c
theorem Dice.keep {H H' : Hp} {d : Addr} (s : Same H H') (h : Dice H d) : Dice H' d := by
  obtain ⟨a, b, c, e, D⟩ := h
  exact ⟨a, b, c, s _ _ e, D⟩
theorem Dice.chg {H H' : Hp} {d p : Addr} (s : Chg p H H') (n : d ≠ p) (h : Dice H d) : Dice H' d := by
  obtain ⟨a, b, c, e, D⟩ := h
  exact ⟨a, b, c, s _ _ n e, D⟩
theorem great_ok (x : Int) : 0 ≤ x % ((10 : Int) ^ (60 : Int).toNat) ^ (10 : Int).toNat ∧ (x % ((10 : Int) ^ (60 : Int).toNat) ^ (10 : Int).toNat).natAbs < 2 ^ 2000 := by
  have p : (0 : Int) < ((10 : Int) ^ (60 : Int).toNat) ^ (10 : Int).toNat := by decide +kernel
  have h0 := Int.emod_nonneg x (Int.ne_of_gt p)
  have h1 := Int.emod_lt_of_pos x p
  refine ⟨h0, ?_⟩
  have q : ((10 : Int) ^ (60 : Int).toNat) ^ (10 : Int).toNat < ((2 ^ 2000 : Nat) : Int) := by decide +kernel
  generalize ((10 : Int) ^ (60 : Int).toNat) ^ (10 : Int).toNat = m at *
  generalize (2 ^ 2000 : Nat) = n at *
  omega
theorem less_ok {x y : Int} (hx : 0 ≤ x) (hb : x.natAbs < 2 ^ 2000) (hy : 0 ≤ y) (h : y ≤ x) : y.natAbs < 2 ^ 2000 := by
  generalize (2 ^ 2000 : Nat) = n at *
  omega

/-! ### promises -/
def spDice (K : PySem.W.Frag) : Sp := fun vs H Q _ => ∃ (a : Addr) (ns : List Int) (k : Nat), vs = [.ref a, .int k] ∧ SqL K H a (ns.map V.int) ∧ ns.length ≤ 63 ∧ k < 64 ∧
  ∀ H' p, Same H H' → H p = none → Dice H' p → Q (.ref p) H'
def spRoll : Sp := fun vs H Q _ => ∃ (d : Addr) (n : Int), vs = [.ref d, .int n] ∧ Dice H d ∧ 0 < n ∧ n < 2 ^ 200 ∧ ∀ H' r, Chg d H H' → Dice H' d → 0 ≤ r → r < n → Q (.int r) H'
/-- an item of a list, or a sign of a text -/
def spOneL (K : PySem.W.Frag) : Sp := fun vs H Q _ => ∃ (d a : Addr) (xs : List V), vs = [.ref d, .ref a] ∧ Dice H d ∧ a ≠ d ∧ SqL K H a xs ∧ 0 < xs.length ∧ xs.length < 1000 ∧
  ∀ H' x, Chg d H H' → Dice H' d → x ∈ xs → Q x H'
def spOneS : Sp := fun vs H Q _ => ∃ (d : Addr) (z : Str), vs = [.ref d, .str z] ∧ Dice H d ∧ 0 < z.length ∧ z.length < 1000 ∧
  ∀ H' c, Chg d H H' → Dice H' d → c ∈ z.cps.toList → Q (.str ⟨#[c]⟩) H'
theorem Chg.seq {K : PySem.W.Frag} {H H' : Hp} {d a : Addr} {xs : List V} (e : Chg d H H') (n : a ≠ d) (h : SqL K H a xs) : SqL K H' a xs := by
  rcases h with (h | ⟨o, h⟩) | h
  · exact .inl (.inl (e _ _ n h))
  · exact .inl (.inr ⟨o, e _ _ n h⟩)
  · exact .inr h
end Ly
namespace Ly
open PySem PySem.Spec PyProof.Rows L2
/-- a value with its heap, told by P alone -/
theorem cutE {te : TE} {σ : L2.St} {H : Hp} {Q : VK} (P : V → Hp → Prop) (h : ∀ Q' : VK, (∀ v H', P v H' → Q' v H') → te σ H Q') (k : ∀ v H', P v H' → Q v H') : te σ H Q := h Q k
theorem cutT {te : TT} {σ : L2.St} {H : Hp} {Q : Bool → Hp → Prop} (P : Bool → Hp → Prop) (h : ∀ Q' : Bool → Hp → Prop, (∀ v H', P v H' → Q' v H') → te σ H Q') (k : ∀ v H', P v H' → Q v H') : te σ H Q := h Q k
/-- a def of the top: where it stands, how it is called -/
structure Df (K : PySem.W.Frag) (mg : Str → Option Value) (x : Str) (st : Stmt) (ps : List Str) (f : Addr) (fd : FuncData) : Prop where
  F : Fun K x x st f fd
  b : Binds K fd ps []
  g : mg x = some (.ref f)
theorem Df.kp {K : PySem.W.Frag} {mg : Str → Option Value} {x : Str} {st : Stmt} {ps : List Str} {f : Addr} {fd : FuncData} (D : Df K mg x st ps f fd) : PySem.W.keepIn K (.ref f) = true := D.F.kp
end Ly
namespace Ly
open PySem PySem.Spec PyProof.Rows L2
/-- x = e, its value told by P alone -/
theorem asgS {te : TE} {i : Nat} {t : TS} {D : Ends} {σ : L2.St} {H : Hp} (P : V → Hp → Prop) (h : ∀ Q' : VK, (∀ v H', P v H' → Q' v H') → te σ H Q') (k : ∀ v H', P v H' → t D (σ.set i (some v)) H') : tSeq (tAsg te (gName i)) t D σ H := h _ k
/-- if c: .. told by what holds of the test -/
theorem cutR {te : TE} {D : Ends} {σ : L2.St} {H : Hp} (P : V → Hp → Prop) (h : ∀ Q' : VK, (∀ v H', P v H' → Q' v H') → te σ H Q') (k : ∀ v H', P v H' → D.rt v H') : tRet te D σ H := h _ k
end Ly
namespace Ly
open PySem PySem.Spec PyProof.Rows L2
structure Cl (P : Program) (w : World) (K : PySem.W.Frag) (mg : Str → Option Value) (base : Heap) (x : Str) (k : Nat) (f : Addr) (fd : FuncData) (ps : List Str) (sp : Sp) : Prop where
  ok : FnOk P w K mg base CX0 k f fd ps sp
  g : mg x = some (.ref f)
  kp : PySem.W.keepIn K (.ref f) = true
  b : Binds K fd ps []
theorem Df.cl {P : Program} {w : World} {K : PySem.W.Frag} {mg : Str → Option Value} {base : Heap} {x : Str} {k : Nat} {st : Stmt} {ps : List Str} {f : Addr} {fd : FuncData} {sp : Sp} (D : Df K mg x st ps f fd) (o : FnOk P w K mg base CX0 k f fd ps sp) : Cl P w K mg base x k f fd ps sp := ⟨o, D.g, D.kp, D.b⟩
/-! ### texts of signs -/
theorem str_len (z : Str) : z.cps.toList.length = z.length := by
  show z.cps.toList.length = z.cps.size
  simp
theorem sz1000 {n : Nat} (h : n < 1000) : n ≤ sizeLine := Nat.le_of_lt (small1000 (Nat.le_of_lt h))
/-- the built-in class of a value's type, asked -/
def TyB (K : PySem.W.Frag) (H : Hp) (x : V) (t : String) : Prop := TyX K H x (.type t)
end Ly
namespace Ly
open PySem PySem.Spec PyProof.Rows L2
theorem at_nat {α : Type} {xs : List α} {i : Int} {v : α} (h0 : 0 ≤ i) (h : xs[i.toNat]? = some v) : atI xs i = some v := by
  have e := atI_nat h
  rwa [Int.toNat_of_nonneg h0] at e
end Ly
namespace Ly
open PySem PySem.Spec PyProof.Rows L2
/-- what a comprehension's loop asks of its turns -/
abbrev LcW (J : It) (g : TG) (tt : TT) (te : TE) (vs : List Nat) (σ : L2.St) (H1 : Hp) (D : Addr) (Qd : Hp → Prop) : Prop :=
  ∃ W : Nat → Nat → Hp → Prop, (∃ m, W 0 m (upd H1 D (.lst []))) ∧ (∀ i m H, W i m H → (J.stop i H ∧ Qd H) ∨ (J.go i H ∧ ∃ Nx : Hp → Prop,
    (∀ H', Nx H' → ∃ m', m' < m ∧ W (i + 1) m' H') ∧ (∀ x H', J.yld i H x H' → g x (wipe σ vs) H' fun σ2 H2 => wipe σ2 vs = wipe σ vs ∧
      tt σ2 H2 fun b H3 => if b = true then te σ2 H3 fun y H4 => ∃ acc, H4 D = some (.lst acc) ∧ acc.length < sizeLine ∧ Nx (upd H4 D (.lst (acc ++ [y]))) else Nx H3)))
theorem lc_gen {J : It} {n : Nat} {g : TG} {tt : TT} {te : TE} {vs : List Nat} {σ : L2.St} {H1 : Hp} {D : Addr} {Qd : Hp → Prop} (Pv : Nat → Hp → Prop) (h0 : Pv 0 (upd H1 D (.lst [])))
    (hgo : ∀ i H, i < n → Pv i H → J.go i H) (hst : ∀ H, Pv n H → J.stop n H)
    (hs : ∀ i x H H', i < n → Pv i H → J.yld i H x H' → g x (wipe σ vs) H' fun σ2 H2 => wipe σ2 vs = wipe σ vs ∧ tt σ2 H2 fun b H3 => if b = true then
      te σ2 H3 fun y H4 => ∃ acc, H4 D = some (.lst acc) ∧ acc.length < sizeLine ∧ Pv (i + 1) (upd H4 D (.lst (acc ++ [y]))) else Pv (i + 1) H3)
    (hd : ∀ H, Pv n H → Qd H) : LcW J g tt te vs σ H1 D Qd := by
  refine ⟨fun j left H => left + j = n ∧ Pv j H, ⟨n, by omega, h0⟩, ?_⟩
  rintro i m H ⟨em, p⟩
  rcases Nat.lt_or_ge i n with hlt | hge
  · exact .inr ⟨hgo i H hlt p, Pv (i + 1), fun H' p' => ⟨m - 1, by omega, by omega, p'⟩, fun x H' y => hs i x H H' hlt p y⟩
  · have e : i = n := by omega
    subst e
    exact .inl ⟨hst H p, hd H p⟩
/-- one sign against one sign -/
theorem sign_lt (a b : Nat) : decide ((⟨#[a]⟩ : Str).cps.toList < (⟨#[b]⟩ : Str).cps.toList) = decide (a < b) := by
  rw [decide_eq_decide]
  show ([a] : List Nat) < [b] ↔ a < b
  constructor
  · intro h
    rcases (List.cons_lt_cons_iff).mp h with h | ⟨_, h⟩
    · exact h
    · exact absurd h (List.not_lt_nil _)
  · exact fun h => List.cons_lt_cons_iff.mpr (.inl h)
end Ly
namespace Ly
open PySem PySem.Spec PyProof.Rows L2
theorem join_cps : ∀ ys : List Str, (Str.join Str.empty ys).cps.toList = ys.flatMap fun y => y.cps.toList
  | [] => rfl
  | [x] => by
    show x.cps.toList = _
    simp
  | x :: y :: r => by
    have h := join_cps (y :: r)
    show ((x ++ Str.empty ++ Str.join Str.empty (y :: r)) : Str).cps.toList = _
    rw [Str.cps_append, Str.append_empty, Array.toList_append, h]
    rfl
theorem txt_join (ys : List Str) : (Txt.join Str.empty ys).cps.toList = ys.flatMap fun y => y.cps.toList := by
  rw [show Txt.join Str.empty ys = Str.join Str.empty ys from StrLaws.glued_eq_join _ _, join_cps]
theorem app_cps (a b : Str) : (a ++ b).cps.toList = a.cps.toList ++ b.cps.toList := by
  rw [Str.cps_append, Array.toList_append]
theorem app_len (a b : Str) : (a ++ b).length = a.length + b.length := Str.length_append a b
theorem cut_to (z : Str) (k : Nat) (h : k ≤ z.length) : (cutS z none (some (k : Int))).cps.toList = z.cps.toList.take k := by
  unfold cutS
  rw [HT.sIx_none, HT.sIx_nat]
  show (List.take (min k z.length - 0) (z.cps.toList.drop 0)) = _
  rw [Nat.min_eq_left h]
  rfl
theorem cut_from (z : Str) (k : Nat) (h : k ≤ z.length) : (cutS z (some (k : Int)) none).cps.toList = z.cps.toList.drop k := by
  unfold cutS
  rw [HT.sIx_none, HT.sIx_nat, Nat.min_eq_left h]
  show (List.take (z.length - k) (z.cps.toList.drop k)) = _
  refine List.take_of_length_le ?_
  rw [List.length_drop, str_len]
  omega
theorem len_of_cps {z : Str} {l : List Nat} (h : z.cps.toList = l) : z.length = l.length := by
  rw [← h, str_len]
theorem Chg.dice {H H' : Hp} {d : Addr} (c : Chg d H H') {p : Addr} {o : HO} (n : p ≠ d) (h : H p = some o) : H' p = some o := c p o n h
theorem dice_ne {H : Hp} {d p : Addr} (h : Dice H d) (n : H p = none) : d ≠ p := by
  obtain ⟨a, b, c, e, _⟩ := h
  exact ne_of_none e n
theorem Dice.new {H : Hp} {d p : Addr} {o : HO} (h : Dice H d) (n : H p = none) : Dice (L2.upd H p o) d := h.keep (same_new n)
end Ly
namespace Ly
open PySem PySem.Spec PyProof.Rows L2
theorem ifF {c : Bool} {A B : Prop} (h : c = false) (b : B) : if c = true then A else B := by
  subst h
  exact iteF b
theorem ifT {c : Bool} {A B : Prop} (h : c = true) (b : A) : if c = true then A else B := by
  subst h
  exact iteT b
/-- if c: .., not taken -/
theorem ifNo {c : TT} {t r : TS} {D : Ends} {σ : L2.St} {H : Hp} (P : Hp → Prop) (h : ∀ Q' : Bool → Hp → Prop, (∀ H', P H' → Q' false H') → c σ H Q') (k : ∀ H', P H' → r D σ H') : tSeq (tIfS c t tNext) r D σ H :=
  h _ fun H' p => iteF (k H' p)
/-- things that are no text -/
def Odd (H : Hp) (x : V) : Prop := x = .non ∨ (∃ b, x = .bl b) ∨ (∃ i, x = .int i) ∨ ∃ p, x = .ref p ∧ ((∃ xs, H p = some (.lst xs)) ∨ (∃ xs, H p = some (.tup xs)) ∨ ∃ kvs, H p = some (.dK kvs))
theorem Odd.keep {H H' : Hp} {x : V} (s : Same H H') (h : Odd H x) : Odd H' x := by
  rcases h with h | h | h | ⟨p, e, h⟩
  · exact .inl h
  · exact .inr (.inl h)
  · exact .inr (.inr (.inl h))
  · refine .inr (.inr (.inr ⟨p, e, ?_⟩))
    rcases h with ⟨_, h⟩ | ⟨_, h⟩ | ⟨_, h⟩
    · exact .inl ⟨_, s _ _ h⟩
    · exact .inr (.inl ⟨_, s _ _ h⟩)
    · exact .inr (.inr ⟨_, s _ _ h⟩)
theorem Odd.ty {K : PySem.W.Frag} {H : Hp} {x : V} (h : Odd H x) : ∃ t, TyB K H x t ∧ kitB t "str" = some false := by
  rcases h with rfl | ⟨b, rfl⟩ | ⟨i, rfl⟩ | ⟨p, rfl, ⟨_, h⟩ | ⟨_, h⟩ | ⟨_, h⟩⟩
  · exact ⟨"NoneType", .base .non, by decide +kernel⟩
  · exact ⟨"bool", .base (.bl b), by decide +kernel⟩
  · exact ⟨"int", .base (.int i), by decide +kernel⟩
  · exact ⟨"list", .base (.lst h), by decide +kernel⟩
  · exact ⟨"tuple", .base (.tup h), by decide +kernel⟩
  · exact ⟨"dict", .base (.dK h), by decide +kernel⟩
theorem same_new2 {H : Hp} {p : Addr} {o u : HO} (h : H p = none) : Same H (upd (upd H p o) p u) := by
  rw [upd_upd]
  exact same_new h
theorem log_ok {n : Int} (h0 : 0 ≤ n) (h : n < 2 ^ 200) : n.natAbs.log2 < 1920 := by
  have e : (2 : Int) ^ 200 = ((2 ^ 200 : Nat) : Int) := by decide +kernel
  rw [e] at h
  have h2 : n.natAbs < 2 ^ 200 := by
    generalize (2 ^ 200 : Nat) = m at *
    omega
  exact Nat.lt_trans (PySem.Flt.log2_lt_of (by decide) h2) (by decide)
end Ly
namespace Ly
open PySem PySem.Spec PyProof.Rows L2
theorem or_ok {P : Program} {w : World} {K : PySem.W.Frag} {mg : Str → Option Value} {base : Heap} {CX : CXT} {k : Nat} {f : Addr} {fd : FuncData} {ps : List Str} {sp1 sp2 : Sp} (h1 : FnOk P w K mg base CX k f fd ps sp1) (h2 : FnOk P w K mg base CX k f fd ps sp2) :
    FnOk P w K mg base CX k f fd ps (fun vs H Q E => sp1 vs H Q E ∨ sp2 vs H Q E) :=
  ⟨fun vs H Q E h => h.elim (h1.len vs H Q E) (h2.len vs H Q E), fun A outer s H args us vs Q E hr e0 hb hv hs => hs.elim (h1.run A outer s H args us vs Q E hr e0 hb hv) (h2.run A outer s H args us vs Q E hr e0 hb hv)⟩
def timesS (z : Str) (k : Int) : Str := ⟨(List.replicate k.toNat z.cps).foldl (· ++ ·) #[]⟩
def MulS (z : Str) (k : Int) : Bool := decide (1 < k) && decide (k ≤ 1000) && decide (0 < z.length) && !decide ((z.length : Int) > (2 ^ 63 - 1) / k) && !Builtin.Str.tooLong (z.length * k.toNat) && decide ((timesS z k).length ≤ sizeLine)
theorem op_mul_str {X : Cx} : OpR X (binaryOp .Mult) (fun x y H Q => ∃ z k, x = .str z ∧ y = .int k ∧ MulS z k = true ∧ Q (.str (timesS z k)) H) := by
  intro pins s σ H x y v u Q I rx ry h
  obtain ⟨z, k, rfl, rfl, hm, q⟩ := h
  obtain ⟨t, rfl⟩ := rx
  obtain ⟨t', rfl⟩ := ry
  unfold MulS at hm
  simp only [Bool.and_eq_true, Bool.not_eq_true', decide_eq_true_eq, decide_eq_false_iff_not] at hm
  obtain ⟨⟨⟨⟨⟨h1, h2⟩, h3⟩, h4⟩, h5⟩, h6⟩ := hm
  refine PySem.P.mul_str ?_ (fun _ _ => h4) (fun _ _ => h5) ?_
  · rw [decide_eq_false (by omega), decide_eq_false (by omega)]
    rfl
  · rw [if_neg (by omega)]
    have e1 : (k == 1) = false := beq_eq_false_iff_ne.mpr (by omega)
    have e2 : (z.length == 0) = false := beq_eq_false_iff_ne.mpr (by omega)
    rw [e1, e2, if_neg (by decide)]
    exact ⟨h6, ⟨.str (timesS z k), H, I.tok _, ⟨_, rfl⟩, q⟩⟩
end Ly

set_option Elab.async false
set_option linter.all false
set_option maxRecDepth 100000
set_option maxHeartbeats 4000000
/-! own layer: defs that ask for repr of lists: the promise is told where no repr is under way -/
namespace Ly
open PySem PySem.Spec PyProof.Rows L2
abbrev Quiet (A : Around) : Prop := A.guards = some []
/-- the promise of a def, called where no repr is under way -/
def FnG (P : Program) (w : World) (K : PySem.W.Frag) (mg : Str → Option Value) (base : Heap) (CX : CXT) (k : Nat) (f : Addr) (sp : Sp) : Prop :=
  ∀ (A : Around) (outer : List Env) (s : Shared) (H : Hp) (us : List Value) (vs : List V) (Q : VK) (E : XK), Room k A → Quiet A →
    Env0 P w K mg base A outer s H → Vals vs us → sp vs H Q E → codeAny (model P w) A (.call (.ref f) ⟨us, []⟩) (CR CX outer P w H s Q E) s
section
variable {P : Program} {w : World} {K : PySem.W.Frag} {mg : Str → Option Value} {base : Heap} {CX : CXT} {k : Nat}
/-- a def's body, walked where no repr is under way -/
theorem fnG_of {x qual : Str} {st : Stmt} {f : Addr} {fd : FuncData} {N ps : List Str} {sp : Sp} (F : Fun K x qual st f fd) (S : FnScope N ps (defScope st)) (b : Binds K fd ps []) (len : ∀ vs H Q E, sp vs H Q E → vs.length = ps.length)
    (hbody : ∀ (cdv : Value) (A : Around) (outer : List Env) (s : Shared) (H : Hp) (vs : List V) (Q : VK) (E : XK), Room k (A.deeper (envOfC qual (defScope st) s.heap.objs.size f cdv)) → Quiet (A.deeper (envOfC qual (defScope st) s.heap.objs.size f cdv)) →
      sp vs H Q E → ∃ t, PSs (cxOf CX P w K mg base N qual (defScope st) f cdv A outer s H E).nox (defBody st) t ∧ t { nx := fun _ H' => Q .non H', rt := Q } (start N vs) H) :
    FnG P w K mg base CX (k + 1) f sp := by
  obtain ⟨oc, od, kV, doc, pm, an, cdv, ct, osl, rfl, lk, hcd⟩ := F.ex
  intro A outer s H us vs Q E hr hq e0 r hsp
  have hl := len vs H Q E hsp
  have hl2 : (us ++ ([] : List Value)).length = ps.length := by
    rw [List.append_nil, ← r.length]
    exact hl
  have hb := b s us (e0.mod.kin.keeps fun b o e => (e0.bs b o e).1) hl2
  rw [List.append_nil] at hb
  refine StX.run_bnd (G := fun xs H2 => xs = vs ∧ H2 = H) lk hcd S hr e0 (fun A' Ex Q' h => hb _ A' Ex Q' (h s H vs us e0 .refl rfl (fun _ _ z => z) r hl ⟨rfl, rfl⟩)) fun s2 H2 xs g hr' => ?_
  obtain ⟨rfl, rfl⟩ := g
  obtain ⟨t, h, q⟩ := hbody cdv A outer s2 H2 xs Q E hr' hq hsp
  exact ⟨t, h.nox, q⟩
theorem FnG.or {f : Addr} {sp1 sp2 : Sp} (h1 : FnG P w K mg base CX k f sp1) (h2 : FnG P w K mg base CX k f sp2) : FnG P w K mg base CX k f (fun vs H Q E => sp1 vs H Q E ∨ sp2 vs H Q E) :=
  fun A outer s H us vs Q E hr hq e0 r hs => hs.elim (h1 A outer s H us vs Q E hr hq e0 r) (h2 A outer s H us vs Q E hr hq e0 r)
theorem _root_.L2.FnOk.quiet {f : Addr} {fd : FuncData} {ps : List Str} {sp : Sp} (F : FnOk P w K mg base CX k f fd ps sp) (b : Binds K fd ps []) : FnG P w K mg base CX k f sp := by
  intro A outer s H us vs Q E hr _ e0 r hs
  have z := F.raw b .nil A outer s H us vs Q E hr e0 r
  simp only [List.append_nil] at z
  exact z hs
end
section
variable {X : Cx} {CX : CXT} {k : Nat} {f : Addr} {sp : Sp} {E : XK}
/-- such a def as a thing that is called -/
theorem callG (F : FnG X.prog X.w X.K X.mg X.base CX k f sp) (hr : Room k X.A) (hq : Quiet X.A) (hx : Passes CX X E) : CallR X (.ref f) (fun vs H Q => sp vs H Q E) := by
  intro pins s σ H vs us Q I r h
  refine wpAny_call (codeAny_mono (F X.A X.stack s H us vs Q E hr hq I.env0 r h) fun res s' hres => ?_)
  cases res with
  | error e => exact hx pins σ H s e s' I hres
  | ok fl =>
    cases fl with
    | ret u => exact I.after hres
    | next => exact False.elim hres
    | brk => exact False.elim hres
    | cont => exact False.elim hres
/-- x(..), x a def of the module, by what its call is worth -/
theorem pe_callV {x : Str} {p pos : Pos} {e : Expr} {es : List Expr} {t : TA} {r : List V → Hp → VK → Prop} (c : CallR X (.ref f) r) (hg : Gl X x) (hm : X.mg x = some (.ref f)) (hk : PySem.W.keepIn X.K (.ref f) = true) (ha : PA X (e :: es) t)
    (hdb : (x == ("__debug__" : Str)) = false := by decide) (he : starEach (e :: es) X.env = (false, eval e X.env) :: starEach es X.env := by rfl) (hpl : (backTo pos (starEach es X.env)).any (·.1) = false := by rfl) :
    PE X (.Call (.Name x p) (e :: es) [] pos) (tCB r t) := ⟨fun pins s σ H Q I h => wpAny_Call_Name_kw (ld_glob I hg hm
  (PySem.W.callWith_K (h₀ := X.base) I.ok.mod.kin hk (thn (ha.run pos pins s σ H _ I h) fun us s1 ⟨vs, H1, I1, rv, q⟩ => ⟨I1.kIn, c pins s1 σ H1 vs us Q I1 rv q⟩) he hpl) hdb)⟩
end
/-! ### the law's own end -/
section
variable {P : Program} {w : World} {K : PySem.W.Frag} {mg mb : Str → Option Value} {CX : CXT} {k : Nat} {fa a : Addr} {sp : Sp} {s1 : Shared} {vs : List Value} {ns : List Int}
/-- what is asked of the call of the law -/
abbrev LawGoal (P : Program) (w : World) (fa a : Addr) (s1 : Shared) : Prop :=
  codeAny (model P w) callerA (.call (.ref fa) ⟨[.ref a], []⟩) (fun r s' => r = .ok (.ret (.bool true)) ∧ OldK s1.heap s'.heap ∧ s'.os = s1.os ∧ AllBare s'.gens) s1
theorem lawG_core (KX : K.In s1.heap) (hns : s1.heap.Ns mainGlobals mg) (hb : s1.heap.Ns builtinsNs mb) (hbb : ∀ x : Str, x ≠ "__name__" → mb x = bootBuiltins x) (hlim : s1.heap.NoLimit) (hg : s1.gens = #[])
    (ha : s1.heap.get? a = some { cls := .type "list", data := .seq vs.toArray }) (hr : Room k callerA) (F : ∀ base : Heap, K.In base → base.Ns mainGlobals mg → FnG P w K mg base CX k fa sp)
    (hCX : ∀ H e s', CX [] H s1 (fun _ _ _ => False) e s' → False) {H : Hp} (hO : Only H) (hok : HOk P w H s1.heap) (hA : ∀ b, H b ≠ none → b = a ∧ K.lookup a = none) (hsp : sp [.ref a] H (fun v _ => v = .bl true) fun _ _ _ => False) : LawGoal P w fa a s1 := by
  -- what is tracked is the script alone: it is no dict and no part of K
  have plain : ∀ {b : Addr} {o : Obj}, s1.heap.get? b = some o → (∀ its n, o.data ≠ .seq its n) → H b = none := by
    intro b o e d
    rcases hO b with z | ⟨ob, xs, z⟩
    · exact z
    · obtain ⟨rfl, _⟩ := hA b (by rw [z]; exact fun q => nomatch q)
      rw [ha] at e
      cases e
      exact absurd rfl (d _ _)
  have nsB : ∀ {b : Addr} {m : Str → Option Value}, s1.heap.Ns b m → (hidT s1.heap H).Ns b m := fun {b m} h => by
    obtain ⟨o, es, ep, e, d, r⟩ := h
    exact ⟨o, es, ep, hidT_get e (plain e fun its n z => by rw [d] at z; cases z), d, r⟩
  have kB : K.In (hidT s1.heap H) := fun b o e => hidT_get (KX b o e) (by
    rcases hO b with z | ⟨ob, xs, z⟩
    · exact z
    · obtain ⟨rfl, n⟩ := hA b (by rw [z]; exact fun q => nomatch q)
      rw [n] at e
      cases e)
  obtain ⟨mc, l1, l2⟩ := hlim
  have e0 : Env0 P w K mg (hidT s1.heap H) callerA [] s1 H := {
    frames := rfl
    mod := ⟨kB, nsB hns, ⟨mb, nsB hb, hbb⟩, ⟨mc, nsB l1, l2⟩⟩
    bs := fun b o e => of_hidT e
    bsz := Nat.le_of_eq (hidT_size _ _)
    funs := trivial
    frf := fun b hb' => by cases hb'
    hok := hok
    bare := .of_eq hg }
  refine codeAny_mono (F _ kB (nsB hns) callerA [] s1 H [.ref a] [.ref a] _ _ hr rfl e0 (.cons rfl .nil) hsp) fun r s' h => ?_
  match r, h with
  | .error e, h => exact (hCX H e s' h).elim
  | .ok .next, h => exact False.elim h
  | .ok .brk, h => exact False.elim h
  | .ok .cont, h => exact False.elim h
  | .ok (.ret u), h =>
    obtain ⟨v, H', os, bare, un, hok', r', q⟩ := h
    have q' : v = .bl true := q
    subst q'
    obtain rfl : u = Value.bool true := r'
    refine ⟨rfl, OldK.of_keep fun b o e => ?_, os, bare⟩
    rcases hO b with z | ⟨ob, xs, z⟩
    · exact un.keep b o e z (fun z => by cases z) (fun z => by cases z)
    · obtain ⟨e1, _⟩ := hok b _ z
      obtain ⟨e2, _⟩ := hok' b _ (un.frzs b ob _ z)
      rw [e] at e1
      cases e1
      exact e2
theorem lawG (KX : K.In s1.heap) (hns : s1.heap.Ns mainGlobals mg) (hb : s1.heap.Ns builtinsNs mb) (hbb : ∀ x : Str, x ≠ "__name__" → mb x = bootBuiltins x) (hlim : s1.heap.NoLimit) (hg : s1.gens = #[])
    (ha : s1.heap.get? a = some { cls := .type "list", data := .seq vs.toArray }) (hi : IntsAre vs ns) (hl : ns.length ≤ sizeLine) (hr : Room k callerA) (F : ∀ base : Heap, K.In base → base.Ns mainGlobals mg → FnG P w K mg base CX k fa sp)
    (hsp : ∀ H : Hp, Only H → SqL K H a (ns.map V.int) → sp [.ref a] H (fun v _ => v = .bl true) fun _ _ _ => False) (hCX : ∀ H e s', CX [] H s1 (fun _ _ _ => False) e s' → False) : LawGoal P w fa a s1 := by
  have rv := vals_ints hi
  have lv := hi.length
  cases hk : K.lookup a with
  | some o =>
    have e := KX a o hk
    rw [ha] at e
    cases e
    exact lawG_core KX hns hb hbb hlim hg ha hr F hCX (H := fun _ => none) (fun _ => .inl rfl) (fun b u z => by cases z) (fun b z => absurd rfl z)
      (hsp _ (fun _ => .inl rfl) (.inr ⟨_, vs.toArray, _, hk, rfl, rfl, rfl, by rw [List.size_toArray, lv]; exact hl, by simpa using rv⟩))
  | none =>
    have at_ : ∀ b, (upd (fun _ => none) a (.frz { cls := .type "list", data := .seq vs.toArray } (.lst (ns.map V.int)))) b ≠ none → b = a := fun b z => by
      by_cases hb : b = a
      · exact hb
      · exact absurd (upd_ne hb) z
    have only : Only (upd (fun _ => none) a (.frz { cls := .type "list", data := .seq vs.toArray } (.lst (ns.map V.int)))) := fun b => by
      by_cases hb : b = a
      · exact .inr ⟨_, _, by rw [hb]; exact upd_same⟩
      · exact .inl (upd_ne hb)
    refine lawG_core KX hns hb hbb hlim hg ha hr F hCX only (fun b u z => ?_) (fun b z => ⟨at_ b z, hk⟩) (hsp _ only (.inl (.inr ⟨_, upd_same⟩)))
    have eb := at_ b (by rw [z]; exact fun q => nomatch q)
    subst eb
    rw [upd_same] at z
    cases z
    exact ⟨ha, by rw [List.length_map]; exact hl, vs, _, rv, ha⟩
end
theorem walk_ofG {l : PySem.W.OpenLaw} {n k : Nat} {q : Program} {loose : List Str} {XP : (Str → Option Value) → Heap → Prop} {YP : World → Heap → Prop} {d : DefRec} {K : Params → PySem.W.Frag} {sp : World → Sp}
    (hn : l.most = some n) (hn2 : n ≤ sizeLine) (hdf : d.params.defaults = []) (hr : Room k callerA) (hY : ∀ (w : World) (h : Heap), YP w h → (K w.params).In h)
    (F : ∀ (w : World) (mg : Str → Option Value) (fa : Addr) (h : Heap), (K w.params).In h → h.Ns mainGlobals mg → mg d.name = some (.ref fa) →
      ∀ base : Heap, (K w.params).In base → base.Ns mainGlobals mg → FnG l.prog w (K w.params) mg base CX0 k fa (sp w))
    (hsp : ∀ (w : World) (H : Hp) (a : Addr) (ns : List Int), ns.length ≤ n → Only H → SqL (K w.params) H a (ns.map V.int) → sp w [.ref a] H (fun v _ => v = .bl true) fun _ _ _ => False) :
    PySem.W.WalkO q loose XP YP l.row.toRowW d [] (fun f vs => PySem.call f vs) :=
  Att.attach_call hn hdf fun w _ _ mg _ fa _ _ _ _ a vs ns G Y ho hd hcd hmg hobj hints hlen hg =>
    lawG (hY w _ Y) G.T.g G.T.b G.T.builtins G.T.nolimit hg hobj hints (Nat.le_trans hlen hn2) hr (F w mg fa _ (hY w _ Y) G.T.g hmg) (fun H hO hS => hsp w H a ns hlen hO hS) fun _ _ _ z => z
/-! ### repr of data -/
mutual
/-- the value v is the datum, by the abstract heap; its repr is short enough to be told by its size -/
def Rp (H : Hp) : PyData → V → Prop
  | .none, v => v = .non
  | .bool b, v => v = .bl b
  | .int i, v => v = .int i ∧ i.natAbs.log2 < 1920
  | .str x, v => v = .str x ∧ ∀ c ∈ x.cps.toList, c < 16 ^ 8
  | .list ds, v => ∃ a xs, v = .ref a ∧ a ≠ sysModules ∧ H a = some (.lst xs) ∧ RpAll H ds xs
  | .tuple ds, v => ∃ a xs, v = .ref a ∧ H a = some (.tup xs) ∧ RpAll H ds xs
  | .dict [], v => ∃ a, v = .ref a ∧ H a = some (.dK [])
  | .dict (_ :: _), _ => False
def RpAll (H : Hp) : List PyData → List V → Prop
  | [], xs => xs = []
  | d :: ds, xs => ∃ x r, xs = x :: r ∧ Rp H d x ∧ RpAll H ds r
end
mutual
theorem Rp.ok {H : Hp} : ∀ (d : PyData) (v : V), Rp H d v → d.showable = true ∧ d.leavesShort 1921 = true
  | .none, _, _ => ⟨rfl, rfl⟩
  | .bool _, _, _ => ⟨rfl, rfl⟩
  | .int i, v, h => by
    obtain ⟨_, h⟩ := (show v = .int i ∧ i.natAbs.log2 < 1920 from h)
    exact ⟨decide_eq_true h, decide_eq_true (int_text_len_1921 h)⟩
  | .str x, v, h => by
    obtain ⟨_, h⟩ := (show v = .str x ∧ ∀ c ∈ x.cps.toList, c < 16 ^ 8 from h)
    exact ⟨rfl, List.all_eq_true.mpr fun c hc => decide_eq_true (h c hc)⟩
  | .list ds, v, h => by
    obtain ⟨_, xs, _, _, _, h⟩ := (show ∃ a xs, v = .ref a ∧ a ≠ sysModules ∧ H a = some (.lst xs) ∧ RpAll H ds xs from h)
    exact RpAll.ok ds xs h
  | .tuple ds, v, h => by
    obtain ⟨_, xs, _, _, h⟩ := (show ∃ a xs, v = .ref a ∧ H a = some (.tup xs) ∧ RpAll H ds xs from h)
    exact RpAll.ok ds xs h
  | .dict [], _, _ => ⟨rfl, rfl⟩
  | .dict (_ :: _), _, h => (show False from h).elim
theorem RpAll.ok {H : Hp} : ∀ (ds : List PyData) (xs : List V), RpAll H ds xs → PyData.showableAll ds = true ∧ PyData.leavesShortAll 1921 ds = true
  | [], _, _ => ⟨rfl, rfl⟩
  | d :: ds, xs, h => by
    obtain ⟨x, r, _, h1, h2⟩ := (show ∃ x r, xs = x :: r ∧ Rp H d x ∧ RpAll H ds r from h)
    obtain ⟨a1, a2⟩ := Rp.ok d x h1
    obtain ⟨b1, b2⟩ := RpAll.ok ds r h2
    exact ⟨by simp only [PyData.showableAll, a1, b1, Bool.and_self], by simp only [PyData.leavesShortAll, a2, b2, Bool.and_self]⟩
end
mutual
theorem Rp.keep {H H' : Hp} (s : Same H H') : ∀ (d : PyData) (v : V), Rp H d v → Rp H' d v
  | .none, _, h => h
  | .bool _, _, h => h
  | .int _, _, h => h
  | .str _, _, h => h
  | .list ds, v, h => by
    obtain ⟨a, xs, e, n, ha, h⟩ := (show ∃ a xs, v = .ref a ∧ a ≠ sysModules ∧ H a = some (.lst xs) ∧ RpAll H ds xs from h)
    exact ⟨a, xs, e, n, s _ _ ha, RpAll.keep s ds xs h⟩
  | .tuple ds, v, h => by
    obtain ⟨a, xs, e, ha, h⟩ := (show ∃ a xs, v = .ref a ∧ H a = some (.tup xs) ∧ RpAll H ds xs from h)
    exact ⟨a, xs, e, s _ _ ha, RpAll.keep s ds xs h⟩
  | .dict [], v, h => by
    obtain ⟨a, e, ha⟩ := (show ∃ a, v = .ref a ∧ H a = some (.dK []) from h)
    exact ⟨a, e, s _ _ ha⟩
  | .dict (_ :: _), _, h => (show False from h).elim
theorem RpAll.keep {H H' : Hp} (s : Same H H') : ∀ (ds : List PyData) (xs : List V), RpAll H ds xs → RpAll H' ds xs
  | [], _, h => h
  | d :: ds, xs, h => by
    obtain ⟨x, r, e, h1, h2⟩ := (show ∃ x r, xs = x :: r ∧ Rp H d x ∧ RpAll H ds r from h)
    exact ⟨x, r, e, Rp.keep s d x h1, RpAll.keep s ds r h2⟩
end
section
variable {X : Cx} {pins : List (Addr × Obj)} {σ : L2.St} {H : Hp} {s : Shared}
mutual
theorem Rp.reads (I : Inv X pins σ H s) : ∀ (d : PyData) (v : V) (u : Value), Rp H d v → RelV v u → ∃ as, Reads s.heap u d as ∧ sysModules ∉ as
  | .none, v, u, h, r => by
    obtain rfl := (show v = .non from h)
    cases r
    exact ⟨_, .none, by simp⟩
  | .bool b, v, u, h, r => by
    obtain rfl := (show v = .bl b from h)
    cases r
    exact ⟨_, .bool b, by simp⟩
  | .int i, v, u, h, r => by
    obtain ⟨rfl, _⟩ := (show v = .int i ∧ i.natAbs.log2 < 1920 from h)
    obtain ⟨t, rfl⟩ := r
    exact ⟨_, .int i t, by simp⟩
  | .str x, v, u, h, r => by
    obtain ⟨rfl, _⟩ := (show v = .str x ∧ ∀ c ∈ x.cps.toList, c < 16 ^ 8 from h)
    obtain ⟨t, rfl⟩ := r
    exact ⟨_, .str x t, by simp⟩
  | .list ds, v, u, h, r => by
    obtain ⟨a, xs, rfl, n, ha, h⟩ := (show ∃ a xs, v = .ref a ∧ a ≠ sysModules ∧ H a = some (.lst xs) ∧ RpAll H ds xs from h)
    cases r
    obtain ⟨_, its, m, rv, e⟩ := (show ObjOk X.prog X.w H s.heap a (.lst xs) from I.hok a _ ha)
    obtain ⟨as, ra, na⟩ := RpAll.reads I ds xs its h rv
    exact ⟨_, .list e rfl rfl ra, fun z => (List.mem_cons.mp z).elim (fun z => n z.symm) na⟩
  | .tuple ds, v, u, h, r => by
    obtain ⟨a, xs, rfl, ha, h⟩ := (show ∃ a xs, v = .ref a ∧ H a = some (.tup xs) ∧ RpAll H ds xs from h)
    cases r
    obtain ⟨_, its, rv, o, e, c, m, dd⟩ := (show ObjOk X.prog X.w H s.heap a (.tup xs) from I.hok a _ ha)
    obtain ⟨as, ra, na⟩ := RpAll.reads I ds xs its h rv
    exact ⟨_, .tuple e c dd ra, na⟩
  | .dict [], v, u, h, r => by
    obtain ⟨a, rfl, ha⟩ := (show ∃ a, v = .ref a ∧ H a = some (.dK []) from h)
    cases r
    obtain ⟨_, ns, vs, kv, dk⟩ := (show ObjOk X.prog X.w H s.heap a (.dK []) from I.hok a _ ha)
    cases kv
    obtain ⟨o, es, ep, e, ex, dd, _, hes, _⟩ := dk
    have e0 : es.toList = [] := by
      generalize es.toList = l at hes
      cases hes
      rfl
    refine ⟨_, .dict (kvs := []) e ex.1 dd (by rw [e0]; exact .nil) (by rw [e0]; exact .nil), fun z => ?_⟩
    have z' : sysModules = a := by simpa using z
    rw [← z'] at ns
    exact absurd ns (by decide)
  | .dict (_ :: _), _, _, h, _ => (show False from h).elim
theorem RpAll.reads (I : Inv X pins σ H s) : ∀ (ds : List PyData) (xs : List V) (us : List Value), RpAll H ds xs → Vals xs us → ∃ as, ReadsAll s.heap us ds as ∧ sysModules ∉ as
  | [], xs, us, h, r => by
    obtain rfl := (show xs = [] from h)
    cases r
    exact ⟨_, .nil, by simp⟩
  | d :: ds, xs, us, h, r => by
    obtain ⟨x, rr, rfl, h1, h2⟩ := (show ∃ x r, xs = x :: r ∧ Rp H d x ∧ RpAll H ds r from h)
    cases r with
    | cons q qs =>
      obtain ⟨as, ra, na⟩ := Rp.reads I d x _ h1 q
      obtain ⟨bs, rb, nb⟩ := RpAll.reads I ds rr _ h2 qs
      exact ⟨_, .cons ra rb, fun z => (List.mem_append.mp z).elim na nb⟩
end
end
/-- repr of a list, a tuple, a dict of data -/
def rRepr : List V → Hp → VK → Prop := fun vs H Q => ∃ (x : V) (d : PyData), vs = [x] ∧ Rp H d x ∧ d.bulk ≤ 8000 ∧ d.depth ≤ 60 ∧ Q (.str d.shown) H
theorem call_repr {X : Cx} (hq : Quiet X.A) (hu : X.A.units + 64 < cLine) : CallR X (.builtin "repr") rRepr := by
  intro pins s σ H xs us Q I r h
  obtain ⟨x, d, rfl, hd, hb, hdp, q⟩ := h
  obtain ⟨u, rfl, r1⟩ := vals1 r
  obtain ⟨k1, k2⟩ := Rp.ok d x hd
  have sz : d.shown.length ≤ sizeLine := by
    have z := PyData.shown_le_bulk 1921 (by decide) d k2
    have e : (1921 + 2) * d.bulk ≤ 1923 * 8000 := Nat.mul_le_mul_left _ hb
    rw [sizeLine_eq]
    omega
  obtain ⟨as, ra, na⟩ := Rp.reads I d x u hd r1
  have goal : ∀ a, u = .ref a → wpAny (model X.prog X.w) X.A (call (.builtin "repr") [u]) (EP X pins σ Q) X.xe s := by
    rintro a rfl
    exact repr_of_reads' ra k1 (fun _ => na) hq (by omega) (fun _ _ e => e) (fun h' t tk hk => ⟨.str d.shown, H, I.kept hk, ⟨_, rfl⟩, q⟩) sz
  match d, hd with
  | .none, hd =>
    obtain rfl := (show x = .non from hd)
    cases r1
    exact PySem.P.repr_of_none ⟨.str _, H, I.tok _, ⟨_, rfl⟩, q⟩
  | .bool b, hd =>
    obtain rfl := (show x = .bl b from hd)
    cases r1
    exact PySem.P.repr_of_bool ⟨.str _, H, I.tok _, ⟨_, rfl⟩, q⟩
  | .int i, hd =>
    obtain ⟨rfl, hi⟩ := (show x = .int i ∧ i.natAbs.log2 < 1920 from hd)
    obtain ⟨t, rfl⟩ := r1
    exact PySem.P.repr_of_int hi ⟨.str _, H, I.tok _, ⟨_, rfl⟩, q⟩
  | .str y, hd =>
    obtain ⟨rfl, _⟩ := (show x = .str y ∧ ∀ c ∈ y.cps.toList, c < 16 ^ 8 from hd)
    obtain ⟨t, rfl⟩ := r1
    exact PySem.P.repr_of_str ⟨.str _, H, I.tok _, ⟨_, rfl⟩, q⟩ sz
  | .list ds, hd =>
    obtain ⟨a, _, rfl, _⟩ := (show ∃ a xs, x = .ref a ∧ a ≠ sysModules ∧ H a = some (.lst xs) ∧ RpAll H ds xs from hd)
    exact goal a r1
  | .tuple ds, hd =>
    obtain ⟨a, _, rfl, _⟩ := (show ∃ a xs, x = .ref a ∧ H a = some (.tup xs) ∧ RpAll H ds xs from hd)
    exact goal a r1
  | .dict [], hd =>
    obtain ⟨a, rfl, _⟩ := (show ∃ a, x = .ref a ∧ H a = some (.dK []) from hd)
    exact goal a r1
  | .dict (_ :: _), hd => exact (show False from hd).elim
/-- a list display whose place is told not to be the modules' own -/
theorem pe_lstN {X : Cx} {es : List Expr} {t : TA} {pos : Pos} (h : PA X es t) : PE X (.List es pos) (fun σ H Q => t σ H fun xs H1 => xs.length ≤ sizeLine ∧ ∀ p, H1 p = none → p ≠ sysModules → Q (.ref p) (upd H1 p (.lst xs))) := by
  refine ⟨fun pins s σ H Q I hq => ?_⟩
  refine wpAny_List_spliced (thn (h.run pos pins s σ H _ I hq) fun us s1 hh => ?_)
  obtain ⟨xs, H1, I1, r, z, q⟩ := hh
  have big := I1.big
  refine ⟨by rw [← r.length]; exact z, ⟨.ref s1.heap.objs.size, _, I1.laid (t' := s1.toks) (o := .lst xs) (fun b u e => Heap.get?_push_of_some _ e) (Nat.le_refl _) ⟨z, us, 0, r, Heap.get?_push_size _ rfl⟩, rfl, q _ (I1.hok.fresh (Nat.le_refl _)) fun e => ?_⟩⟩
  rw [e] at big
  exact absurd big (Nat.lt_irrefl _)
end Ly
namespace Ly
open PySem PySem.Spec PyProof.Rows L2
/-! ### the same rules, said of the written part that a block shares with its def -/
section
variable {X : Cx} {K : PySem.W.Frag}
theorem ixL (h : X.K = K) : IxR X (rIxL K) := h ▸ ix_list
theorem ixT (h : X.K = K) : IxR X (rIxT K) := h ▸ ix_tup
theorem isiK (h : X.K = K) : CallR X (.builtin "isinstance") (rIsi K) := h ▸ call_isi
theorem inK (h : X.K = K) : OpR X (compareOp .In) (rIn K false) := h ▸ op_in_seq
theorem ninK (h : X.K = K) : OpR X (compareOp .NotIn) (rIn K true) := h ▸ op_notIn_seq
def rLenL (K : PySem.W.Frag) : List V → Hp → VK → Prop := fun xs H Q => ∃ p ys, xs = [.ref p] ∧ SqL K H p ys ∧ Q (.int ys.length) H
def rLenT (K : PySem.W.Frag) : List V → Hp → VK → Prop := fun xs H Q => ∃ p ys, xs = [.ref p] ∧ SqT K H p ys ∧ Q (.int ys.length) H
theorem lenLK (h : X.K = K) : CallR X (.builtin "len") (rLenL K) := h ▸ call_lenL
theorem lenTK (h : X.K = K) : CallR X (.builtin "len") (rLenT K) := h ▸ call_lenT
end
end Ly
namespace Ly
open PySem PySem.Spec PyProof.Rows L2
theorem sameT {K : PySem.W.Frag} {H H' : Hp} {a : Addr} {xs : List V} (e : Same H H') (h : SqT K H a xs) : SqT K H' a xs := by
  rcases h with (h | ⟨o, h⟩) | h
  · exact .inl (.inl (e _ _ h))
  · exact .inl (.inr ⟨o, e _ _ h⟩)
  · exact .inr h
/-- a loop's comprehension that maps a list's items, told at once: y = [e for x in xs] -/
theorem same_set {H H1 : Hp} {p : Addr} {o : HO} (s : Same H H1) (n : H p = none) : Same H (upd H1 p o) := fun b u e => by
  rw [upd_ne (ne_of_none e n)]
  exact s _ _ e
end Ly

set_option Elab.async false
set_option linter.all false
set_option maxRecDepth 100000
set_option maxHeartbeats 4000000
/-! cutters as plain functions: parts, what a part keeps of a row, what parts one after another keep -/
namespace Cut
inductive Part where
  | all
  | pat (f b : List Bool)
  deriving DecidableEq
/-- whether there is a plus at this index -/
def hp (l : List Bool) (i : Int) : Bool := decide (0 ≤ i) && decide (i < l.length) && l.getD i.toNat false
def kat (f b : List Bool) (n i : Nat) : Bool := hp f i || hp b ((i : Int) - ((n : Int) - b.length))
/-- the places that one part keeps of a row of n -/
def sel : Part → Nat → List Nat
  | .all, n => List.range n
  | .pat f b, n => (List.range n).filter (kat f b n)
def pick {α : Type} (p : Part) (xs : List α) : List α := (sel p xs.length).filterMap fun i => xs[i]?
def run {α : Type} (ps : List Part) (xs : List α) : List α := ps.foldl (fun l p => pick p l) xs
def places (ps : List Part) (n : Nat) : List Nat := run ps (List.range n)
def keepsAll (ps : List Part) : Bool := ps.all fun p => decide (p = .all)
def Ok : Part → Prop
  | .all => True
  | .pat f b => f.length ≤ 2 ∧ b.length ≤ 3
/-! ### rows -/
theorem get_range {α : Type} : ∀ xs : List α, (List.range xs.length).filterMap (fun i => xs[i]?) = xs
  | [] => rfl
  | x :: r => by
    rw [List.length_cons, List.range_succ_eq_map, List.filterMap_cons, List.filterMap_map]
    show x :: (List.range r.length).filterMap (fun i => r[i]?) = x :: r
    rw [get_range r]
theorem pick_all {α : Type} (xs : List α) : pick .all xs = xs := get_range xs
theorem pick_map {α β : Type} (p : Part) (g : α → β) (xs : List α) : pick p (xs.map g) = (pick p xs).map g := by
  unfold pick
  rw [List.length_map, List.map_filterMap]
  congr 1
  funext i
  rw [List.getElem?_map]
theorem run_map {α β : Type} (g : α → β) : ∀ (ps : List Part) (xs : List α), run ps (xs.map g) = (run ps xs).map g
  | [], _ => rfl
  | p :: ps, xs => by
    show run ps (pick p (xs.map g)) = (run ps (pick p xs)).map g
    rw [pick_map, run_map g ps]
theorem run_cons {α : Type} (p : Part) (ps : List Part) (xs : List α) : run (p :: ps) xs = run ps (pick p xs) := rfl
theorem run_append {α : Type} (ps qs : List Part) (xs : List α) : run (ps ++ qs) xs = run qs (run ps xs) := List.foldl_append
theorem sel_lt {p : Part} {n i : Nat} (h : i ∈ sel p n) : i < n := by
  cases p with
  | all => exact List.mem_range.mp h
  | pat f b => exact List.mem_range.mp (List.mem_filter.mp h).1
/-- the values kept are those at the kept places -/
theorem run_get {α : Type} (ps : List Part) (xs : List α) : run ps xs = (places ps xs.length).filterMap fun i => xs[i]? := by
  have key : ∀ (qs : List Part) (l : List Nat), (∀ i ∈ l, i < xs.length) → run qs (l.filterMap fun i => xs[i]?) = (run qs l).filterMap fun i => xs[i]? := by
    intro qs l hl
    cases xs with
    | nil =>
      cases l with
      | nil =>
        have e : ∀ rs : List Part, run rs ([] : List Nat) = [] := fun rs => by
          induction rs with
          | nil => rfl
          | cons p rs ih =>
            rw [run_cons]
            have e1 : pick p ([] : List Nat) = [] := by
              unfold pick
              cases p <;> rfl
            rw [e1, ih]
        have e' : ∀ rs : List Part, run rs ([] : List α) = [] := fun rs => by
          induction rs with
          | nil => rfl
          | cons p rs ih =>
            rw [run_cons]
            have e1 : pick p ([] : List α) = [] := by
              unfold pick
              cases p <;> rfl
            rw [e1, ih]
        show run qs ([] : List α) = (run qs ([] : List Nat)).filterMap fun i => ([] : List α)[i]?
        rw [e, e']
        rfl
      | cons a r => exact absurd (hl a List.mem_cons_self) (Nat.not_lt_zero _)
    | cons x r =>
      have e : ∀ l : List Nat, (∀ i ∈ l, i < (x :: r).length) → (l.filterMap fun i => (x :: r)[i]?) = l.map fun i => (x :: r).getD i x := by
        intro l
        induction l with
        | nil => intro _; rfl
        | cons a l ih =>
          intro h
          have ha := h a List.mem_cons_self
          rw [List.filterMap_cons, List.getElem?_eq_getElem ha, ih fun i hi => h i (List.mem_cons_of_mem _ hi), List.map_cons]
          rw [List.getD_eq_getElem?_getD, List.getElem?_eq_getElem ha]
          rfl
      rw [e l hl, run_map]
      refine (e _ fun i hi => ?_).symm
      -- what is kept is among what there was
      have sub : ∀ (qs : List Part) (l : List Nat), ∀ i ∈ run qs l, i ∈ l := by
        intro qs
        induction qs with
        | nil => exact fun l i h => h
        | cons p qs ih =>
          intro l i h
          have h1 := ih _ i h
          obtain ⟨j, hj, e⟩ := List.mem_filterMap.mp h1
          exact List.mem_of_getElem? e
      exact hl i (sub qs l i hi)
  have h := key ps (List.range xs.length) fun i hi => List.mem_range.mp hi
  rw [get_range] at h
  exact h
theorem run_sub {α : Type} : ∀ (ps : List Part) (xs : List α) (x : α), x ∈ run ps xs → x ∈ xs
  | [], _, _, h => h
  | p :: ps, xs, x, h => by
    have h1 := run_sub ps _ x h
    obtain ⟨j, _, e⟩ := List.mem_filterMap.mp h1
    exact List.mem_of_getElem? e
theorem places_lt {ps : List Part} {n i : Nat} (h : i ∈ places ps n) : i < n := List.mem_range.mp (run_sub ps _ i h)
theorem pick_len {α : Type} (p : Part) (xs : List α) : (pick p xs).length ≤ xs.length := by
  refine Nat.le_trans (List.length_filterMap_le _ _) ?_
  cases p with
  | all => exact Nat.le_of_eq List.length_range
  | pat f b => exact Nat.le_trans (List.length_filter_le _ _) (Nat.le_of_eq List.length_range)
theorem run_len {α : Type} : ∀ (ps : List Part) (xs : List α), (run ps xs).length ≤ xs.length
  | [], _ => Nat.le_refl _
  | p :: ps, xs => Nat.le_trans (run_len ps _) (pick_len p xs)
theorem places_len (ps : List Part) (n : Nat) : (places ps n).length ≤ n := Nat.le_trans (run_len ps _) (Nat.le_of_eq List.length_range)
theorem run_all {α : Type} : ∀ (ps : List Part) (xs : List α), keepsAll ps = true → run ps xs = xs
  | [], _, _ => rfl
  | p :: ps, xs, h => by
    have h' : (decide (p = .all) && keepsAll ps) = true := h
    rw [Bool.and_eq_true] at h'
    have e := of_decide_eq_true h'.1
    rw [e, run_cons, pick_all]
    exact run_all ps xs h'.2
/-! ### five and more places -/
/-- where the five places that patterns speak of stand in a row of n -/
def emb (n i : Nat) : Nat := if i < 2 then i else i + (n - 5)
theorem hp_neg {l : List Bool} {i : Int} (h : i < 0) : hp l i = false := by
  unfold hp
  rw [decide_eq_false (by omega)]
  rfl
theorem hp_out {l : List Bool} {i : Int} (h : (l.length : Int) ≤ i) : hp l i = false := by
  unfold hp
  rw [decide_eq_false (show ¬ i < (l.length : Int) by omega), Bool.and_false]
  rfl
theorem kat_mid {f b : List Bool} (hf : f.length ≤ 2) (hb : b.length ≤ 3) {n i : Nat} (h2 : 2 ≤ i) (h3 : i + 3 < n) : kat f b n i = false := by
  unfold kat
  rw [hp_out (by omega), hp_neg (by omega)]
  rfl
theorem kat_emb {f b : List Bool} (hf : f.length ≤ 2) (hb : b.length ≤ 3) {n i : Nat} (hn : 5 ≤ n) (hi : i < 5) : kat f b n (emb n i) = kat f b 5 i := by
  unfold kat emb
  by_cases h : i < 2
  · rw [if_pos h, hp_neg (l := b) (by omega), hp_neg (l := b) (by omega)]
  · rw [if_neg h, hp_out (l := f) (by omega), hp_out (l := f) (by omega)]
    congr 2
    omega
theorem range_five (m : Nat) : List.range (m + 5) = [0, 1] ++ ((List.range m).map (· + 2) ++ [m + 2, m + 3, m + 4]) := by
  rw [show m + 5 = 2 + (m + 3) by omega, List.range_add, List.range_add]
  congr 1
  rw [List.map_append]
  congr 1
  · exact List.map_congr_left fun i _ => Nat.add_comm 2 i
  · show [2 + (m + 0), 2 + (m + 1), 2 + (m + 2)] = _
    rw [show 2 + (m + 0) = m + 2 by omega, show 2 + (m + 1) = m + 3 by omega, show 2 + (m + 2) = m + 4 by omega]
theorem sel_five {f b : List Bool} (hf : f.length ≤ 2) (hb : b.length ≤ 3) {n : Nat} (hn : 5 ≤ n) : sel (.pat f b) n = (sel (.pat f b) 5).map (emb n) := by
  obtain ⟨m, rfl⟩ : ∃ m, n = m + 5 := ⟨n - 5, by omega⟩
  show (List.range (m + 5)).filter (kat f b (m + 5)) = ((List.range 5).filter (kat f b 5)).map (emb (m + 5))
  have mid : ((List.range m).map (· + 2)).filter (kat f b (m + 5)) = [] := by
    rw [List.filter_eq_nil_iff]
    intro i hi
    obtain ⟨j, hj, rfl⟩ := List.mem_map.mp hi
    have := List.mem_range.mp hj
    rw [kat_mid hf hb (by omega) (by omega)]
    exact Bool.false_ne_true
  rw [range_five, List.filter_append, List.filter_append, mid, List.nil_append, ← List.filter_append]
  have e : ([0, 1] ++ [m + 2, m + 3, m + 4] : List Nat) = (List.range 5).map (emb (m + 5)) := by
    show [0, 1, m + 2, m + 3, m + 4] = [emb (m + 5) 0, emb (m + 5) 1, emb (m + 5) 2, emb (m + 5) 3, emb (m + 5) 4]
    unfold emb
    rw [if_pos (by decide), if_pos (by decide), if_neg (by decide), if_neg (by decide), if_neg (by decide)]
    rw [show 2 + (m + 5 - 5) = m + 2 by omega, show 3 + (m + 5 - 5) = m + 3 by omega, show 4 + (m + 5 - 5) = m + 4 by omega]
  rw [e, List.filter_map]
  congr 1
  refine List.filter_congr fun i hi => ?_
  exact kat_emb hf hb hn (List.mem_range.mp hi)
theorem pick_five {f b : List Bool} (hf : f.length ≤ 2) (hb : b.length ≤ 3) {n : Nat} (hn : 5 ≤ n) : pick (.pat f b) (List.range n) = (pick (.pat f b) (List.range 5)).map (emb n) := by
  have e : ∀ k : Nat, pick (.pat f b) (List.range k) = sel (.pat f b) k := fun k => by
    unfold pick
    rw [List.length_range]
    have : ∀ l : List Nat, (∀ i ∈ l, i < k) → l.filterMap (fun i => (List.range k)[i]?) = l := by
      intro l
      induction l with
      | nil => intro _; rfl
      | cons a l ih =>
        intro h
        have ha := h a List.mem_cons_self
        rw [List.filterMap_cons, List.getElem?_eq_getElem (by rw [List.length_range]; exact ha), List.getElem_range, ih fun i hi => h i (List.mem_cons_of_mem _ hi)]
    exact this _ fun i hi => sel_lt hi
  rw [e, e, sel_five hf hb hn]
theorem places_five : ∀ (ps : List Part), (∀ p ∈ ps, Ok p) → keepsAll ps = false → ∀ n, 5 ≤ n → places ps n = (places ps 5).map (emb n)
  | [], _, h, _, _ => by cases h
  | .all :: ps, hok, h, n, hn => by
    show run ps (pick .all (List.range n)) = (run ps (pick .all (List.range 5))).map (emb n)
    rw [pick_all, pick_all]
    exact places_five ps (fun p hp => hok p (List.mem_cons_of_mem _ hp)) h n hn
  | .pat f b :: ps, hok, _, n, hn => by
    obtain ⟨hf, hb⟩ := (show f.length ≤ 2 ∧ b.length ≤ 3 from hok _ List.mem_cons_self)
    show run ps (pick (.pat f b) (List.range n)) = (run ps (pick (.pat f b) (List.range 5))).map (emb n)
    rw [pick_five hf hb hn, run_map]
theorem places_le5 {ps : List Part} (hok : ∀ p ∈ ps, Ok p) (h : keepsAll ps = false) (n : Nat) : (places ps n).length ≤ 5 := by
  by_cases hn : 5 ≤ n
  · rw [places_five ps hok h n hn, List.length_map]
    exact Nat.le_trans (run_len ps _) (Nat.le_of_eq List.length_range)
  · refine Nat.le_trans (run_len ps _) ?_
    rw [List.length_range]
    omega
end Cut

set_option Elab.async false
set_option linter.all false
set_option maxRecDepth 100000
set_option maxHeartbeats 4000000
/-! texts of parts -/
namespace Cut
open PySem PySem.Spec PyProof.Rows L2 Ly
def sgn (b : Bool) : Nat := if b then 43 else 45
def sT (l : List Bool) : Str := ⟨(l.map sgn).toArray⟩
def Part.text : Part → Str
  | .all => "all"
  | .pat f b => sT f ++ ".." ++ sT b
def fronts : List (List Bool) := [[], [true], [false], [true, true], [true, false], [false, true], [false, false]]
def backs : List (List Bool) := fronts ++ [[true, true, true], [true, true, false], [true, false, true], [true, false, false], [false, true, true], [false, true, false], [false, false, true], [false, false, false]]
theorem mem_fronts : ∀ f : List Bool, f.length ≤ 2 → f ∈ fronts
  | [], _ => by decide
  | [a], _ => by cases a <;> decide
  | [a, b], _ => by cases a <;> cases b <;> decide
  | _ :: _ :: _ :: r, h => by
    simp only [List.length_cons] at h
    omega
theorem mem_backs : ∀ f : List Bool, f.length ≤ 3 → f ∈ backs
  | [], _ => by decide
  | [a], _ => by cases a <;> decide
  | [a, b], _ => by cases a <;> cases b <;> decide
  | [a, b, c], _ => by cases a <;> cases b <;> cases c <;> decide
  | _ :: _ :: _ :: _ :: r, h => by
    simp only [List.length_cons] at h
    omega
def facts (f b : List Bool) : Bool :=
  decide (Txt.partition (Part.pat f b).text ".." = (sT f, (".." : Str), sT b)) && decide (Txt.split (Part.pat f b).text ".." = [sT f, sT b]) && !decide ((Part.pat f b).text = "all") && decide ((Part.pat f b).text.length ≤ 10) &&
  (Part.pat f b).text.cps.toList.all fun c => decide (c = 43 ∨ c = 45 ∨ c = 46)
theorem all_facts : (fronts.all fun f => backs.all fun b => facts f b) = true := by decide +kernel
structure Facts (f b : List Bool) : Prop where
  part : Txt.partition (Part.pat f b).text ".." = (sT f, (".." : Str), sT b)
  spl : Txt.split (Part.pat f b).text ".." = [sT f, sT b]
  ne : (Part.pat f b).text ≠ "all"
  len : (Part.pat f b).text.length ≤ 10
  cs : ∀ c ∈ (Part.pat f b).text.cps.toList, c = 43 ∨ c = 45 ∨ c = 46
theorem pat_facts {f b : List Bool} (h : Ok (.pat f b)) : Facts f b := by
  obtain ⟨hf, hb⟩ := (show f.length ≤ 2 ∧ b.length ≤ 3 from h)
  have z := List.all_eq_true.mp (List.all_eq_true.mp all_facts f (mem_fronts f hf)) b (mem_backs b hb)
  unfold facts at z
  simp only [Bool.and_eq_true, decide_eq_true_eq, Bool.not_eq_true', decide_eq_false_iff_not, List.all_eq_true] at z
  obtain ⟨⟨⟨⟨z1, z2⟩, z3⟩, z4⟩, z5⟩ := z
  exact ⟨z1, z2, z3, z4, z5⟩
theorem text_len {p : Part} (h : Ok p) : p.text.length ≤ 10 := by
  cases p with
  | all => decide +kernel
  | pat f b => exact (pat_facts h).len
theorem text_cs {p : Part} (h : Ok p) : ∀ c ∈ p.text.cps.toList, c < 16 ^ 8 := by
  cases p with
  | all => decide +kernel
  | pat f b =>
    intro c hc
    rcases (pat_facts h).cs c hc with e | e | e <;> rw [e] <;> decide
theorem text_all {p : Part} (h : Ok p) : decide (p.text = "all") = decide (p = .all) := by
  cases p with
  | all =>
    show decide ((Str.ofString "all" : Str) = Str.ofString "all") = decide (Part.all = Part.all)
    rw [decide_eq_true rfl, decide_eq_true rfl]
  | pat f b => rw [decide_eq_false (pat_facts h).ne, decide_eq_false (fun z => by cases z)]
theorem sT_len (l : List Bool) : (sT l).length = l.length := by
  show ((l.map sgn).toArray).size = l.length
  simp
theorem sT_get {l : List Bool} {i : Nat} (h : i < l.length) : (sT l).cps.toList[i]? = some (sgn (l.getD i false)) := by
  show ((l.map sgn).toArray).toList[i]? = _
  rw [List.getD_eq_getElem?_getD, List.getElem?_eq_getElem h]
  simp [h]
theorem sgn_plus (b : Bool) : decide ((⟨#[sgn b]⟩ : Str) = "+") = b := by cases b <;> decide +kernel
theorem sT_sign {l : List Bool} {c : Nat} (h : c ∈ (sT l).cps.toList) : c = 43 ∨ c = 45 := by
  have h' : c ∈ l.map sgn := by
    have e : (sT l).cps.toList = l.map sgn := by
      show ((l.map sgn).toArray).toList = _
      simp
    rw [e] at h
    exact h
  obtain ⟨b, _, rfl⟩ := List.mem_map.mp h'
  cases b
  · exact .inr rfl
  · exact .inl rfl
/-- list(range(n)) as values -/
def iV (l : List Nat) : List V := l.map fun (i : Nat) => V.int (i : Int)
theorem rgV_iV (n : Nat) : rgV 0 (n : Int) = iV (List.range n) := by
  unfold rgV iV
  rw [show ((n : Int) - 0).toNat = n by omega]
  exact List.map_congr_left fun i _ => by rw [Int.zero_add]
theorem iV_len (l : List Nat) : (iV l).length = l.length := List.length_map _
theorem iV_get {l : List Nat} {i x : Nat} (h : l[i]? = some x) : (iV l)[i]? = some (.int (x : Int)) := by
  unfold iV
  rw [List.getElem?_map, h]
  rfl
section
variable {X : Cx} {x : Str} {pos : Pos}
theorem pe_gI {n : Int} (hg : Gl X x) (h : ∃ t, X.mg x = some (.int n t)) (hd : (x == ("__debug__" : Str)) = false := by decide) : PE X (.Name x pos) (tC (.int n)) := by
  obtain ⟨t, h⟩ := h
  exact pe_glob hg h ⟨t, rfl⟩ hd
theorem pe_gS {z : Str} (hg : Gl X x) (h : ∃ t, X.mg x = some (.str z t)) (hd : (x == ("__debug__" : Str)) = false := by decide) : PE X (.Name x pos) (tC (.str z)) := by
  obtain ⟨t, h⟩ := h
  exact pe_glob hg h ⟨t, rfl⟩ hd
end
/-- the parts of a cutter as values -/
def pV (ps : List Part) : List V := ps.map fun p => V.str p.text
end Cut

set_option Elab.async false
set_option linter.all false
set_option maxRecDepth 100000
set_option maxHeartbeats 8000000
namespace K05
open PySem PySem.Spec PyProof.Rows L2 Ly Cut

def topS (i : Nat) : Stmt := PySem.Challenge.pw_namedabove_k05_errors_of_cutters.main.body.getD i (.Pass ⟨0, 0, 0, 0⟩)
structure Zs (mg : Str → Option Value) : Prop where
  z_len : mg "len" = none
  z_int : mg "int" = none
  z_abs : mg "abs" = none
  z_max : mg "max" = none
  z_min : mg "min" = none
  z_range : mg "range" = none
  z_all : mg "all" = none
  z_isinstance : mg "isinstance" = none
  z_str : mg "str" = none
  z_repr : mg "repr" = none
  z_bool : mg "bool" = none
  z_list : mg "list" = none
  z_tuple : mg "tuple" = none
  z_enumerate : mg "enumerate" = none
  z_zip : mg "zip" = none
  z_dict : mg "dict" = none
  g_MAX_PARTS : ∃ t, mg "MAX_PARTS" = some (.int 4 t)
  g_MAX_ROW : ∃ t, mg "MAX_ROW" = some (.int 1000 t)
  g_KEEP_ALL : ∃ t, mg "KEEP_ALL" = some (.str "all" t)
  g_DOTS : ∃ t, mg "DOTS" = some (.str ".." t)
  g_MAX_FRONT : ∃ t, mg "MAX_FRONT" = some (.int 2 t)
  g_MAX_BACK : ∃ t, mg "MAX_BACK" = some (.int 3 t)
  g_REACH : ∃ t, mg "REACH" = some (.int 5 t)
abbrev s_has_plus : Stmt := topS 20
abbrev N_has_plus : List Str := ["signs", "at"]
abbrev P_has_plus : List Str := ["signs", "at"]
theorem sc_has_plus : FnScope N_has_plus P_has_plus (defScope s_has_plus) := ⟨rfl, rfl, rfl, by decide +kernel, rfl, by decide +kernel, by decide +kernel⟩

abbrev s_part_places : Stmt := topS 21
abbrev N_part_places : List Str := ["part", "many", "front", "_", "back", "ahead", "at"]
abbrev P_part_places : List Str := ["part", "many"]
theorem sc_part_places : FnScope N_part_places P_part_places (defScope s_part_places) := ⟨rfl, rfl, rfl, by decide +kernel, rfl, by decide +kernel, by decide +kernel⟩

abbrev s_kept_places : Stmt := topS 22
abbrev N_kept_places : List Str := ["parts", "many", "places", "part", "at"]
abbrev P_kept_places : List Str := ["parts", "many"]
theorem sc_kept_places : FnScope N_kept_places P_kept_places (defScope s_kept_places) := ⟨rfl, rfl, rfl, by decide +kernel, rfl, by decide +kernel, by decide +kernel⟩

abbrev s_table_of : Stmt := topS 24
abbrev N_table_of : List Str := ["parts", "many"]
abbrev P_table_of : List Str := ["parts"]
theorem sc_table_of : FnScope N_table_of P_table_of (defScope s_table_of) := ⟨rfl, rfl, rfl, by decide +kernel, rfl, by decide +kernel, by decide +kernel⟩

abbrev s_is_part : Stmt := topS 18
abbrev N_is_part : List Str := ["value", "front", "dots", "back", "sign"]
abbrev P_is_part : List Str := ["value"]
theorem sc_is_part : FnScope N_is_part P_is_part (defScope s_is_part) := ⟨rfl, rfl, rfl, by decide +kernel, rfl, by decide +kernel, by decide +kernel⟩

abbrev s_check_parts : Stmt := topS 19
abbrev N_check_parts : List Str := ["parts", "at", "part"]
abbrev P_check_parts : List Str := ["parts"]
theorem sc_check_parts : FnScope N_check_parts P_check_parts (defScope s_check_parts) := ⟨rfl, rfl, rfl, by decide +kernel, rfl, by decide +kernel, by decide +kernel⟩

section
variable {P : Program} {w : World} {K : PySem.W.Frag} {mg : Str → Option Value} {base : Heap} {f : Addr} {fd : FuncData}
def spPlus : Sp := fun vs H Q _ => ∃ (l : List Bool) (i : Int), vs = [.str (sT l), .int i] ∧ l.length ≤ 3 ∧ Q (.bl (hp l i)) H
def spPlaces : Sp := fun vs H Q _ => ∃ (p : Part) (n : Nat), vs = [.str p.text, .int n] ∧ Ok p ∧ n ≤ 1001 ∧ ∀ H' q, Same H H' → H q = none → H' q = some (.lst (iV (sel p n))) → Q (.ref q) H'
def spKept (K : PySem.W.Frag) : Sp := fun vs H Q _ => ∃ (a : Addr) (ps : List Part) (n : Nat), vs = [.ref a, .int n] ∧ SqT K H a (pV ps) ∧ (∀ p ∈ ps, Ok p) ∧ n ≤ 1001 ∧
  ∀ H' q, Same H H' → H q = none → H' q = some (.tup (iV (Cut.places ps n))) → Q (.ref q) H'
theorem ok_plus (Z : Zs mg) (D : Df K mg "has_plus" s_has_plus P_has_plus f fd) : FnOk P w K mg base CX0 1 f fd P_has_plus spPlus := by
  refine D.F.ok sc_has_plus (fun vs H Q E h => ?_) (fun cdv A outer s H vs Q E hr h => ?_)
  · obtain ⟨l, i, rfl, _⟩ := h
    rfl
  · obtain ⟨l, i, rfl, hl, q⟩ := h
    have nd := sc_has_plus.nd
    refine ⟨_,
    (pss_one
    (ps_ret (pe_and (pe_chain op_le op_lt pe_int (pv 1) (pe_callB call_len_str (by rfl) Z.z_len (by decide +kernel) (pa_cons (pv 0) pa_nil))) (pe_one (pe_cmpR op_eq (pe_ix ix_str (pv 0) (pv 1) (fun _ _ => rfl)) pe_str (nomark _)))))), ?_⟩
    have hz : (sT l).length ≤ sizeLine := by rw [sT_len]; exact sz1000 (by omega)
    refine ⟨_, rfl, _, _, rfl, rfl, _, rfl, ?_⟩
    by_cases h0 : 0 ≤ i
    · refine ifT (decide_eq_true h0) ⟨_, rfl, sT l, rfl, hz, _, _, rfl, rfl, _, rfl, ?_⟩
      rw [sT_len]
      by_cases h1 : i < (l.length : Int)
      · refine ifT (decide_eq_true h1) ⟨_, rfl, _, rfl, sT l, i, sgn (l.getD i.toNat false), rfl, rfl, hz, at_nat h0 (sT_get (by omega)), rfl, ?_⟩
        have e : hp l i = decide ((V.str ⟨#[sgn (l.getD i.toNat false)]⟩) = V.str "+") := by
          unfold hp
          rw [decide_eq_true h0, decide_eq_true h1, Bool.true_and, Bool.true_and]
          refine (sgn_plus (l.getD i.toNat false)).symm.trans ?_
          rw [decide_eq_decide]
          exact ⟨fun h => congrArg V.str h, fun h => V.str.inj h⟩
        rw [e] at q
        exact q
      · refine ifF (decide_eq_false h1) ?_
        rw [hp_out (by omega)] at q
        exact q
    · refine ifF (decide_eq_false h0) ⟨_, rfl, ?_⟩
      rw [hp_neg (by omega)] at q
      exact q

theorem ok_places (Z : Zs mg) (D : Df K mg "part_places" s_part_places P_part_places f fd) {fp : Addr} {dp : FuncData} (D_has_plus : Cl P w K mg base "has_plus" 1 fp dp P_has_plus spPlus) : FnOk P w K mg base CX0 2 f fd P_part_places spPlaces := by
  refine D.F.ok sc_part_places (fun vs H Q E h => ?_) (fun cdv A outer s H vs Q E hr h => ?_)
  · obtain ⟨p, n, rfl, _⟩ := h
    rfl
  · obtain ⟨p, n, rfl, hok, hn, q⟩ := h
    have nd := sc_part_places.nd
    refine ⟨_,
    (pss_cons
    (ps_if (pt_cmpR op_eq (pv 0) (pe_gS rfl Z.g_KEEP_ALL) (nomark _))
      (pss_one
      (ps_ret (pe_listRg rfl (by rfl) Z.z_list (prg_1 (by rfl) Z.z_range (pv 1)))))
      pss_nil)
    (pss_cons
    (ps_asg (pe_partition (pv 0) (pe_gS rfl Z.g_DOTS)) (pg_tup rfl (pgs_cons (pg_name (i := 2) nd rfl (Or.inr rfl)) (pgs_cons (pg_name (i := 3) nd rfl (Or.inl rfl)) (pgs_cons (pg_name (i := 4) nd rfl (Or.inr rfl)) pgs_nil)))))
    (pss_cons
    (ps_set (i := 5) nd rfl (Or.inr rfl) (pe_op op_sub (pv 1) (pe_callB call_len_str (by rfl) Z.z_len (by decide +kernel) (pa_cons (pv 4) pa_nil))))
    (pss_one
    (ps_ret (pe_lc (own := [("at", 6)]) (g := gName 6) rfl nd (pi_range1 (by rfl) Z.z_range (pa_cons (pv 1) pa_nil)) (blkOk_by (N := N_part_places) (sc := defScope s_part_places) (by decide +kernel)) (fun _ _ _ _ _ => (pg_name (i := 6) nd rfl (Or.inl rfl))) (fun _ _ _ _ _ => (pts_one (PW.pt (pw_or (pt_val (pe_call D_has_plus.ok (hr.mono (by decide)) (by rfl) D_has_plus.g D_has_plus.kp D_has_plus.b .nil pass0 (pa_cons (pv 2) (pa_cons (pv 6) pa_nil)))) (pw_or1 (pt_val (pe_call D_has_plus.ok (hr.mono (by decide)) (by rfl) D_has_plus.g D_has_plus.kp D_has_plus.b .nil pass0 (pa_cons (pv 4) (pa_cons (pe_op op_sub (pv 6) (pv 5)) pa_nil))))))))) (fun _ _ _ _ _ => (pv 6)))))))), ?_⟩
    refine ⟨_, rfl, rfl, _, rfl, ?_⟩
    cases p with
    | all =>
      refine ifT (decide_eq_true rfl) ⟨_, rfl, n, rfl, .of_le (by decide) (by omega) (by decide) (by omega), fun a na => ?_⟩
      refine q _ a (same_new na) na ?_
      rw [upd_same, rgV_iV]
      rfl
    | pat f b =>
      have F := pat_facts hok
      obtain ⟨hf, hb⟩ := (show f.length ≤ 2 ∧ b.length ≤ 3 from hok)
      refine ifF (decide_eq_false fun z => F.ne (V.str.inj z)) ?_
      dsimp only [tNext]
      refine ⟨_, rfl, ⟨_, rfl⟩, _, _, rfl, rfl, by decide +kernel, sz1000 (Nat.lt_of_le_of_lt F.len (by decide)), fun a na => ?_⟩
      rw [F.part]
      refine ⟨a, _, rfl, .of upd_same, rfl, _, _, rfl, _, _, rfl, _, _, rfl, rfl, ?_⟩
      refine ⟨_, rfl, _, rfl, sT b, rfl, by rw [sT_len]; exact sz1000 (by omega), _, _, rfl, rfl, ?_⟩
      rw [sT_len]
      have s1 := same_new (o := .tup [V.str (sT f), .str ".." , .str (sT b)]) na
      generalize upd H a _ = H1 at s1 ⊢
      refine ⟨_, rfl, n, rfl, by omega, by omega, fun D9 nD => ?_⟩
      refine lc_range (lo := 0) (n := (n : Int).toNat) (fun i H' => Same H1 H' ∧ H' D9 = some (.lst (iV ((List.range i).filter (kat f b n))))) ⟨same_new nD, upd_same⟩ (fun i H' hi hP => ?_) (fun H' hP => ?_)
      · obtain ⟨s2, hd⟩ := hP
        have hcond : hp f (0 + (i : Int)) = hp f i := by rw [Int.zero_add]
        have hcond2 : hp b (0 + (i : Int) - ((n : Int) - b.length)) = hp b ((i : Int) - ((n : Int) - b.length)) := by rw [Int.zero_add]
        have fin1 : kat f b n i = true → ∃ acc, H' D9 = some (.lst acc) ∧ acc.length < sizeLine ∧ Same H1 (upd H' D9 (.lst (acc ++ [.int (0 + (i : Int))]))) ∧ (upd H' D9 (.lst (acc ++ [.int (0 + (i : Int))]))) D9 = some (.lst (iV ((List.range (i + 1)).filter (kat f b n)))) := fun hc => by
          refine ⟨_, hd, ?_, fun p o e => ?_, ?_⟩
          · rw [iV_len]
            refine small1000 (Nat.le_trans (List.length_filter_le _ _) ?_)
            rw [List.length_range]
            omega
          · rw [upd_ne (ne_of_none e nD)]
            exact s2 _ _ e
          · rw [upd_same, List.range_succ, List.filter_append, Int.zero_add]
            have e1 : [i].filter (kat f b n) = [i] := by rw [List.filter_cons, hc]; rfl
            rw [e1]
            unfold iV
            rw [List.map_append]
            rfl
        have fin0 : kat f b n i = false → Same H1 H' ∧ H' D9 = some (.lst (iV ((List.range (i + 1)).filter (kat f b n)))) := fun hc => by
          refine ⟨s2, ?_⟩
          rw [List.range_succ, List.filter_append]
          have e1 : [i].filter (kat f b n) = [] := by rw [List.filter_cons, hc]; rfl
          rw [e1, List.append_nil]
          exact hd
        refine ⟨rfl, _, rfl, _, rfl, f, _, rfl, by omega, _, rfl, ?_⟩
        rw [hcond]
        by_cases h1 : hp f i = true
        · refine ifT h1 (ifT rfl ⟨_, rfl, fin1 ?_⟩)
          unfold kat
          rw [h1, Bool.true_or]
        · have h1' := eq_false_of_ne_true h1
          refine ifF h1' ⟨_, rfl, _, rfl, _, rfl, _, _, rfl, rfl, b, _, rfl, by omega, _, rfl, ?_⟩
          rw [hcond2]
          have ec : kat f b n i = hp b ((i : Int) - ((n : Int) - b.length)) := by
            unfold kat
            rw [h1', Bool.false_or]
          by_cases h2 : hp b ((i : Int) - ((n : Int) - b.length)) = true
          · exact ifT h2 ⟨_, rfl, fin1 (ec.trans h2)⟩
          · have h2' := eq_false_of_ne_true h2
            exact ifF h2' (fin0 (ec.trans h2'))
      · obtain ⟨s2, hd⟩ := hP
        refine q _ _ (s1.trans s2) (s1.free nD) ?_
        rw [hd]
        rfl

theorem ok_kept (Z : Zs mg) (D : Df K mg "kept_places" s_kept_places P_kept_places f fd) {fp : Addr} {dp : FuncData} (D_part_places : Cl P w K mg base "part_places" 2 fp dp P_part_places spPlaces) : FnOk P w K mg base CX0 3 f fd P_kept_places (spKept K) := by
  refine D.F.ok sc_kept_places (fun vs H Q E h => ?_) (fun cdv A outer s H vs Q E hr h => ?_)
  · obtain ⟨a, ps, n, rfl, _⟩ := h
    rfl
  · obtain ⟨a, ps, n, rfl, hS, hok, hn, q⟩ := h
    have nd := sc_kept_places.nd
    refine ⟨_,
    (pss_cons
    (ps_set (i := 2) nd rfl (Or.inr rfl) (pe_listRg rfl (by rfl) Z.z_list (prg_1 (by rfl) Z.z_range (pv 1))))
    (pss_cons
    (ps_for PassesOwn.never rfl (pi_tup (pv 0)) (pg_name (i := 3) nd rfl (Or.inl rfl))
      (pss_one
      (ps_set (i := 2) nd rfl (Or.inr rfl) (pe_lc (own := [("at", 4)]) (g := gName 4) (tt := tYes) rfl nd (pi_list (pe_call D_part_places.ok (hr.mono (by decide)) (by rfl) D_part_places.g D_part_places.kp D_part_places.b .nil pass0 (pa_cons (pv 3) (pa_cons (pe_callB call_lenL (by rfl) Z.z_len (by decide +kernel) (pa_cons (pv 2) pa_nil)) pa_nil)))) (blkOk_by (N := N_kept_places) (sc := defScope s_kept_places) (by decide +kernel)) (fun _ _ _ _ _ => (pg_name (i := 4) nd rfl (Or.inl rfl))) (fun _ _ _ _ _ => pts_nil) (fun _ _ _ _ _ => (pe_ix (ixL (K := K) rfl) (pv 2) (pv 4) (fun _ _ => rfl)))))))
    (pss_one
    (ps_ret (pe_callTy call_tuple_of (by rfl) Z.z_tuple (by decide +kernel) (pa_cons (pv 2) pa_nil)))))), ?_⟩
    refine ⟨_, rfl, n, rfl, .of_le (by decide) (by omega) (by decide) (by omega), fun p np => ?_⟩
    rw [rgV_iV]
    have s1 := same_new (o := .lst (iV (List.range n))) np
    refine ⟨_, rfl, a, rfl, ⟨_, sameT s1 hS⟩, ?_⟩
    refine for_tup (xs := pV ps) (fun i σ' H' => Same H H' ∧ ∃ (l : Addr) (x3 x4 : Option V), σ' = [some (.ref a), some (.int n), some (.ref l), x3, x4] ∧ H l = none ∧ H' l = some (.lst (iV (run (ps.take i) (List.range n)))))
      ⟨s1, p, none, none, rfl, np, upd_same⟩ (fun i σ' H' _ hP => sameT hP.1 hS) (fun i x σ' H1 hx hP => ?_) (fun σ' H1 hP => ?_)
    · obtain ⟨s2, l, x3, x4, rfl, nl, hl⟩ := hP
      obtain ⟨pt, hpt, rfl⟩ : ∃ pt, ps[i]? = some pt ∧ x = V.str pt.text := by
        have hx' : (ps.map fun p => V.str p.text)[i]? = some x := hx
        rw [List.getElem?_map] at hx'
        cases e : ps[i]? with
        | none => rw [e] at hx'; cases hx'
        | some pt =>
          rw [e] at hx'
          exact ⟨pt, rfl, (Option.some.inj hx').symm⟩
      have hokp := hok pt (List.mem_of_getElem? hpt)
      generalize hrow : run (ps.take i) (List.range n) = row at hl
      have hrl : row.length ≤ n := by
        rw [← hrow]
        exact Nat.le_trans (run_len _ _) (Nat.le_of_eq List.length_range)
      have hnext : run (ps.take (i + 1)) (List.range n) = pick pt row := by
        rw [List.take_add_one, hpt, ← hrow]
        exact run_append _ _ _
      refine ⟨_, rfl, _, rfl, l, _, rfl, .of hl, pt, (iV row).length, rfl, hokp, by rw [iV_len]; omega, fun H2 q2 s3 nq hq2 => ?_⟩
      rw [iV_len] at hq2
      refine ⟨q2, rfl, ⟨_, .of hq2⟩, fun D9 nD => ?_⟩
      have hl2 := s3 _ _ hl
      have selt : ∀ j ∈ sel pt row.length, j < row.length := fun j hj => sel_lt hj
      refine lc_list (xs := iV (sel pt row.length)) (fun j H' => Same H2 H' ∧ H' D9 = some (.lst (iV (((sel pt row.length).take j).filterMap fun i => row[i]?))))
        ⟨same_new nD, upd_same⟩ (fun j H' _ hQ => .of (hQ.1 _ _ hq2)) (fun j y H' hy hQ => ?_) (fun H' hQ => ?_)
      · obtain ⟨s4, hd⟩ := hQ
        obtain ⟨m, hm, rfl⟩ : ∃ m, (sel pt row.length)[j]? = some m ∧ y = V.int (m : Int) := by
          have hy' : ((sel pt row.length).map fun (i : Nat) => V.int (i : Int))[j]? = some y := hy
          rw [List.getElem?_map] at hy'
          cases e : (sel pt row.length)[j]? with
          | none => rw [e] at hy'; cases hy'
          | some m =>
            rw [e] at hy'
            exact ⟨m, rfl, (Option.some.inj hy').symm⟩
        have hm2 := selt m (List.mem_of_getElem? hm)
        refine ⟨rfl, _, rfl, _, rfl, l, iV row, (m : Int), .int (row[m] : Int), rfl, rfl, .of (s4 _ _ hl2), atI_nat (iV_get (List.getElem?_eq_getElem hm2)), _, hd, ?_, same_set s4 nD, ?_⟩
        · rw [iV_len]
          refine small1000 (Nat.le_trans (List.length_filterMap_le _ _) ?_)
          rw [List.length_take]
          have h1 := List.getElem?_eq_some_iff.mp hm
          obtain ⟨h1, _⟩ := h1
          have : (sel pt row.length).length ≤ row.length := by
            cases pt with
            | all => exact Nat.le_of_eq List.length_range
            | pat f b => exact Nat.le_trans (List.length_filter_le _ _) (Nat.le_of_eq List.length_range)
          omega
        · rw [upd_same, List.take_add_one, hm, List.filterMap_append]
          have e1 : (some m).toList.filterMap (fun i => row[i]?) = [row[m]] := by
            show [m].filterMap (fun i => row[i]?) = [row[m]]
            rw [List.filterMap_cons, List.getElem?_eq_getElem hm2]
            rfl
          rw [e1]
          unfold iV
          rw [List.map_append]
          rfl
      · obtain ⟨s4, hd⟩ := hQ
        rw [List.take_of_length_le (by rw [iV_len]; exact Nat.le_refl _)] at hd
        refine ⟨((s2.trans s3).trans s4), D9, _, _, rfl, (s2.trans s3).free nD, ?_⟩
        rw [hnext]
        exact hd
    · obtain ⟨s2, l, x3, x4, rfl, nl, hl⟩ := hP
      have e1 : ps.take (pV ps).length = ps := List.take_of_length_le (by unfold pV; rw [List.length_map]; exact Nat.le_refl _)
      rw [e1] at hl
      refine ⟨_, rfl, l, _, rfl, .inl ⟨.of hl, fun t nt => q _ t (s2.trans (same_new nt)) (s2.free nt) upd_same⟩⟩

def spTable (K : PySem.W.Frag) : Sp := fun vs H Q _ => ∃ (a : Addr) (ps : List Part), vs = [.ref a] ∧ SqT K H a (pV ps) ∧ (∀ p ∈ ps, Ok p) ∧
  ∀ H' t ts, Same H H' → H t = none → H' t = some (.tup ts) → ts.length = 7 → (∀ j, j < 7 → ∃ q, ts[j]? = some (.ref q) ∧ H' q = some (.tup (iV (places ps j)))) → Q (.ref t) H'
theorem ok_table (Z : Zs mg) (D : Df K mg "table_of" s_table_of P_table_of f fd) {fp : Addr} {dp : FuncData} (D_kept_places : Cl P w K mg base "kept_places" 3 fp dp P_kept_places (spKept K)) : FnOk P w K mg base CX0 4 f fd P_table_of (spTable K) := by
  refine D.F.ok sc_table_of (fun vs H Q E h => ?_) (fun cdv A outer s H vs Q E hr h => ?_)
  · obtain ⟨a, ps, rfl, _⟩ := h
    rfl
  · obtain ⟨p, ps, rfl, hp, hok, q⟩ := h
    have nd := sc_table_of.nd
    refine ⟨_,
    (pss_one
    (ps_ret (pe_callTy call_tuple_of (by rfl) Z.z_tuple (by decide +kernel) (pa_cons (pe_lc (own := [("many", 1)]) (g := gName 1) (tt := tYes) rfl nd (pi_range1 (by rfl) Z.z_range (pa_cons (pe_op op_add (pe_gI rfl Z.g_REACH) pe_int) pa_nil)) (blkOk_by (N := N_table_of) (sc := defScope s_table_of) (by decide +kernel)) (fun _ _ _ _ _ => (pg_name (i := 1) nd rfl (Or.inl rfl))) (fun _ _ _ _ _ => pts_nil) (fun _ _ _ _ _ => (pe_call D_kept_places.ok (hr.mono (by decide)) (by rfl) D_kept_places.g D_kept_places.kp D_kept_places.b .nil pass0 (pa_cons (pv 0) (pa_cons (pv 1) pa_nil))))) pa_nil)))), ?_⟩
    refine ⟨_, _, rfl, rfl, 7, rfl, by decide, by decide, fun D9 nD => ?_⟩
    refine lc_range (lo := 0) (n := 7) (fun i H' => Same H H' ∧ ∃ ts : List V, H' D9 = some (.lst ts) ∧ ts.length = i ∧ ∀ j, j < i → ∃ q, ts[j]? = some (.ref q) ∧ H' q = some (.tup (iV (places ps j)))) ⟨same_new nD, [], upd_same, rfl, fun j hj => absurd hj (Nat.not_lt_zero _)⟩ (fun i H' hi hP => ?_) (fun H' hP => ?_)
    · obtain ⟨s2, ts, hd, hlen, hts⟩ := hP
      refine ⟨rfl, _, rfl, _, rfl, p, ps, i, by rw [Int.zero_add]; rfl, sameT s2 hp, hok, by omega, fun H3 r s3 nr hr3 => ⟨ts, s3 _ _ hd, by rw [hlen]; exact small1000 (by omega), same_set (s2.trans s3) nD, ts ++ [.ref r], upd_same, by rw [List.length_append, hlen]; rfl, fun j hj => ?_⟩⟩
      have hrD : r ≠ D9 := fun e => by rw [e, hd] at nr; cases nr
      by_cases e : j < i
      · obtain ⟨r', e1, e2⟩ := hts j e
        have hne2 : r' ≠ D9 := fun e => by rw [e, hd] at e2; cases e2
        refine ⟨r', ?_, ?_⟩
        · rw [List.getElem?_append_left (by omega)]
          exact e1
        · rw [upd_ne hne2]
          exact s3 _ _ e2
      · have e' : j = i := by omega
        subst e'
        refine ⟨r, ?_, ?_⟩
        · rw [← hlen, List.getElem?_append_right (Nat.le_refl _), Nat.sub_self]
          rfl
        · rw [upd_ne hrD]
          exact hr3
    · obtain ⟨s2, ts, hd, hlen, hts⟩ := hP
      refine ⟨D9, ts, rfl, .inl ⟨.of hd, fun t nt => ?_⟩⟩
      have s3 := same_new (o := .tup ts) nt
      exact q _ t ts (s2.trans s3) (s2.free nt) upd_same hlen fun j hj => by
        obtain ⟨r, e1, e2⟩ := hts j hj
        exact ⟨r, e1, s3 _ _ e2⟩

end
end K05
set_option Elab.async false
set_option linter.all false
set_option maxRecDepth 100000
set_option maxHeartbeats 4000000
/-! own layer: enumerate over a tuple -/
namespace PySem
open Sem (wp)
set_option maxHeartbeats 1000000 in
theorem ly_enum_new {v : Value} {o : Obj} {H : Heap → Prop} (B : Begins v o H) :
    Meets (Builtin.«enumerate.__new__» ⟨[.type "enumerate", v], []⟩) (fun _ R s => H s.heap ∧
      R (.ok (.ret (.ref (s.heap.push o).objs.size))) { s with heap := (s.heap.push o).push ({ cls := .type "enumerate", data := .fields #[.none, .bool false, .ref s.heap.objs.size, rawInt 0, .none, .none] } : Obj) }) :=
  .of_wp fun prog w A R s h => by
    obtain ⟨hp, gs, dr, tk, os⟩ := s
    obtain ⟨h1, h⟩ := h
    have sub := sub_enumerate
    have begin_ : ∀ {A' : Around} {E : Value → Shared → Prop} {Q : Value → Shared → Prop}, Q (.ref hp.objs.size) ⟨hp.push o, gs, dr, tk, os⟩ → wpAny (model prog w) A' (pyIter v) Q E ⟨hp, gs, dr, tk, os⟩ := fun q => B.iter prog w _ _ _ _ h1 q
    wp_walk using begin_
    refine wpAny_stack_any fun st => wpAny_pure ?_
    split
    · rename_i c _ _ _ _ _
      cases (c == Value.type "enumerate") <;> (wp_walk using begin_; exact ⟨_, rfl, h⟩)
    · wp_walk using begin_
      exact ⟨_, rfl, h⟩
theorem ly_enum_call {prog : Program} {w : World} {A : Around} {E : Value → Shared → Prop} {s : Shared} {v : Value} {o : Obj} {H : Heap → Prop} {Q : Value → Shared → Prop} (B : Begins v o H) (h1 : H s.heap)
    (h : ∀ h', IsEnum h' (s.heap.objs.size + 1) s.heap.objs.size 0 .none → h'.get? s.heap.objs.size = some o → (∀ b x, s.heap.get? b = some x → h'.get? b = some x) → Q (.ref (s.heap.objs.size + 1)) { s with heap := h' }) :
    wpAny (model prog w) A (call (.type "enumerate") [v]) Q E s := by
  refine callType_new F.called_enumerate (by decide) (F.typeCall_enumerate_1 _) (F.newCall_enumerate_1 _) (fun obj => F.args_object_init_2 obj _) F.entry_enumerate_new (ly_enum_new B) ⟨h1, ?_⟩
  have hz : (s.heap.push o).objs.size = s.heap.objs.size + 1 := Heap.size_push ..
  show _ ∧ _
  rw [hz]
  have he : IsEnum ((s.heap.push o).push { cls := .type "enumerate", data := .fields #[.none, .bool false, .ref s.heap.objs.size, rawInt 0, .none, .none] }) (s.heap.objs.size + 1) s.heap.objs.size 0 .none := by
    have k := Heap.get?_push_size (s.heap.push o) (o := { cls := .type "enumerate", data := .fields #[.none, .bool false, .ref s.heap.objs.size, rawInt 0, .none, .none] }) rfl
    rwa [hz] at k
  exact ⟨⟨_, he, rfl⟩, h _ he (Heap.get?_push_of_some _ (Heap.get?_push_size _ B.free)) fun b x q => Heap.get?_push_of_some _ (Heap.get?_push_of_some _ q)⟩
end PySem
namespace Ly
open PySem PySem.Spec PyProof.Rows L2
/-- the tuple at a, its items in new pairs with their places -/
def IteT (K : PySem.W.Frag) (a : Addr) : It :=
  ⟨fun i H => ∃ (xs : List V) (x : V), SqT K H a xs ∧ xs[i]? = some x, fun i H v H' => ∃ T x, v = .ref T ∧ H T = none ∧ H' = upd H T (.tup [.int (i : Nat), x]) ∧ ∀ xs, SqT K H a xs → xs[i]? = some x, fun i H => ∃ xs : List V, SqT K H a xs ∧ xs.length = i⟩
theorem turn_enumT {P : Program} {w : World} {K : PySem.W.Frag} {elts : List Expr} {kk : Nat} {tpos : Pos} (a e it : Addr) (hat : a ≠ it) (hae : e ≠ a) :
    Turn P w K (.Tuple elts kk tpos) (IteT K a) [e, it] e (fun i h => (∃ old, IsEnum h e it ((i : Nat) : Int) old) ∧ h.IsTupleIter it a i ∧ e ≠ it) where
  mem := List.mem_cons_self
  obj := fun i h st b hb => by
    obtain ⟨⟨old, he⟩, ⟨o, ho, hc, hd⟩, _⟩ := st
    rcases List.mem_cons.mp hb with z | z
    · rw [z]; exact ⟨_, he, fun v q => nomatch q⟩
    · rw [List.mem_singleton] at z
      exact ⟨o, z ▸ ho, fun v q => by rw [hd] at q; cases q⟩
  keep := fun i h h' st k => by
    obtain ⟨⟨old, he⟩, hi, hne⟩ := st
    exact ⟨⟨old, k e (by simp) _ he⟩, hi.at fun o q => k it (by simp) o q, hne⟩
  item := by
    intro X hP hw hK hc i pins s σ H E I hf st hg
    subst hP hw hK
    obtain ⟨⟨old, he⟩, hit, hne⟩ := st
    obtain ⟨xs, x, hq, hx⟩ := hg
    obtain ⟨its, rv, p, hz⟩ := I.tuple hq
    obtain ⟨u, hu, ru⟩ := rv.get hx
    have hel : e < s.heap.objs.size := Heap.lt_size he
    have hil : it < s.heap.objs.size := by
      obtain ⟨_, q, _⟩ := hit
      exact Heap.lt_size q
    have hin : i < its.toArray.size := by
      rw [List.size_toArray]
      exact (List.getElem?_eq_some_iff.mp hu).1
    refine wpAny_pyNext_enum_itemD (Draws.tuple (A := X.A.in1) (show X.A.in1.handled = none from I.ok.hd hc) it a hat its.toArray) he ⟨hit, p⟩ hin hne (by simp [hne, hae]) fun y h' tk hy ho st' hT hsz hk => ?_
    obtain ⟨hit', _⟩ := st'
    have ey : y = u := by
      have h2 : its[i]? = some y := by simpa using hy
      exact Option.some.inj (h2.symm.trans hu)
    subst ey
    refine ⟨_, rfl, wpAny_letOwnedTupleGo_enum (s := { s with heap := h', toks := tk + 1 }) ho fun h'' he' sb => ?_⟩
    have hT2 : h''.get? s.heap.objs.size = some { cls := .type "tuple", data := .seq #[.int i tk, y] } := (sb.2 _ (Nat.ne_of_gt hel)).trans hT
    have new : ObjOk X.prog X.w (upd H s.heap.objs.size (.tup [.int (i : Nat), x])) h'' s.heap.objs.size (.tup [.int (i : Nat), x]) :=
      ⟨by show 2 ≤ sizeLine; decide, [.int i tk, y], .cons ⟨_, rfl⟩ (.cons ru .nil), ⟨_, hT2, rfl, _, rfl⟩⟩
    have I1 : Inv X pins σ (upd H s.heap.objs.size (.tup [.int (i : Nat), x])) { s with heap := h'', toks := tk + 1 } :=
      I.turnedNew (ch := [e, it]) (fun b ob hb q => (sb.2 b (fun z => hb (by simp [z]))).trans (hk b ob (fun z => hb (by simp [z])) (fun z => hb (by simp [z])) q)) hf (Nat.le_refl _) new
    have e1 : ((i + 1 : Nat) : Int) = (i : Int) + 1 := by omega
    refine ⟨.ref s.heap.objs.size, _, I1, rfl, ⟨_, x, rfl, I.hok.fresh (Nat.le_refl _), rfl, fun ys hy' => by rw [I.tuple_inj hy' hq]; exact hx⟩, ⟨⟨y, by rw [e1]; exact he'⟩, hit'.at fun o q => (sb.2 it (Ne.symm hne)).trans q, hne⟩, fun b hb => ?_⟩
    have hb' : b < s.heap.objs.size := by
      rcases List.mem_cons.mp hb with z | z
      · rw [z]
        exact hel
      · rw [List.mem_singleton.mp z]
        exact hil
    rw [upd_ne (Nat.ne_of_lt hb')]
    exact (hf b hb).1
  done := by
    intro X hP hw hK hc i pins s σ H E I hf st hg
    subst hP hw hK
    obtain ⟨⟨old, he⟩, hit, hne⟩ := st
    obtain ⟨xs, hq, hx⟩ := hg
    obtain ⟨its, rv, p, hz⟩ := I.tuple hq
    obtain ⟨f0, f1, f2, f3, f4, f5⟩ := hf it (by simp)
    have hl : its.toArray.size = i := by
      rw [List.size_toArray, ← rv.length]
      exact hx
    have hit2 : s.heap.IsTupleIter it a its.toArray.size := by
      rw [hl]
      exact hit
    exact wpAny_pyNext_enum_endD (Draws.tuple (A := X.A.in1) (show X.A.in1.handled = none from I.ok.hd hc) it a hat its.toArray) he ⟨hit2, p⟩ fun h' eb => ⟨rfl, I.turned (t' := s.toks) (fun b o hb q => eb b o hb q) f0 f1 f3 f4 f5⟩
  self := fun A i s Q E st h => by
    obtain ⟨⟨_, he⟩, _⟩ := st
    exact wpAny_pyIter_enum he h
def iEnumT (K : PySem.W.Frag) (ta : TA) : TI := fun σ H R => ta σ H fun vs H1 => ∃ a xs, vs = [.ref a] ∧ SqT K H1 a xs ∧ R (IteT K a) H1
theorem pi_enumT {X : Cx} {e : Expr} {ta : TA} {p pos tpos : Pos} {elts : List Expr} {kk : Nat} (hg : Gl X "enumerate") (hm : X.mg "enumerate" = none) (ha : PA X [e] ta) (hs : starEach [e] X.env = [(false, eval e X.env)] := by rfl) :
    PI X (.Tuple elts kk tpos) (.Call (.Name "enumerate" p) [e] [] pos) (iEnumT X.K ta) := by
  refine ⟨fun pins s σ H R I h => ?_⟩
  refine Call_ (ld_blt I hg hm boot_enumerate (PyProof.Rows.callWith_type1 (thn (ha.run pos pins s σ H _ I h) fun us s1 hh => ?_) hs rfl))
  obtain ⟨vs, H1, I1, r1, a, xs, ex, hq, q⟩ := hh
  subst ex
  obtain ⟨u, rfl, ru⟩ := vals1 r1
  obtain rfl : u = Value.ref a := ru
  obtain ⟨its, rv, p', hz⟩ := I1.tuple hq
  have hal : a < s1.heap.objs.size := p'.lt
  refine ly_enum_call (begins_tuple a its.toArray) p' fun h' he hit hk => wpAny_pyIter_enum he ?_
  refine ⟨s1.heap.objs.size + 1, [s1.heap.objs.size + 1, s1.heap.objs.size], _, _, H1, rfl, I1.kept (t' := s1.toks) hk, turn_enumT a (s1.heap.objs.size + 1) s1.heap.objs.size (Nat.ne_of_lt hal) (Nat.ne_of_gt (Nat.lt_succ_of_lt hal)), ⟨⟨.none, he⟩, ⟨_, hit, rfl, rfl⟩, Nat.succ_ne_self _⟩, fun b hb => ?_, q⟩
  have hle : s1.heap.objs.size ≤ b := by
    rcases List.mem_cons.mp hb with z | z
    · rw [z]
      exact Nat.le_succ _
    · rw [List.mem_singleton.mp z]
      exact Nat.le_refl _
  exact I1.fpOk hle (I1.hok.fresh hle)
/-- the loop over it -/
theorem for_enumT {K : PySem.W.Frag} {a : Addr} {xs : List V} {g : TG} {tb : TS} {D : Ends} {σ : L2.St} {H : Hp} (Pv : Nat → L2.St → Hp → Prop) (h0 : Pv 0 σ H) (hl : ∀ i σ H, i ≤ xs.length → Pv i σ H → SqT K H a xs)
    (hs : ∀ i x σ H T, xs[i]? = some x → Pv i σ H → H T = none → g (.ref T) σ (upd H T (.tup [.int (i : Nat), x])) fun σ2 H2 => tb { D with nx := Pv (i + 1), ct := Pv (i + 1), bk := D.nx } σ2 H2) (hd : ∀ σ H, Pv xs.length σ H → D.nx σ H) :
    ∃ W : Nat → Nat → L2.St → Hp → Prop, (∃ m, W 0 m σ H) ∧ ∀ i m σ H, W i m σ H → ((IteT K a).stop i H ∧ D.nx σ H) ∨ ((IteT K a).go i H ∧ ∃ N : L2.St → Hp → Prop, (∀ σ' H', N σ' H' → ∃ m', m' < m ∧ W (i + 1) m' σ' H') ∧
      ∀ x H', (IteT K a).yld i H x H' → g x σ H' fun σ2 H2 => tb { D with nx := N, ct := N, bk := D.nx } σ2 H2) := by
  refine ⟨fun i m σ H => m + i = xs.length ∧ Pv i σ H, ⟨xs.length, by omega, h0⟩, ?_⟩
  rintro i m σ H ⟨em, p⟩
  have q := hl i σ H (by omega) p
  by_cases hlt : i < xs.length
  · refine .inr ⟨⟨xs, xs[i], q, List.getElem?_eq_getElem hlt⟩, Pv (i + 1), fun σ' H' p' => ⟨m - 1, by omega, by omega, p'⟩, fun v H' y => ?_⟩
    obtain ⟨T, x, rfl, nT, rfl, hx⟩ := y
    exact hs i x σ H T (hx xs q) p nT
  · have e : i = xs.length := by omega
    subst e
    exact .inl ⟨⟨xs, q, rfl⟩, hd σ H p⟩
end Ly

set_option Elab.async false
set_option linter.all false
set_option maxRecDepth 100000
set_option maxHeartbeats 4000000
/-! own classes: len, str, ==, != by their own defs; classes held by a variable, called with a star; made without arguments -/
namespace Ly
open PySem PySem.Spec PyProof.Rows L2
section
variable {X : Cx} {CX : CXT} {k : Nat} {f g C : Addr} {sp : Sp} {E : XK} {Q : VK} {us : List Value} {vs : List V} {A : Around} {pins : List (Addr × Obj)} {σ : L2.St} {H : Hp} {s : Shared}
theorem run_fnRA (F : FnR X.prog X.w X.K X.mg X.base CX k f sp) (hr : Room k A) (hf : A.frames = X.A.frames) (hx : Passes CX X E) (I : Inv X pins σ H s) (r : Vals vs us) (h : sp vs H Q E) :
    wpAny (model X.prog X.w) A (call (.ref f) us) (EP X pins σ Q) X.xe s := by
  have e := I.env0
  have e0 : Env0 X.prog X.w X.K X.mg X.base A X.stack s H := ⟨by rw [hf]; exact e.frames, e.mod, e.bs, e.bsz, e.funs, e.frf, e.hok, e.bare⟩
  refine wpAny_call (codeAny_mono (F A X.stack s H us vs Q E hr e0 r h) fun r s' hq => ?_)
  cases r with
  | error e => exact hx pins σ H s e s' I hq
  | ok fl =>
    cases fl with
    | ret u => exact I.after hq
    | next => exact False.elim hq
    | brk => exact False.elim hq
    | cont => exact False.elim hq
/-- the class at C has the def at g as its special m -/
structure Sp1 (K : PySem.W.Frag) (C g : Addr) (m : Str) : Prop where
  at_ : PySem.W.findIn K (.ref C) m = some (some (.ref g))
  fn : PySem.W.isFn K (.ref g) = true
theorem ins_inst {a C dx : Addr} {fs : List (Str × V)} (I : Inv X pins σ H s) (ea : H a = some (.ins C dx fs)) : ∃ ox od, PySem.W.InstAt s.heap a ox C od := by
  obtain ⟨mA, O, _⟩ := ins_get I.hok ea
  obtain ⟨od, J, _⟩ := O.look
  exact ⟨_, _, J⟩
def rLenO (C : Addr) (sp : Sp) (E : XK) : List V → Hp → VK → Prop := fun xs H Q => ∃ a dx fs, xs = [.ref a] ∧ H a = some (.ins C dx fs) ∧ sp [.ref a] H (fun v H' => ∃ n : Nat, v = .int n ∧ n < 2 ^ 62 ∧ Q (.int n) H') E
theorem call_lenO (c : Sp1 X.K C g "__len__") (F : FnR X.prog X.w X.K X.mg X.base CX k g sp) (hr : Room (k + 1) X.A) (hx : Passes CX X E) : CallR X (.builtin "len") (rLenO C sp E) := by
  intro pins s σ H xs us Q I r h
  obtain ⟨a, dx, fs, rfl, ea, q⟩ := h
  obtain ⟨u, rfl, r1⟩ := vals1 r
  obtain rfl : u = Value.ref a := r1
  obtain ⟨ox, od, J⟩ := ins_inst I ea
  obtain ⟨m, hF⟩ := I.fr
  refine PySem.W.len_K hF I.ok.mod.kin J c.at_ c.fn (wpAny_mono (run_fnRA (us := [.ref a]) (vs := [.ref a]) F hr.in1 rfl hx I (.cons rfl .nil) q) (fun v s' z => ?_) fun _ _ z => z)
  obtain ⟨w, H', I', rw_, n, rfl, hn, q'⟩ := z
  obtain ⟨t, rfl⟩ := (show ∃ t, v = Value.int (n : Int) t from rw_)
  have hn' : (n : Int) < 2 ^ 62 := by exact_mod_cast hn
  exact ⟨⟨Int.natCast_nonneg _, Int.lt_trans hn' (by decide)⟩, .int n, H', I'.tok _, ⟨_, rfl⟩, q'⟩
def rStrO (C : Addr) (sp : Sp) (E : XK) : List V → Hp → VK → Prop := fun xs H Q => ∃ a dx fs, xs = [.ref a] ∧ H a = some (.ins C dx fs) ∧ sp [.ref a] H (fun v H' => ∃ x : Str, v = .str x ∧ Q (.str x) H') E
theorem call_strO (c : Sp1 X.K C g "__str__") (F : FnR X.prog X.w X.K X.mg X.base CX k g sp) (hr : Room (k + 2) X.A) (hx : Passes CX X E) : CallR X (.type "str") (rStrO C sp E) := by
  intro pins s σ H xs us Q I r h
  obtain ⟨a, dx, fs, rfl, ea, q⟩ := h
  obtain ⟨u, rfl, r1⟩ := vals1 r
  obtain rfl : u = Value.ref a := r1
  obtain ⟨ox, od, J⟩ := ins_inst I ea
  refine PySem.W.kso_call hr.in1.in1.units0 I.kIn J c.at_ c.fn (wpAny_mono (run_fnRA (us := [.ref a]) (vs := [.ref a]) F hr.in1.in1 rfl hx I (.cons rfl .nil) q) (fun v s' z => ?_) fun _ _ z => z)
  obtain ⟨w, H', I', rw_, x, rfl, q'⟩ := z
  obtain ⟨t, rfl⟩ := (show ∃ t, v = Value.str x t from rw_)
  exact ⟨.str x, H', I', ⟨_, rfl⟩, q'⟩
/-! ### == and != of two instances of a class -/
def rEqO (C : Addr) (sp : Sp) (E : XK) (neg : Bool) : R2 := fun x y H Q => ∃ a b dx dy fs gs, x = .ref a ∧ y = .ref b ∧ H a = some (.ins C dx fs) ∧ H b = some (.ins C dy gs) ∧
  sp [.ref a, .ref b] H (fun v H' => ∃ t : Bool, v = .bl t ∧ Q (.bl (t != neg)) H') E
theorem op_eqO (c : Sp1 X.K C g "__eq__") (F : FnR X.prog X.w X.K X.mg X.base CX k g sp) (hr : Room k X.A) (hx : Passes CX X E) : OpR X (compareOp .Eq) (rEqO C sp E false) := by
  intro pins s σ H x y u v Q I rx ry h
  obtain ⟨a, b, dx, dy, fs, gs, rfl, rfl, ea, eb, q⟩ := h
  obtain rfl : u = Value.ref a := rx
  obtain rfl : v = Value.ref b := ry
  obtain ⟨ox, od, J⟩ := ins_inst I ea
  obtain ⟨oy, od', J'⟩ := ins_inst I eb
  obtain ⟨m, hF⟩ := I.fr
  refine PySem.W.cmp_ofEq (PySem.W.cmp_K (op := .Eq) (tb := .ref C) hr.units0 hF I.ok.mod.kin J J'.type (by simp [PySem.W.notFirst]) c.at_ c.fn ?_)
  refine wpAny_mono (run_fnRA (us := [.ref a, .ref b]) (vs := [.ref a, .ref b]) F hr rfl hx I (.cons rfl (.cons rfl .nil)) q) (fun v s' z => ?_) fun _ _ z => z
  obtain ⟨w, H', I', rw_, t, rfl, q'⟩ := z
  obtain rfl : v = Value.bool t := rw_
  refine ⟨.bl t, H', I', rfl, ?_⟩
  rw [Bool.bne_false] at q'
  exact q'
theorem ifBound_objNe {M : Model} {K : PySem.W.Frag} {A : Around} {E : Value → Shared → Prop} {s : Shared} {x C : Addr} {ox : Obj} {od : Option Obj} {args : List Value} {Q : Option Value → Shared → Prop} (X : K.In s.heap) (I : PySem.W.InstAt s.heap x ox C od)
    (hs : PySem.W.findIn K (.ref C) "__ne__" = some (some (.builtin "object.__ne__")))
    (h : wpAny M A (call (.builtin "object.__ne__") (.ref x :: args)) (fun v => Q (some v)) E s) : wpAny M A (callSpecialIfBound? (.ref x) "__ne__" args) Q E s := by
  simp only [callSpecialIfBound?, bindSpecialIfBound?]
  refine wpAny_holding (wpAny_bind (wpAny_bind (wpAny_bind (I.type.here ((PySem.W.looks_findIn X hs).here ?_)))))
  refine wpAny_bind (wpAny_askSetting (wpAny_ite ?_))
  have fin : wpAny M A (call (.builtin "object.__ne__") ([.ref x] ++ args) >>= fun v => pure (some v)) Q E s := wpAny_bind (wpAny_mono h (fun v s' h' => wpAny_pure h') fun _ _ h' => h')
  split
  · exact wpAny_bind (wpAny_of_eq (F.cmp_object.ne.bind _) (wpAny_pure (by exact fin)))
  · exact wpAny_tryCatch (wpAny_bind (wpAny_of_eq (F.cmp_object.ne.bind _) (wpAny_pure (by exact fin))))
theorem rc_ne {prog : Program} {w : World} {K : PySem.W.Frag} {A : Around} {E : Value → Shared → Prop} {s : Shared} {x C f : Addr} {ox : Obj} {od : Option Obj} {b tb : Value} {Q : Value → Shared → Prop} (hu : A.units + 1 < cLine) (X : K.In s.heap) (I : PySem.W.InstAt s.heap x ox C od)
    (hb : PySem.W.Looks (model prog w) s.heap (typeOf b) tb) (hn : PySem.W.notFirst K C tb = true) (hm : PySem.W.mroIn K C (.type "object") = some true) (hs : PySem.W.findIn K (.ref C) "__ne__" = some (some (.builtin "object.__ne__")))
    (he : PySem.W.findIn K (.ref C) "__eq__" = some (some (.ref f))) (hf : PySem.W.isFn K (.ref f) = true)
    (h : wpAny (model prog w) A.in1 (call (.ref f) [.ref x, b]) (fun v s' => ∃ t, v = .bool t ∧ Q (.bool (!t)) s') E s) : wpAny (model prog w) A (richCompare .NotEq (.ref x) b) Q E s := by
  have one : wpAny (model prog w) A (tryCompare (.ref x) "__ne__" b) (fun r s' => ∃ v, r = some v ∧ Q v s') E s := by
    unfold tryCompare
    refine wpAny_bind (ifBound_objNe X I hs (wpAny_call (codeAny_call_builtin F.cmp_object.ne.plain F.cmpEntry_ne (PySem.W.check_slot F.cmpKind_ne F.cmpSplit_ne (I.type.andThen (PySem.W.looks_mroIn X hm)) (F.cmpArgs_ne _ _) ?_))))
    unfold Builtin.«object.__ne__»
    refine wpAny_bind (wpAny_pure ?_)
    refine wpAny_bind (wpAny_cRoomFor hu ?_)
    refine wpAny_bind (m := callSpecialIfBound? (.ref x) (Str.ofString "__eq__") [b]) (PySem.W.ifBound_K X I he hf (wpAny_mono h (fun v s' hv => ?_) fun _ _ e => e))
    obtain ⟨t, rfl, q⟩ := hv
    refine wpAny_bind (wpAny_truthy_bool ?_)
    exact wpAny_pure (by exact wpAny_pure ⟨_, rfl, q⟩)
  unfold richCompare
  simp only [oneThing_ref, cmpInfo_NotEq]
  refine wpAny_holding (wpAny_bind (wpAny_cRoomFor (Nat.lt_of_succ_lt hu) ?_))
  refine wpAny_bind (I.type.here (wpAny_bind (hb.here ?_)))
  split
  · rename_i q
    have e : PySem.W.subIn K tb (.ref C) = some false := by
      rcases Bool.or_eq_true_iff.mp hn with e | e
      · rw [beq_iff_eq.mp e] at q; simp at q
      · exact beq_iff_eq.mp e
    refine wpAny_bind ((PySem.W.looks_subIn X e).here ?_)
    simp only [Bool.false_eq_true, if_false]
    refine wpAny_bind (wpAny_mono one (fun r s' z => ?_) fun _ _ e => e)
    obtain ⟨v, rfl, hq⟩ := z
    exact wpAny_pure hq
  · refine wpAny_bind (wpAny_pure ?_)
    simp only [Bool.false_eq_true, if_false]
    refine wpAny_bind (wpAny_mono one (fun r s' z => ?_) fun _ _ e => e)
    obtain ⟨v, rfl, hq⟩ := z
    exact wpAny_pure hq
/-- the class keeps object's own != -/
structure NeO (K : PySem.W.Frag) (C : Addr) : Prop where
  at_ : PySem.W.findIn K (.ref C) "__ne__" = some (some (.builtin "object.__ne__"))
  mro : PySem.W.mroIn K C (.type "object") = some true
theorem op_neO (c : Sp1 X.K C g "__eq__") (n : NeO X.K C) (F : FnR X.prog X.w X.K X.mg X.base CX k g sp) (hr : Room (k + 1) X.A) (hx : Passes CX X E) : OpR X (compareOp .NotEq) (rEqO C sp E true) := by
  intro pins s σ H x y u v Q I rx ry h
  obtain ⟨a, b, dx, dy, fs, gs, rfl, rfl, ea, eb, q⟩ := h
  obtain rfl : u = Value.ref a := rx
  obtain rfl : v = Value.ref b := ry
  obtain ⟨ox, od, J⟩ := ins_inst I ea
  obtain ⟨oy, od', J'⟩ := ins_inst I eb
  have hu : X.A.units + 1 < cLine := by have := hr.un; omega
  refine PySem.W.cmp_ofNotEq (rc_ne hu I.kIn J J'.type (by simp [PySem.W.notFirst]) n.mro n.at_ c.at_ c.fn ?_)
  refine wpAny_mono (run_fnRA (us := [.ref a, .ref b]) (vs := [.ref a, .ref b]) F hr.in1 rfl hx I (.cons rfl (.cons rfl .nil)) q) (fun v s' z => ?_) fun _ _ z => z
  obtain ⟨w, H', I', rw_, t, rfl, q'⟩ := z
  obtain rfl : v = Value.bool t := rw_
  refine ⟨t, rfl, .bl (!t), H', I', rfl, ?_⟩
  rw [Bool.bne_true] at q'
  exact q'
end
/-! ### making -/
section
variable {X : Cx} {CX : CXT} {k i : Nat} {f C : Addr} {sp : Sp} {E : XK} {x : Str} {e : Expr} {te : TE} {p pos sp_ : Pos}
theorem pe_makeR0 (M : Mk X.K C f) (F : FnR X.prog X.w X.K X.mg X.base CX k f sp) (hr : Room (k + 1) X.A) (hg : Gl X x) (hm : X.mg x = some (.ref C)) (hx : Passes CX X E) (hdb : (x == ("__debug__" : Str)) = false := by decide) :
    PE X (.Call (.Name x p) [] [] pos) (StX.tMakeR C sp E tNil) := by
  refine ⟨fun pins s σ H Q I h => ?_⟩
  refine wpAny_Call_Name_kw (ld_glob I hg hm ?_ hdb)
  exact PySem.W.callWith_K0 I.kIn M.kp (StX.run_makeR (us := []) M F hr hx I .nil h)
/-- x(*e), x a variable that holds the class at C -/
def tMakeVS (K : PySem.W.Frag) (C : Addr) (sp : Sp) (E : XK) (tx te : TE) : TE := fun σ H Q => tx σ H fun c H0 => c = .ref C ∧ te σ H0 fun y H1 => ∃ a xs, y = .ref a ∧ (SqT K H1 a xs ∨ SqL K H1 a xs) ∧
  ∀ x dx, H1 x = none → H1 dx = none → dx ≠ x → sp (V.ref x :: xs) (upd (upd H1 dx (.own x)) x (.ins C dx [])) (fun v H2 => v = .non ∧ Q (.ref x) H2) E
theorem pe_makeVS {tx : TE} (M : Mk X.K C f) (F : FnR X.prog X.w X.K X.mg X.base CX k f sp) (hr : Room (k + 1) X.A) (hx : Passes CX X E) (hv : PE X (.Name x p) tx) (he : PE X e te)
    (hst : starEach [.Starred e sp_] X.env = [(true, eval e X.env)] := by rfl) : PE X (.Call (.Name x p) [.Starred e sp_] [] pos) (tMakeVS X.K C sp E tx te) := by
  refine ⟨fun pins s σ H Q I h => ?_⟩
  refine wpAny_Call_Name_kw (thn (hv.run pins s σ H _ I h) fun u s1 ⟨c, H0, I0, rc, ec, q⟩ => ?_)
  subst ec
  obtain rfl : u = Value.ref C := rc
  refine PySem.W.callWith_S (h₀ := X.base) I.ok.mod.kin M.kp (thn (he.run pins s1 σ H0 _ I0 q) fun v s2 ⟨y, H1, I1, ry, a, xs, ey, hxs, q1⟩ => ?_) hst
  subst ey
  obtain rfl : v = Value.ref a := ry
  exact StX.star_any I1 hxs fun us s3 I3 rv => ⟨I3.kIn, StX.run_makeR M F hr hx I3 rv q1⟩
/-- C(*e), C a class of the module -/
theorem pe_makeS (M : Mk X.K C f) (F : FnR X.prog X.w X.K X.mg X.base CX k f sp) (hr : Room (k + 1) X.A) (hg : Gl X x) (hm : X.mg x = some (.ref C)) (hx : Passes CX X E) (he : PE X e te) (hdb : (x == ("__debug__" : Str)) = false := by decide)
    (hst : starEach [.Starred e sp_] X.env = [(true, eval e X.env)] := by rfl) : PE X (.Call (.Name x p) [.Starred e sp_] [] pos) (tMakeVS X.K C sp E (tC (.ref C)) te) :=
  pe_makeVS M F hr hx (pe_glob (v := .ref C) hg hm rfl hdb) he hst
end
end Ly

namespace Ly
open PySem PySem.Spec PyProof.Rows L2
section
variable {P : Program} {w : World} {K : PySem.W.Frag} {mg : Str → Option Value} {base : Heap} {k : Nat} {f : Addr} {fd : FuncData} {x qual : Str} {st : Stmt} {N ps : List Str} {pv : Str} {sp : Sp}
/-- a def whose last parameter takes what is left -/
theorem fun_star (F : Fun K x qual st f fd) (S : FnScope N (ps ++ [pv]) (defScope st))
    (hb : ∀ (kV doc pm : Value) (an : Option Addr) (cdv ct : Value) (us rest : List Value), us.length = ps.length → bindArgs (PySem.W.fnOf x qual (defArgs st) (defBody st) (defScope st) .none kV doc pm an cdv ct) ⟨us ++ rest, []⟩ = (newTuple rest >>= fun t => pure (ps.zip us ++ [(pv, t)])))
    (hbody : ∀ (cdv : Value) (A : Around) (outer : List Env) (s : Shared) (H : Hp) (vs : List V) (Q : VK) (E : XK), Room k (A.deeper (envOfC qual (defScope st) s.heap.objs.size f cdv)) → sp vs H Q E →
      ∃ t, PSs (cxOf CX0 P w K mg base N qual (defScope st) f cdv A outer s H E).nox (defBody st) t ∧ t { nx := fun _ H' => Q .non H', rt := Q } (start N vs) H) :
    FnR P w K mg base CX0 (k + 1) f (fun vs H Q E => ∃ ws rest, vs = ws ++ rest ∧ ws.length = ps.length ∧ rest.length ≤ sizeLine ∧ ∀ p, H p = none → sp (ws ++ [V.ref p]) (upd H p (.tup rest)) Q E) := by
  obtain ⟨oc, od, kV, doc, pm, an, cdv, ct, osl, rfl, lk, hcd⟩ := F.ex
  refine StX.fn_star lk hcd S StX.cxUp_none (fun us rest h => hb kV doc pm an cdv ct us rest h) fun A outer s H vs Q E hr hsp => ?_
  obtain ⟨t, h, q⟩ := hbody cdv A outer s H vs Q E hr hsp
  exact ⟨t, h.nox, q⟩
/-- a def of a class -/
structure Dm (K : PySem.W.Frag) (x qual : Str) (st : Stmt) (ps : List Str) (f : Addr) (fd : FuncData) : Prop where
  F : Fun K x qual st f fd
  b : Binds K fd ps []
theorem Dm.raw {CX : CXT} {x qual : Str} {st : Stmt} (D : Dm K x qual st ps f fd) (o : FnOk P w K mg base CX k f fd ps sp) : FnR P w K mg base CX k f sp := by
  have z := o.raw D.b .nil
  exact z.imp fun vs H Q E h => by rw [List.append_nil]; exact h
end
end Ly
namespace Ly
open PySem PySem.Spec PyProof.Rows L2
/-- a comprehension over things that stay: what is kept is told by f -/
theorem lc_fm {J : It} {g : TG} {tt : TT} {te : TE} {vs : List Nat} {σ : L2.St} {H1 : Hp} {D : Addr} {Qd : Hp → Prop} (xs : List V) (f : V → Option V) (nD : H1 D = none) (hz : xs.length ≤ sizeLine)
    (hgo : ∀ (i : Nat) (H : Hp), i < xs.length → Same H1 H → J.go i H) (hst : ∀ H, Same H1 H → J.stop xs.length H) (hy : ∀ (i : Nat) (x : V) (H H' : Hp), Same H1 H → J.yld i H x H' → H' = H ∧ xs[i]? = some x)
    (hs : ∀ (i : Nat) (x : V) (H : Hp) (Q : VK) (N : Hp → Prop), xs[i]? = some x → Same H1 H → (∀ y H4, f x = some y → Same H H4 → Q y H4) → (f x = none → ∀ H4, Same H H4 → N H4) →
      g x (wipe σ vs) H fun σ2 H2 => wipe σ2 vs = wipe σ vs ∧ tt σ2 H2 fun b H3 => if b = true then te σ2 H3 Q else N H3)
    (hd : ∀ H', Same H1 H' → H' D = some (.lst (xs.filterMap f)) → Qd H') : LcW J g tt te vs σ H1 D Qd := by
  refine lc_gen (n := xs.length) (fun i H => Same H1 H ∧ H D = some (.lst ((xs.take i).filterMap f))) ⟨same_new nD, upd_same⟩ (fun i H hi p => hgo i H hi p.1) (fun H p => hst H p.1) (fun i x H H' hi p y => ?_) (fun H p => ?_)
  · obtain ⟨s, hd'⟩ := p
    obtain ⟨rfl, hx⟩ := hy i x H H' s y
    have hstep : ∀ o : Option V, f x = o → (xs.take (i + 1)).filterMap f = (xs.take i).filterMap f ++ o.toList := fun o e => by
      rw [List.take_add_one, hx, List.filterMap_append]
      show _ ++ [x].filterMap f = _
      rw [List.filterMap_cons, e]
      cases o <;> rfl
    refine hs i x H' _ _ hx s (fun y H4 e s4 => ⟨_, s4 _ _ hd', ?_, same_set (s.trans s4) nD, ?_⟩) fun e H4 s4 => ⟨s.trans s4, ?_⟩
    · refine Nat.lt_of_le_of_lt (List.length_filterMap_le _ _) ?_
      rw [List.length_take]
      omega
    · rw [upd_same, hstep _ e]
      rfl
    · rw [hstep _ e, s4 _ _ hd']
      show _ = some (HO.lst (_ ++ []))
      rw [List.append_nil]
  · obtain ⟨s, hd'⟩ := p
    rw [List.take_of_length_le (Nat.le_refl _)] at hd'
    exact hd H s hd'
theorem filterMap_some {α β : Type} (f : α → β) : ∀ xs : List α, xs.filterMap (fun x => some (f x)) = xs.map f
  | [] => rfl
  | x :: xs => by
    rw [List.filterMap_cons, filterMap_some f xs]
    rfl
/-- .. over a tuple, all of it -/
theorem lc_mapT {K : PySem.W.Frag} {a : Addr} {g : TG} {tt : TT} {te : TE} {vs : List Nat} {σ : L2.St} {H1 : Hp} {D : Addr} {Qd : Hp → Prop} (xs : List V) (f : V → V) (hS : SqT K H1 a xs) (nD : H1 D = none) (hz : xs.length ≤ sizeLine)
    (hs : ∀ (i : Nat) (x : V) (H : Hp) (Q : VK) (N : Hp → Prop), xs[i]? = some x → Same H1 H → (∀ H4, Same H H4 → Q (f x) H4) → g x (wipe σ vs) H fun σ2 H2 => wipe σ2 vs = wipe σ vs ∧ tt σ2 H2 fun b H3 => if b = true then te σ2 H3 Q else N H3)
    (hd : ∀ H', Same H1 H' → H' D = some (.lst (xs.map f)) → Qd H') : LcW (Itt K a) g tt te vs σ H1 D Qd := by
  refine lc_tup (xs := xs) (fun i H => Same H1 H ∧ H D = some (.lst ((xs.take i).map f))) ⟨same_new nD, upd_same⟩ (fun i H _ p => sameT p.1 hS) (fun i x H hx p => ?_) (fun H p => ?_)
  · obtain ⟨s, hd'⟩ := p
    refine hs i x H _ _ hx s fun H4 s4 => ⟨_, s4 _ _ hd', ?_, same_set (s.trans s4) nD, ?_⟩
    · rw [List.length_map, List.length_take]
      have := (List.getElem?_eq_some_iff.mp hx).1
      omega
    · rw [upd_same, List.take_add_one, hx, List.map_append]
      rfl
  · obtain ⟨s, hd'⟩ := p
    rw [List.take_of_length_le (Nat.le_refl _)] at hd'
    exact hd H s hd'
/-- .. over a list -/
theorem lc_mapL {K : PySem.W.Frag} {a : Addr} {g : TG} {tt : TT} {te : TE} {vs : List Nat} {σ : L2.St} {H1 : Hp} {D : Addr} {Qd : Hp → Prop} (xs : List V) (f : V → Option V) (hS : SqL K H1 a xs) (nD : H1 D = none) (hz : xs.length ≤ sizeLine)
    (hs : ∀ (i : Nat) (x : V) (H : Hp) (Q : VK) (N : Hp → Prop), xs[i]? = some x → Same H1 H → (∀ y H4, f x = some y → Same H H4 → Q y H4) → (f x = none → ∀ H4, Same H H4 → N H4) →
      g x (wipe σ vs) H fun σ2 H2 => wipe σ2 vs = wipe σ vs ∧ tt σ2 H2 fun b H3 => if b = true then te σ2 H3 Q else N H3)
    (hd : ∀ H', Same H1 H' → H' D = some (.lst (xs.filterMap f)) → Qd H') : LcW (Itl K a) g tt te vs σ H1 D Qd := by
  have hS' : ∀ H, Same H1 H → SqL K H a xs := fun H s => by
    rcases hS with (h | ⟨o, h⟩) | h
    · exact .inl (.inl (s _ _ h))
    · exact .inl (.inr ⟨o, s _ _ h⟩)
    · exact .inr h
  refine lc_list (xs := xs) (fun i H => Same H1 H ∧ H D = some (.lst ((xs.take i).filterMap f))) ⟨same_new nD, upd_same⟩ (fun i H _ p => hS' H p.1) (fun i x H hx p => ?_) (fun H p => ?_)
  · obtain ⟨s, hd'⟩ := p
    have hi := (List.getElem?_eq_some_iff.mp hx).1
    have hstep : ∀ o : Option V, f x = o → (xs.take (i + 1)).filterMap f = (xs.take i).filterMap f ++ o.toList := fun o e => by
      rw [List.take_add_one, hx, List.filterMap_append]
      show _ ++ [x].filterMap f = _
      rw [List.filterMap_cons, e]
      cases o <;> rfl
    refine hs i x H _ _ hx s (fun y H4 e s4 => ⟨_, s4 _ _ hd', ?_, same_set (s.trans s4) nD, ?_⟩) fun e H4 s4 => ⟨s.trans s4, ?_⟩
    · refine Nat.lt_of_le_of_lt (List.length_filterMap_le _ _) ?_
      rw [List.length_take]
      omega
    · rw [upd_same, hstep _ e]
      rfl
    · rw [hstep _ e, s4 _ _ hd']
      show _ = some (HO.lst (_ ++ []))
      rw [List.append_nil]
  · obtain ⟨s, hd'⟩ := p
    rw [List.take_of_length_le (Nat.le_refl _)] at hd'
    exact hd H s hd'
end Ly

set_option Elab.async false
set_option linter.all false
set_option maxRecDepth 100000
set_option maxHeartbeats 8000000
namespace K05
open PySem PySem.Spec PyProof.Rows L2 Ly Cut

abbrev s_init : Stmt := inClass (topS 25) 0
abbrev N_init : List Str := ["self", "parts"]
abbrev P_init : List Str := ["self", "parts"]
theorem sc_init : FnScope N_init P_init (defScope s_init) := ⟨rfl, rfl, rfl, by decide +kernel, rfl, by decide +kernel, by decide +kernel⟩

section
variable {P : Program} {w : World} {K : PySem.W.Frag} {mg : Str → Option Value} {base : Heap} {f : Addr} {fd : FuncData}
def spIsPart : Sp := fun vs H Q _ => ∃ p : Part, vs = [.str p.text] ∧ Ok p ∧ ∀ H', Same H H' → Q (.bl true) H'
def spCheck (K : PySem.W.Frag) : Sp := fun vs H Q _ => ∃ (a : Addr) (ps : List Part), vs = [.ref a] ∧ SqT K H a (pV ps) ∧ (∀ p ∈ ps, Ok p) ∧ ps.length ≤ 4 ∧ ∀ H', Same H H' → Q .non H'
theorem ok_is_part (Z : Zs mg) (D : Df K mg "is_part" s_is_part P_is_part f fd) : FnOk P w K mg base CX0 1 f fd P_is_part spIsPart := by
  refine D.F.ok sc_is_part (fun vs H Q E h => ?_) (fun cdv A outer s H vs Q E hr h => ?_)
  · obtain ⟨p, rfl, _⟩ := h
    rfl
  · obtain ⟨p, rfl, hok, q⟩ := h
    have nd := sc_is_part.nd
    refine ⟨_,
    (pss_cons
    (ps_if (pt_not (pt_val (pe_callB call_isi (by rfl) Z.z_isinstance (by decide +kernel) (pa_cons (pv 0) (pa_cons (pe_bltn (v := .ty "str") (by rfl) Z.z_str (by decide +kernel) rfl) pa_nil)))))
      (pss_one
      (ps_ret pe_bl))
      pss_nil)
    (pss_cons
    (ps_if (pt_cmpR op_eq (pv 0) (pe_gS rfl Z.g_KEEP_ALL) (nomark _))
      (pss_one
      (ps_ret pe_bl))
      pss_nil)
    (pss_cons
    (ps_asg (pe_partition (pv 0) (pe_gS rfl Z.g_DOTS)) (pg_tup rfl (pgs_cons (pg_name (i := 1) nd rfl (Or.inl rfl)) (pgs_cons (pg_name (i := 2) nd rfl (Or.inl rfl)) (pgs_cons (pg_name (i := 3) nd rfl (Or.inl rfl)) pgs_nil)))))
    (pss_cons
    (ps_if (PW.pt (pw_or (pt_cmpR op_ne (pv 2) (pe_gS rfl Z.g_DOTS) (nomark _)) (pw_or (pt_cmpR op_gt (pe_callB call_len_str (by rfl) Z.z_len (by decide +kernel) (pa_cons (pv 1) pa_nil)) (pe_gI rfl Z.g_MAX_FRONT) (nomark _)) (pw_or1 (pt_cmpR op_gt (pe_callB call_len_str (by rfl) Z.z_len (by decide +kernel) (pa_cons (pv 3) pa_nil)) (pe_gI rfl Z.g_MAX_BACK) (nomark _))))))
      (pss_one
      (ps_ret pe_bl))
      pss_nil)
    (pss_one
    (ps_ret (pe_callB (cr_all rfl) (by rfl) Z.z_all (by decide +kernel) (pa_cons (pe_lc (own := [("sign", 4)]) (g := gName 4) (tt := tYes) rfl nd (pi_str (pe_op op_add_str (pv 1) (pv 3))) (blkOk_by (N := N_is_part) (sc := defScope s_is_part) (by decide +kernel)) (fun _ _ _ _ _ => (pg_name (i := 4) nd rfl (Or.inl rfl))) (fun _ _ _ _ _ => pts_nil) (fun _ _ _ _ _ => (pe_cmpR (inK (K := K) rfl) (pv 4) (pe_tup (pa_cons pe_str (pa_cons pe_str pa_nil))) (by rfl)))) pa_nil)))))))), ?_⟩
    refine ⟨_, rfl, .str p.text, .ty "str", _, _, true, rfl, .ty _, .base (.str p.text), kit_ty (by decide +kernel), true, rfl, ?_⟩
    refine ⟨_, rfl, rfl, _, rfl, ?_⟩
    cases p with
    | all => exact ifT (decide_eq_true rfl) (q H (Same.refl H))
    | pat f b =>
      have F := pat_facts hok
      obtain ⟨hf, hb⟩ := (show f.length ≤ 2 ∧ b.length ≤ 3 from hok)
      refine ifF (decide_eq_false fun z => F.ne (V.str.inj z)) ?_
      dsimp only [tNext]
      refine ⟨_, rfl, ⟨_, rfl⟩, _, _, rfl, rfl, by decide +kernel, sz1000 (Nat.lt_of_le_of_lt F.len (by decide)), fun a na => ?_⟩
      rw [F.part]
      refine ⟨a, _, rfl, .of upd_same, rfl, _, _, rfl, _, _, rfl, _, _, rfl, rfl, ?_⟩
      have s1 := same_new (o := .tup [V.str (sT f), .str ".." , .str (sT b)]) na
      generalize upd H a _ = H1 at s1 ⊢
      refine ⟨_, rfl, rfl, _, rfl, ifF rfl ?_⟩
      refine ⟨_, rfl, sT f, rfl, by rw [sT_len]; exact sz1000 (by omega), _, _, rfl, rfl, _, rfl, ?_⟩
      rw [sT_len]
      refine ifF (decide_eq_false (by omega)) ?_
      refine ⟨_, rfl, sT b, rfl, by rw [sT_len]; exact sz1000 (by omega), _, _, rfl, rfl, _, rfl, ?_⟩
      rw [sT_len]
      refine ifF (decide_eq_false (by omega)) ?_
      dsimp only [tNext]
      refine ⟨_, rfl, _, rfl, sT f, sT b, rfl, rfl, by rw [sT_len, sT_len]; exact sz1000 (by omega), sT f ++ sT b, rfl, fun D9 nD => ?_⟩
      have hall : ∀ c ∈ (sT f ++ sT b).cps.toList, c = 43 ∨ c = 45 := fun c hc => by
        rw [app_cps] at hc
        rcases List.mem_append.mp hc with h | h
        · exact sT_sign h
        · exact sT_sign h
      have hlen : (sT f ++ sT b).cps.toList.length ≤ 5 := by
        rw [app_cps, List.length_append, str_len, str_len, sT_len, sT_len]
        omega
      generalize sT f ++ sT b = z at hall hlen ⊢
      refine lc_gen (n := z.cps.size) (fun i H' => Same H1 H' ∧ H' D9 = some (.lst ((List.replicate i true).map V.bl))) ⟨same_new nD, upd_same⟩ (fun i H' hi _ => hi) (fun H' _ => Nat.le_refl _) ?_ ?_
      · intro i x H2 H' hi hP y
        obtain ⟨rfl, c, hc, rfl⟩ := y
        obtain ⟨s2, hd⟩ := hP
        have hl : z.cps.size = z.cps.toList.length := by simp
        have hc' : c = 43 ∨ c = 45 := hall c (List.mem_of_getElem? (by simpa using hc))
        refine ⟨rfl, _, rfl, by show 2 ≤ sizeLine; decide, fun t nt => ⟨t, _, rfl, .inr (.of upd_same), rfl, rfl, _, same_new nt _ _ hd, ?_, ?_, ?_⟩⟩
        · rw [List.length_map, List.length_replicate]
          exact small1000 (by omega)
        · refine same_set (s2.trans (same_new nt)) ?_
          exact nD
        · rw [upd_same]
          have e1 : (if false = true then !inV (V.str ⟨#[c]⟩) [V.str "+", V.str "-"] else inV (V.str ⟨#[c]⟩) [V.str "+", V.str "-"]) = true := by
            rcases hc' with e | e <;> rw [e] <;> decide +kernel
          rw [e1, List.replicate_succ', List.map_append]
          rfl
      · intro H' hP
        obtain ⟨s2, hd⟩ := hP
        refine ⟨D9, _, rfl, .of hd, ?_⟩
        have e1 : (List.replicate z.cps.size true).all id = true := by
          rw [List.all_eq_true]
          intro x hx
          rw [(List.mem_replicate.mp hx).2]
          rfl
        rw [e1]
        exact q H' (s1.trans s2)

theorem ok_check (Z : Zs mg) (D : Df K mg "check_parts" s_check_parts P_check_parts f fd) {fp : Addr} {dp : FuncData} (D_is_part : Cl P w K mg base "is_part" 1 fp dp P_is_part spIsPart) : FnOk P w K mg base CX0 2 f fd P_check_parts (spCheck K) := by
  refine D.F.ok sc_check_parts (fun vs H Q E h => ?_) (fun cdv A outer s H vs Q E hr h => ?_)
  · obtain ⟨a, ps, rfl, _⟩ := h
    rfl
  · obtain ⟨a, ps, rfl, hS, hok, hl, q⟩ := h
    have nd := sc_check_parts.nd
    refine ⟨_,
    (pss_one
    (ps_for PassesOwn.never rfl (pi_enumT (by rfl) Z.z_enumerate (pa_cons (pv 0) pa_nil)) (pg_tup rfl (pgs_cons (pg_name (i := 1) nd rfl (Or.inl rfl)) (pgs_cons (pg_name (i := 2) nd rfl (Or.inl rfl)) pgs_nil)))
      (pss_cons
      (ps_if (pt_cmpR op_ge (pv 1) (pe_gI rfl Z.g_MAX_PARTS) (nomark _))
        (pss_one
        ps_never)
        pss_nil)
      (pss_one
      (ps_if (pt_not (pt_val (pe_call D_is_part.ok (hr.mono (by decide)) (by rfl) D_is_part.g D_is_part.kp D_is_part.b .nil pass0 (pa_cons (pv 2) pa_nil))))
        (pss_one
        ps_never)
        pss_nil))))), ?_⟩
    refine ⟨_, rfl, a, _, rfl, hS, ?_⟩
    refine for_enumT (xs := pV ps) (fun i σ' H' => Same H H' ∧ ∃ x1 x2, σ' = [some (.ref a), x1, x2]) ⟨Same.refl H, none, none, rfl⟩ (fun i σ' H' _ hP => sameT hP.1 hS) (fun i x σ' H1 T hx hP nT => ?_) (fun σ' H1 hP => ?_)
    · obtain ⟨s1, x1, x2, rfl⟩ := hP
      obtain ⟨pt, hpt, rfl⟩ : ∃ pt, ps[i]? = some pt ∧ x = V.str pt.text := by
        have hx' : (ps.map fun p => V.str p.text)[i]? = some x := hx
        rw [List.getElem?_map] at hx'
        cases e : ps[i]? with
        | none => rw [e] at hx'; cases hx'
        | some pt =>
          rw [e] at hx'
          exact ⟨pt, rfl, (Option.some.inj hx').symm⟩
      have hi := (List.getElem?_eq_some_iff.mp hpt).1
      refine ⟨T, _, rfl, .of upd_same, rfl, _, _, rfl, _, _, rfl, rfl, ?_⟩
      refine ⟨_, rfl, _, _, rfl, rfl, _, rfl, ifF (decide_eq_false (by omega)) ?_⟩
      dsimp only [tNext]
      refine ⟨_, rfl, pt, rfl, hok pt (List.mem_of_getElem? hpt), fun H2 s2 => ⟨true, rfl, ifF rfl ?_⟩⟩
      exact ⟨(s1.trans (same_new nT)).trans s2, _, _, rfl⟩
    · obtain ⟨s1, x1, x2, rfl⟩ := hP
      exact q H1 s1

end
end K05
set_option Elab.async false
set_option linter.all false
set_option maxRecDepth 100000
set_option maxHeartbeats 4000000
/-! cutters as objects -/
namespace Cut
open PySem PySem.Spec PyProof.Rows L2 Ly
theorem pV_len (ps : List Part) : (pV ps).length = ps.length := List.length_map _
theorem pV_get {ps : List Part} {i : Nat} {x : V} (hx : (pV ps)[i]? = some x) : ∃ pt, ps[i]? = some pt ∧ x = V.str pt.text := by
  have hx' : (ps.map fun p => V.str p.text)[i]? = some x := hx
  rw [List.getElem?_map] at hx'
  cases e : ps[i]? with
  | none => rw [e] at hx'; cases hx'
  | some pt =>
    rw [e] at hx'
    exact ⟨pt, rfl, (Option.some.inj hx').symm⟩
/-- the value at a place -/
def atV (xs : List V) : V → V
  | .int i => xs.getD i.toNat .non
  | _ => .non
theorem map_atV (ps : List Part) (xs : List V) : (iV (places ps xs.length)).map (atV xs) = run ps xs := by
  rw [run_get]
  have h : ∀ l : List Nat, (∀ i ∈ l, i < xs.length) → (iV l).map (atV xs) = l.filterMap fun i => xs[i]? := by
    intro l
    induction l with
    | nil => intro _; rfl
    | cons a l ih =>
      intro h
      have ha := h a List.mem_cons_self
      rw [List.filterMap_cons, List.getElem?_eq_getElem ha, ← ih fun i hi => h i (List.mem_cons_of_mem _ hi)]
      show xs.getD (a : Int).toNat .non :: _ = _
      rw [Int.toNat_natCast, List.getD_eq_getElem?_getD, List.getElem?_eq_getElem ha]
      rfl
  exact h _ fun i hi => places_lt hi
/-- where the five places stand in a longer row, as values -/
def embV (n : Nat) : V → V
  | .int i => .int (if i < 2 then i else i + ((n : Int) - 5))
  | _ => .non
theorem map_embV {ps : List Part} (hok : ∀ p ∈ ps, Ok p) (h : keepsAll ps = false) {n : Nat} (hn : 5 ≤ n) : (iV (places ps 5)).map (embV n) = iV (places ps n) := by
  rw [places_five ps hok h n hn]
  unfold iV
  rw [List.map_map, List.map_map]
  refine List.map_congr_left fun i _ => ?_
  show V.int (if (i : Int) < 2 then (i : Int) else (i : Int) + ((n : Int) - 5)) = V.int ((emb n i : Nat) : Int)
  unfold emb
  by_cases h2 : i < 2
  · rw [if_pos h2, if_pos (by omega)]
  · rw [if_neg h2, if_neg (by omega)]
    refine congrArg V.int ?_
    omega
theorem iV_getI {l : List Nat} {i : Nat} {x : V} (hx : (iV l)[i]? = some x) : ∃ m : Nat, l[i]? = some m ∧ x = .int (m : Int) := by
  have hx' : (l.map fun (i : Nat) => V.int (i : Int))[i]? = some x := hx
  rw [List.getElem?_map] at hx'
  cases e : l[i]? with
  | none => rw [e] at hx'; cases hx'
  | some m =>
    rw [e] at hx'
    exact ⟨m, rfl, (Option.some.inj hx').symm⟩
/-- a cutter with these parts stands at x -/
structure CutAt (C : Addr) (H : Hp) (x : Addr) (ps : List Part) : Prop where
  ok : ∀ p ∈ ps, Ok p
  le : ps.length ≤ 4
  ex : ∃ (dx p t : Addr) (ts : List V), H x = some (.ins C dx [("_parts", .ref p), ("_table", .ref t), ("_keeps_all", .bl (keepsAll ps))]) ∧ H p = some (.tup (pV ps)) ∧ H t = some (.tup ts) ∧ ts.length = 7 ∧ ∀ i, i < 7 → ∃ q, ts[i]? = some (.ref q) ∧ H q = some (.tup (iV (places ps i)))
theorem CutAt.mono {C x : Addr} {H H' : Hp} {ps : List Part} (c : CutAt C H x ps) (k : ∀ b o, (∀ xs, o ≠ .lst xs) → H b = some o → H' b = some o) : CutAt C H' x ps := by
  obtain ⟨dx, p, t, ts, h1, h2, h3, hl, h4⟩ := c.ex
  refine ⟨c.ok, c.le, dx, p, t, ts, k _ _ (fun _ z => nomatch z) h1, k _ _ (fun _ z => nomatch z) h2, k _ _ (fun _ z => nomatch z) h3, hl, fun i hi => ?_⟩
  obtain ⟨q, e, hq⟩ := h4 i hi
  exact ⟨q, e, k _ _ (fun _ z => nomatch z) hq⟩
theorem CutAt.same {C x : Addr} {H H' : Hp} {ps : List Part} (c : CutAt C H x ps) (s : Same H H') : CutAt C H' x ps := c.mono fun b o _ h => s b o h
theorem CutAt.chg {C x d : Addr} {H H' : Hp} {ps : List Part} {xs : List V} (c : CutAt C H x ps) (s : Chg d H H') (hd : H d = some (.lst xs)) : CutAt C H' x ps :=
  c.mono fun b o n h => s b o (fun e => n xs (by rw [e, hd] at h; exact (Option.some.inj h).symm)) h
/-- what the class must have -/
structure CK (K : PySem.W.Frag) (C : Addr) : Prop where
  cls : Cls K C
  np : NoAttr K C "_parts"
  nt : NoAttr K C "_table"
  nk : NoAttr K C "_keeps_all"
  cc : PySem.W.findIn K (.ref C) "__class__" = some (some (.builtin "object.__class__"))
  cg : PySem.W.specialIn K (.builtin "object.__class__") "__get__" = some (some (.builtin "getset_descriptor.__get__"))
  ct : PySem.W.takesIn K (.builtin "object.__class__") = some true
  cm : PySem.W.mroIn K C (.type "object") = some true
  kit : PySem.W.kitOne K (.ref C) (.ref C) = some true
theorem CK.ty {K : PySem.W.Frag} {C : Addr} (c : CK K C) {H : Hp} {a dx : Addr} {fs : List (Str × V)} (e : H a = some (.ins C dx fs)) : TyX K H (.ref a) (.ref C) := .base (.ins e c.cls c.cc c.cg c.ct c.cm)
/-! ### tables as data -/
def dI (l : List Nat) : PyData := .tuple (l.map fun (i : Nat) => PyData.int (i : Int))
def dT (ps : List Part) : PyData := .tuple ((List.range 7).map fun i => dI (places ps i))
/-- the two keep the same of up to six places -/
def alike (ps qs : List Part) : Bool := (List.range 7).all fun i => decide (places ps i = places qs i)
theorem dpAll_iV {K : PySem.W.Frag} {H : Hp} : ∀ l : List Nat, DpAll K H (iV l) (l.map fun (i : Nat) => PyData.int (i : Int))
  | [] => .nil
  | i :: l => .cons (.int _) (dpAll_iV l)
theorem dp_iV {K : PySem.W.Frag} {H : Hp} {q : Addr} {l : List Nat} (h : H q = some (.tup (iV l))) : Dp K H (.ref q) (dI l) := .tup (.of h) (dpAll_iV l)
theorem dpAll_of {K : PySem.W.Frag} {H : Hp} {α : Type} (d : α → PyData) : ∀ (l : List α) (ts : List V), ts.length = l.length → (∀ (i : Nat) (x : α), l[i]? = some x → ∃ v, ts[i]? = some v ∧ Dp K H v (d x)) → DpAll K H ts (l.map d)
  | [], [], _, _ => .nil
  | [], _ :: _, h, _ => by cases h
  | _ :: _, [], h, _ => by cases h
  | x :: l, t :: ts, h, k => by
    obtain ⟨v, e, hv⟩ := k 0 x rfl
    cases e
    exact .cons hv (dpAll_of d l ts (Nat.succ.inj h) fun i y hy => k (i + 1) y hy)
theorem dp_table {K : PySem.W.Frag} {H : Hp} {t : Addr} {ts : List V} {ps : List Part} (h : H t = some (.tup ts)) (hl : ts.length = 7) (k : ∀ i, i < 7 → ∃ q, ts[i]? = some (.ref q) ∧ H q = some (.tup (iV (places ps i)))) : Dp K H (.ref t) (dT ps) := by
  refine .tup (.of h) (dpAll_of (fun i => dI (places ps i)) _ _ (by rw [hl, List.length_range]) fun i x hx => ?_)
  obtain ⟨hi, e⟩ := List.getElem?_eq_some_iff.mp hx
  rw [List.length_range] at hi
  rw [List.getElem_range] at e
  subst e
  obtain ⟨q, e1, e2⟩ := k i hi
  exact ⟨_, e1, dp_iV e2⟩
theorem eqvAll_ints : ∀ a b : List Nat, PyData.eqvAll (a.map fun (i : Nat) => PyData.int (i : Int)) (b.map fun (i : Nat) => PyData.int (i : Int)) = decide (a = b)
  | [], [] => rfl
  | [], _ :: _ => rfl
  | _ :: _, [] => rfl
  | x :: a, y :: b => by
    show (((x : Int) == (y : Int)) && PyData.eqvAll (a.map fun (i : Nat) => PyData.int (i : Int)) (b.map fun (i : Nat) => PyData.int (i : Int))) = _
    rw [eqvAll_ints a b]
    by_cases h : x = y
    · subst h
      rw [beq_self_eq_true, Bool.true_and, decide_eq_decide]
      exact ⟨fun h => by rw [h], fun h => (List.cons.inj h).2⟩
    · rw [show ((x : Int) == (y : Int)) = false from beq_eq_false_iff_ne.mpr (by omega), Bool.false_and]
      exact (decide_eq_false fun z => h (List.cons.inj z).1).symm
theorem eqv_dI (a b : List Nat) : PyData.eqv (dI a) (dI b) = decide (a = b) := eqvAll_ints a b
theorem eqvAll_map {α : Type} (f g : α → List Nat) : ∀ l : List α, PyData.eqvAll (l.map fun i => dI (f i)) (l.map fun i => dI (g i)) = l.all fun i => decide (f i = g i)
  | [] => rfl
  | x :: l => by
    show (PyData.eqv (dI (f x)) (dI (g x)) && PyData.eqvAll (l.map fun i => dI (f i)) (l.map fun i => dI (g i))) = _
    rw [eqv_dI, eqvAll_map f g l, List.all_cons]
theorem eqv_dT (ps qs : List Part) : PyData.eqv (dT ps) (dT qs) = alike ps qs := eqvAll_map _ _ _
theorem shp_ints : ∀ l : List Nat, PyData.canLayAll0 (l.map fun (i : Nat) => PyData.int (i : Int)) = true ∧ PyData.depthAll (l.map fun (i : Nat) => PyData.int (i : Int)) = 0
  | [] => ⟨rfl, rfl⟩
  | x :: l => by
    obtain ⟨h1, h2⟩ := shp_ints l
    exact ⟨h1, by show max 0 _ = 0; rw [h2]; rfl⟩
theorem shp_dI (l : List Nat) : SeqAt.shaped (dI l) = true := by
  obtain ⟨h1, h2⟩ := shp_ints l
  show (PyData.canLayAll0 (l.map fun (i : Nat) => PyData.int (i : Int)) && decide (PyData.depthAll (l.map fun (i : Nat) => PyData.int (i : Int)) + 1 ≤ 64)) = true
  rw [h1, h2]
  rfl
theorem shp_map {α : Type} (f : α → List Nat) : ∀ l : List α, PyData.canLayAll0 (l.map fun i => dI (f i)) = true ∧ PyData.depthAll (l.map fun i => dI (f i)) ≤ 1
  | [] => ⟨rfl, Nat.zero_le _⟩
  | x :: l => by
    obtain ⟨h1, h2⟩ := shp_map f l
    obtain ⟨h3, h4⟩ := shp_ints (f x)
    refine ⟨?_, ?_⟩
    · show (PyData.canLayAll0 ((f x).map fun (i : Nat) => PyData.int (i : Int)) && PyData.canLayAll0 (l.map fun i => dI (f i))) = true
      rw [h3, h1]
      rfl
    · show max (PyData.depthAll ((f x).map fun (i : Nat) => PyData.int (i : Int)) + 1) (PyData.depthAll (l.map fun i => dI (f i))) ≤ 1
      rw [h4]
      omega
theorem shp_dT (ps : List Part) : SeqAt.shaped (dT ps) = true := by
  obtain ⟨h1, h2⟩ := shp_map (fun i => places ps i) (List.range 7)
  show (PyData.canLayAll0 ((List.range 7).map fun i => dI (places ps i)) && decide (PyData.depthAll ((List.range 7).map fun i => dI (places ps i)) + 1 ≤ 64)) = true
  rw [h1]
  show decide _ = true
  exact decide_eq_true (by omega)
/-! ### what its defs promise -/
def cutText (ps : List Part) : Str := if ps = [] then "all" else Txt.join " > " (ps.map Part.text)
def spParts (C : Addr) : Sp := fun vs H Q _ => ∃ (x : Addr) (ps : List Part), vs = [.ref x] ∧ CutAt C H x ps ∧ ∀ p, H p = some (.tup (pV ps)) → Q (.ref p) H
def spKeeps (C : Addr) : Sp := fun vs H Q _ => ∃ (x : Addr) (ps : List Part), vs = [.ref x] ∧ CutAt C H x ps ∧ ∀ H', Same H H' → Q (.bl (keepsAll ps)) H'
def spCutLen (C : Addr) : Sp := fun vs H Q _ => ∃ (x : Addr) (ps : List Part), vs = [.ref x] ∧ CutAt C H x ps ∧ Q (.int ps.length) H
def spCutStr (C : Addr) : Sp := fun vs H Q _ => ∃ (x : Addr) (ps : List Part), vs = [.ref x] ∧ CutAt C H x ps ∧ ∀ H', Same H H' → Q (.str (cutText ps)) H'
def spCutEq (C : Addr) : Sp := fun vs H Q _ => ∃ (x y : Addr) (ps qs : List Part), vs = [.ref x, .ref y] ∧ CutAt C H x ps ∧ CutAt C H y qs ∧ Q (.bl (alike ps qs)) H
def spCutPlaces (C : Addr) : Sp := fun vs H Q _ => ∃ (x : Addr) (ps : List Part) (n : Nat), vs = [.ref x, .int n] ∧ CutAt C H x ps ∧ n ≤ 1000 ∧ ∀ H' q, Same H H' → H' q = some (.tup (iV (places ps n))) → Q (.ref q) H'
def spCutCall (C : Addr) : Sp := fun vs H Q _ => ∃ (x r : Addr) (ps : List Part) (xs : List V), vs = [.ref x, .ref r] ∧ CutAt C H x ps ∧ H r = some (.tup xs) ∧ xs.length ≤ 1000 ∧ ∀ H' q, Same H H' → H q = none → H' q = some (.tup (run ps xs)) → Q (.ref q) H'
def spCutOf (C : Addr) : Sp := fun vs H Q _ => ∃ (a : Addr) (ps : List Part), vs = [.ref C, .ref a] ∧ H a = some (.tup (pV ps)) ∧ (∀ p ∈ ps, Ok p) ∧ ps.length ≤ 4 ∧ ∀ H' x, Same H H' → H x = none → CutAt C H' x ps → Q (.ref x) H'
end Cut

set_option Elab.async false
set_option linter.all false
set_option maxRecDepth 100000
set_option maxHeartbeats 8000000
namespace K05
open PySem PySem.Spec PyProof.Rows L2 Ly Cut

abbrev s_of : Stmt := inClass (topS 25) 1
abbrev N_of : List Str := ["cls", "parts"]
abbrev P_of : List Str := ["cls", "parts"]
theorem sc_of : FnScope N_of P_of (defScope s_of) := ⟨rfl, rfl, rfl, by decide +kernel, rfl, by decide +kernel, by decide +kernel⟩

abbrev s_parts : Stmt := inClass (topS 25) 3
abbrev N_parts : List Str := ["self"]
abbrev P_parts : List Str := ["self"]
theorem sc_parts : FnScope N_parts P_parts (defScope s_parts) := ⟨rfl, rfl, rfl, by decide +kernel, rfl, by decide +kernel, by decide +kernel⟩

abbrev s_keeps_all : Stmt := inClass (topS 25) 4
abbrev N_keeps_all : List Str := ["self"]
abbrev P_keeps_all : List Str := ["self"]
theorem sc_keeps_all : FnScope N_keeps_all P_keeps_all (defScope s_keeps_all) := ⟨rfl, rfl, rfl, by decide +kernel, rfl, by decide +kernel, by decide +kernel⟩

abbrev s_callc : Stmt := inClass (topS 25) 5
abbrev N_callc : List Str := ["self", "row", "at"]
abbrev P_callc : List Str := ["self", "row"]
theorem sc_callc : FnScope N_callc P_callc (defScope s_callc) := ⟨rfl, rfl, rfl, by decide +kernel, rfl, by decide +kernel, by decide +kernel⟩

abbrev s_places : Stmt := inClass (topS 25) 6
abbrev N_places : List Str := ["self", "many", "between", "at"]
abbrev P_places : List Str := ["self", "many"]
theorem sc_places : FnScope N_places P_places (defScope s_places) := ⟨rfl, rfl, rfl, by decide +kernel, rfl, by decide +kernel, by decide +kernel⟩

abbrev s_lenc : Stmt := inClass (topS 25) 11
abbrev N_lenc : List Str := ["self"]
abbrev P_lenc : List Str := ["self"]
theorem sc_lenc : FnScope N_lenc P_lenc (defScope s_lenc) := ⟨rfl, rfl, rfl, by decide +kernel, rfl, by decide +kernel, by decide +kernel⟩

abbrev s_eqc : Stmt := inClass (topS 25) 12
abbrev N_eqc : List Str := ["self", "other"]
abbrev P_eqc : List Str := ["self", "other"]
theorem sc_eqc : FnScope N_eqc P_eqc (defScope s_eqc) := ⟨rfl, rfl, rfl, by decide +kernel, rfl, by decide +kernel, by decide +kernel⟩

abbrev s_strc : Stmt := inClass (topS 25) 13
abbrev N_strc : List Str := ["self"]
abbrev P_strc : List Str := ["self"]
theorem sc_strc : FnScope N_strc P_strc (defScope s_strc) := ⟨rfl, rfl, rfl, by decide +kernel, rfl, by decide +kernel, by decide +kernel⟩

abbrev s_keep_all : Stmt := topS 23
abbrev N_keep_all : List Str := ["parts", "part"]
abbrev P_keep_all : List Str := ["parts"]
theorem sc_keep_all : FnScope N_keep_all P_keep_all (defScope s_keep_all) := ⟨rfl, rfl, rfl, by decide +kernel, rfl, by decide +kernel, by decide +kernel⟩

section
variable {P : Program} {w : World} {K : PySem.W.Frag} {mg : Str → Option Value} {base : Heap} {f C : Addr} {fd : FuncData}
def spInitB (C : Addr) : Sp := fun vs H Q _ => ∃ (x dx p : Addr) (ps : List Part), vs = [.ref x, .ref p] ∧ H x = some (.ins C dx []) ∧ H p = some (.tup (pV ps)) ∧ (∀ p ∈ ps, Ok p) ∧ ps.length ≤ 4 ∧ ∀ H', Chg x H H' → CutAt C H' x ps → Q .non H'
def spKeepAll (K : PySem.W.Frag) : Sp := fun vs H Q _ => ∃ (a : Addr) (ps : List Part), vs = [.ref a] ∧ SqT K H a (pV ps) ∧ (∀ p ∈ ps, Ok p) ∧ ps.length ≤ 4 ∧ ∀ H', Same H H' → Q (.bl (keepsAll ps)) H'
theorem ok_keep_all (Z : Zs mg) (D : Df K mg "keep_all" s_keep_all P_keep_all f fd) : FnOk P w K mg base CX0 1 f fd P_keep_all (spKeepAll K) := by
  refine D.F.ok sc_keep_all (fun vs H Q E h => ?_) (fun cdv A outer s H vs Q E hr h => ?_)
  · obtain ⟨a, ps, rfl, _⟩ := h
    rfl
  · obtain ⟨a, ps, rfl, hS, hok, hl, q⟩ := h
    have nd := sc_keep_all.nd
    refine ⟨_,
    (pss_one
    (ps_ret (pe_callB (cr_all rfl) (by rfl) Z.z_all (by decide +kernel) (pa_cons (pe_lc (own := [("part", 1)]) (g := gName 1) (tt := tYes) rfl nd (pi_tup (pv 0)) (blkOk_by (N := N_keep_all) (sc := defScope s_keep_all) (by decide +kernel)) (fun _ _ _ _ _ => (pg_name (i := 1) nd rfl (Or.inl rfl))) (fun _ _ _ _ _ => pts_nil) (fun _ _ _ _ _ => (pe_cmpR op_eq (pv 1) (pe_gS rfl Z.g_KEEP_ALL) (nomark _)))) pa_nil)))), ?_⟩
    refine ⟨_, rfl, a, rfl, ⟨_, hS⟩, fun D9 nD => ?_⟩
    refine lc_mapT (pV ps) (fun v => .bl (decide (v = V.str "all"))) hS nD (by rw [pV_len]; exact sz1000 (by omega)) (fun i v H1 Q' N hv s1 k => ?_) (fun H1 s1 hd => ?_)
    · obtain ⟨pt, _, rfl⟩ := pV_get hv
      exact ⟨rfl, _, rfl, rfl, k H1 (Same.refl H1)⟩
    · refine ⟨D9, ps.map fun p => decide (p = .all), rfl, .of ?_, ?_⟩
      · rw [hd]
        unfold pV
        rw [List.map_map, List.map_map]
        refine congrArg (fun l => some (HO.lst l)) (List.map_congr_left fun pt hpt => ?_)
        show V.bl (decide (V.str pt.text = V.str "all")) = V.bl (decide (pt = .all))
        rw [← text_all (hok pt hpt)]
        refine congrArg V.bl ?_
        rw [decide_eq_decide]
        exact ⟨fun h => V.str.inj h, fun h => congrArg V.str h⟩
      · rw [List.all_map]
        exact q H1 s1
/-- a cutter is made of these parts -/
def spInit (C : Addr) : Sp := fun vs H Q _ => ∃ (x dx : Addr) (ps : List Part), vs = .ref x :: pV ps ∧ H x = some (.ins C dx []) ∧ (∀ p ∈ ps, Ok p) ∧ ps.length ≤ 4 ∧ ∀ H', Chg x H H' → CutAt C H' x ps → Q .non H'
theorem ok_init (Z : Zs mg) (F : Fun K "__init__" "Cutter.__init__" s_init f fd) (c : CK K C) {f1 f2 : Addr} {d1 d2 : FuncData} (D_check_parts : Cl P w K mg base "check_parts" 2 f1 d1 P_check_parts (spCheck K))
    (D_table_of : Cl P w K mg base "table_of" 4 f2 d2 P_table_of (spTable K)) {f3 : Addr} {d3 : FuncData} (D_keep_all : Cl P w K mg base "keep_all" 1 f3 d3 P_keep_all (spKeepAll K)) : FnR P w K mg base CX0 5 f (spInit C) := by
  have main : FnR P w K mg base CX0 5 f (fun vs H Q E => ∃ ws rest, vs = ws ++ rest ∧ ws.length = ["self"].length ∧ rest.length ≤ sizeLine ∧ ∀ p, H p = none → spInitB C (ws ++ [V.ref p]) (upd H p (.tup rest)) Q E) := by
    refine fun_star (ps := ["self"]) (pv := "parts") (N := N_init) F sc_init (fun kV doc pm an cdv ct => StX.bind_star1 (B := fun l => bindArgs (PySem.W.fnOf "__init__" "Cutter.__init__" (defArgs s_init) (defBody s_init) (defScope s_init) .none kV doc pm an cdv ct) ⟨l, []⟩) (fun a => rfl) (fun a r rs => rfl)) (fun cdv A outer s H vs Q E hr h => ?_)
    obtain ⟨x, dx, p, ps, rfl, hx, hp, hok, hl, q⟩ := h
    have nd := sc_init.nd
    refine ⟨_,
    (pss_cons
    (ps_expr (pe_call D_check_parts.ok (hr.mono (by decide)) (by rfl) D_check_parts.g D_check_parts.kp D_check_parts.b .nil pass0 (pa_cons (pv 1) pa_nil)))
    (pss_cons
    (ps_fld (pv 0) (pv 1) rfl)
    (pss_cons
    (ps_fld (pv 0) (pe_call D_table_of.ok (hr.mono (by decide)) (by rfl) D_table_of.g D_table_of.kp D_table_of.b .nil pass0 (pa_cons (pv 1) pa_nil)) rfl)
    (pss_one
    (ps_fld (pv 0) (pe_call D_keep_all.ok (hr.mono (by decide)) (by rfl) D_keep_all.g D_keep_all.kp D_keep_all.b .nil pass0 (pa_cons (pv 1) pa_nil)) rfl))))), ?_⟩
    refine ⟨_, rfl, p, ps, rfl, .of hp, hok, hl, fun H1 s1 => ?_⟩
    have hx1 := s1 _ _ hx
    have hp1 := s1 _ _ hp
    refine ⟨_, rfl, _, rfl, x, C, dx, [], rfl, hx1, c.cls, c.np, by decide, ?_⟩
    have c1 : Chg x H (upd H1 x (.ins C dx [("_parts", .ref p)])) := (Chg.of s1).upd
    have hne : p ≠ x := fun e => by rw [e, hx] at hp; cases hp
    have hp2 : (upd H1 x (.ins C dx [("_parts", .ref p)])) p = some (.tup (pV ps)) := by rw [upd_ne hne]; exact hp1
    have hx2 : (upd H1 x (.ins C dx [("_parts", .ref p)])) x = some (.ins C dx [("_parts", .ref p)]) := upd_same
    dsimp only [putF] at *
    generalize upd H1 x (.ins C dx [("_parts", .ref p)]) = H2 at c1 hp2 hx2 ⊢
    refine ⟨_, rfl, p, ps, rfl, .of hp2, hok, fun H3 t ts s4 nt ht hlen hts => ?_⟩
    refine ⟨_, rfl, x, C, dx, [("_parts", .ref p)], rfl, s4 _ _ hx2, c.cls, c.nt, by show 1 < 1000; decide, ?_⟩
    have ntx : t ≠ x := fun e => by rw [e, hx2] at nt; cases nt
    have c4 := (c1.trans (Chg.of s4)).upd (d := x) (o := HO.ins C dx [("_parts", .ref p), ("_table", .ref t)])
    have hp4 : (upd H3 x (.ins C dx [("_parts", .ref p), ("_table", .ref t)])) p = some (.tup (pV ps)) := by rw [upd_ne hne]; exact s4 _ _ hp2
    have ht4 : (upd H3 x (.ins C dx [("_parts", .ref p), ("_table", .ref t)])) t = some (.tup ts) := by rw [upd_ne ntx]; exact ht
    have hx4 : (upd H3 x (.ins C dx [("_parts", .ref p), ("_table", .ref t)])) x = some (.ins C dx [("_parts", .ref p), ("_table", .ref t)]) := upd_same
    have hq4 : ∀ j, j < 7 → ∃ q, ts[j]? = some (.ref q) ∧ (upd H3 x (.ins C dx [("_parts", .ref p), ("_table", .ref t)])) q = some (.tup (iV (places ps j))) := fun j hj => by
      obtain ⟨r, e1, e2⟩ := hts j hj
      have nrx : r ≠ x := fun e => by rw [e, s4 _ _ hx2] at e2; cases e2
      exact ⟨r, e1, by rw [upd_ne nrx]; exact e2⟩
    rw [show putF "_table" (V.ref t) [("_parts", V.ref p)] = [((("_parts" : Str)), V.ref p), ((("_table" : Str)), V.ref t)] from rfl]
    generalize upd H3 x (.ins C dx [("_parts", .ref p), ("_table", .ref t)]) = H4 at c4 hp4 ht4 hx4 hq4 ⊢
    refine ⟨_, rfl, p, ps, rfl, .of hp4, hok, hl, fun H5 s5 => ?_⟩
    refine ⟨_, rfl, x, C, dx, [("_parts", .ref p), ("_table", .ref t)], rfl, s5 _ _ hx4, c.cls, c.nk, by show 2 < 1000; decide, ?_⟩
    refine q _ ((c4.trans (Chg.of s5)).upd) ⟨hok, hl, dx, p, t, ts, upd_same, ?_, ?_, hlen, fun j hj => ?_⟩
    · rw [upd_ne hne]
      exact s5 _ _ hp4
    · rw [upd_ne ntx]
      exact s5 _ _ ht4
    · obtain ⟨r, e1, e2⟩ := hq4 j hj
      have nrx : r ≠ x := fun e => by rw [e, hx4] at e2; cases e2
      exact ⟨r, e1, by rw [upd_ne nrx]; exact s5 _ _ e2⟩
  refine main.imp fun vs H Q E h => ?_
  obtain ⟨x, dx, ps, rfl, hx, hok, hl, q⟩ := h
  refine ⟨[.ref x], pV ps, rfl, rfl, ?_, fun p np => ⟨x, dx, p, ps, rfl, ?_, upd_same, hok, hl, fun H' c' k => q H' (fun b o hb e => c' b o hb (same_new np b o e)) k⟩⟩
  · unfold pV
    rw [List.length_map]
    exact sz1000 (by omega)
  · exact same_new np _ _ hx

abbrev s_is_whole : Stmt := topS 2
abbrev N_is_whole : List Str := ["value"]
abbrev P_is_whole : List Str := ["value"]
theorem sc_is_whole : FnScope N_is_whole P_is_whole (defScope s_is_whole) := ⟨rfl, rfl, rfl, by decide +kernel, rfl, by decide +kernel, by decide +kernel⟩

def spWhole (K : PySem.W.Frag) : Sp := fun vs H Q _ => ∃ (x : V) (t : String) (b1 b2 : Bool), vs = [x] ∧ Ly.TyB K H x t ∧ kitB t "int" = some b1 ∧ (b1 = true → kitB t "bool" = some b2) ∧ Q (.bl (b1 && !b2)) H
theorem ok_whole (Z : Zs mg) (D : Df K mg "is_whole" s_is_whole P_is_whole f fd) : FnOk P w K mg base CX0 1 f fd P_is_whole (spWhole K) := by
  refine D.F.ok sc_is_whole (fun vs H Q E h => ?_) (fun cdv A outer s H vs Q E hr h => ?_)
  · obtain ⟨x, t, _, _, rfl, _⟩ := h
    rfl
  · obtain ⟨x, t, b1, b2, rfl, ht, k1, k2, q⟩ := h
    have nd := sc_is_whole.nd
    refine ⟨_,
    (pss_one
    (ps_ret (pe_and (pe_callB call_isi (by rfl) Z.z_isinstance (by decide +kernel) (pa_cons (pv 0) (pa_cons (pe_bltn (v := .ty "int") (by rfl) Z.z_int (by decide +kernel) rfl) pa_nil))) (pe_one (pe_not (pe_callB call_isi (by rfl) Z.z_isinstance (by decide +kernel) (pa_cons (pv 0) (pa_cons (pe_bltn (v := .ty "bool") (by rfl) Z.z_bool (by decide +kernel) rfl) pa_nil)))))))), ?_⟩
    refine ⟨_, rfl, x, .ty "int", _, _, b1, rfl, .ty _, ht, kit_ty k1, b1, rfl, ?_⟩
    cases b1 with
    | false => exact q
    | true => exact ⟨_, rfl, x, .ty "bool", _, _, b2, rfl, .ty _, ht, kit_ty (k2 rfl), b2, rfl, q⟩
/-- a def of a class, called -/
structure Cm (P : Program) (w : World) (K : PySem.W.Frag) (mg : Str → Option Value) (base : Heap) (k : Nat) (f : Addr) (fd : FuncData) (ps : List Str) (sp : Sp) : Prop where
  ok : FnOk P w K mg base CX0 k f fd ps sp
  b : Binds K fd ps []

theorem okm_parts (Z : Zs mg) (D : Dm K "parts" "Cutter.parts" s_parts P_parts f fd) (c : CK K C)  : FnOk P w K mg base CX0 1 f fd P_parts (spParts C) := by
  refine D.F.ok sc_parts (fun vs H Q E h => ?_) (fun cdv A outer s H vs Q E hr h => ?_)
  · obtain ⟨x, ps, rfl, _⟩ := h
    rfl
  · obtain ⟨x, ps, rfl, hcx, q⟩ := h
    have nd := sc_parts.nd
    have hu : (A.deeper (envOfC "Cutter.parts" (defScope s_parts) s.heap.objs.size f cdv)).units + 64 < cLine := by
      have := hr.un
      omega
    obtain ⟨dx, p, t, ts, hx, hp, ht, hlen, hts⟩ := hcx.ex
    refine ⟨_,
    (pss_one
    (ps_ret (pe_fld (pv 0) rfl))), ?_⟩
    exact ⟨_, rfl, x, C, dx, _, .ref p, rfl, hx, c.cls, c.np, rfl, q p hp⟩

theorem okm_keeps_all (Z : Zs mg) (D : Dm K "keeps_all" "Cutter.keeps_all" s_keeps_all P_keeps_all f fd) (c : CK K C)  : FnOk P w K mg base CX0 1 f fd P_keeps_all (spKeeps C) := by
  refine D.F.ok sc_keeps_all (fun vs H Q E h => ?_) (fun cdv A outer s H vs Q E hr h => ?_)
  · obtain ⟨x, ps, rfl, _⟩ := h
    rfl
  · obtain ⟨x, ps, rfl, hcx, q⟩ := h
    have nd := sc_keeps_all.nd
    have hu : (A.deeper (envOfC "Cutter.keeps_all" (defScope s_keeps_all) s.heap.objs.size f cdv)).units + 64 < cLine := by
      have := hr.un
      omega
    obtain ⟨dx, p, t, ts, hx, hp, ht, hlen, hts⟩ := hcx.ex
    refine ⟨_,
    (pss_one
    (ps_ret (pe_fld (pv 0) rfl))), ?_⟩
    exact ⟨_, rfl, x, C, dx, _, .bl (keepsAll ps), rfl, hx, c.cls, c.nk, rfl, q H (Same.refl H)⟩

theorem okm_lenc (Z : Zs mg) (D : Dm K "__len__" "Cutter.__len__" s_lenc P_lenc f fd) (c : CK K C)  : FnOk P w K mg base CX0 1 f fd P_lenc (spCutLen C) := by
  refine D.F.ok sc_lenc (fun vs H Q E h => ?_) (fun cdv A outer s H vs Q E hr h => ?_)
  · obtain ⟨x, ps, rfl, _⟩ := h
    rfl
  · obtain ⟨x, ps, rfl, hcx, q⟩ := h
    have nd := sc_lenc.nd
    have hu : (A.deeper (envOfC "Cutter.__len__" (defScope s_lenc) s.heap.objs.size f cdv)).units + 64 < cLine := by
      have := hr.un
      omega
    obtain ⟨dx, p, t, ts, hx, hp, ht, hlen, hts⟩ := hcx.ex
    refine ⟨_,
    (pss_one
    (ps_ret (pe_callB call_lenT (by rfl) Z.z_len (by decide +kernel) (pa_cons (pe_fld (pv 0) rfl) pa_nil)))), ?_⟩
    refine ⟨_, rfl, x, C, dx, _, .ref p, rfl, hx, c.cls, c.np, rfl, p, pV ps, rfl, .of hp, ?_⟩
    rw [pV_len]
    exact q

theorem okm_strc (Z : Zs mg) (D : Dm K "__str__" "Cutter.__str__" s_strc P_strc f fd) (c : CK K C)  : FnOk P w K mg base CX0 1 f fd P_strc (spCutStr C) := by
  refine D.F.ok sc_strc (fun vs H Q E h => ?_) (fun cdv A outer s H vs Q E hr h => ?_)
  · obtain ⟨x, ps, rfl, _⟩ := h
    rfl
  · obtain ⟨x, ps, rfl, hcx, q⟩ := h
    have nd := sc_strc.nd
    have hu : (A.deeper (envOfC "Cutter.__str__" (defScope s_strc) s.heap.objs.size f cdv)).units + 64 < cLine := by
      have := hr.un
      omega
    obtain ⟨dx, p, t, ts, hx, hp, ht, hlen, hts⟩ := hcx.ex
    refine ⟨_,
    (pss_one
    (ps_ret (pe_join pe_str (pe_orT (pe_fld (pv 0) rfl) (pe_one (pe_tup (pa_cons (pe_gS rfl Z.g_KEEP_ALL) pa_nil))))))), ?_⟩
    refine ⟨⟨_, rfl⟩, _, rfl, x, C, dx, _, .ref p, rfl, hx, c.cls, c.np, rfl, !(pV ps).isEmpty, .inr (.inl ⟨_, .of hp, rfl⟩), ?_⟩
    cases ps with
    | nil =>
      refine ifF rfl ⟨by show 1 ≤ sizeLine; decide, fun t nt => ⟨_, t, [Part.text .all], rfl, rfl, .inr (.of upd_same), by decide +kernel, q _ (same_new nt)⟩⟩
    | cons pt r =>
      refine ifT rfl ⟨_, p, (pt :: r).map Part.text, rfl, rfl, .inr (.of ?_), ?_, q H (Same.refl H)⟩
      · rw [hp]
        unfold pV
        rw [List.map_map]
        rfl
      · have hb : ∀ l : List Part, (∀ p ∈ l, Ok p) → (l.map fun p => p.text.length).sum ≤ 10 * l.length := by
          intro l
          induction l with
          | nil => intro _; exact Nat.le_refl _
          | cons a l ih =>
            intro h
            have h1 := text_len (h a List.mem_cons_self)
            have h2 := ih fun p hp => h p (List.mem_cons_of_mem _ hp)
            rw [List.map_cons, List.sum_cons, List.length_cons]
            omega
        have h1 := hb (pt :: r) hcx.ok
        have h2 := hcx.le
        rw [List.map_map, List.length_map]
        have e3 : (Str.ofString " > ").length = 3 := by decide +kernel
        show ((pt :: r).map fun p => p.text.length).sum + (pt :: r).length * (Str.ofString " > ").length ≤ 16777216
        rw [e3]
        omega

theorem okm_eqc (Z : Zs mg) (D : Dm K "__eq__" "Cutter.__eq__" s_eqc P_eqc f fd) (c : CK K C) (hC : mg "Cutter" = some (.ref C)) : FnOk P w K mg base CX0 1 f fd P_eqc (spCutEq C) := by
  refine D.F.ok sc_eqc (fun vs H Q E h => ?_) (fun cdv A outer s H vs Q E hr h => ?_)
  · obtain ⟨x, y, ps, qs, rfl, _⟩ := h
    rfl
  · obtain ⟨x, y, ps, qs, rfl, hcx, q⟩ := h
    have nd := sc_eqc.nd
    have hu : (A.deeper (envOfC "Cutter.__eq__" (defScope s_eqc) s.heap.objs.size f cdv)).units + 64 < cLine := by
      have := hr.un
      omega
    obtain ⟨dx, p, t, ts, hx, hp, ht, hlen, hts⟩ := hcx.ex
    refine ⟨_,
    (pss_one
    (ps_ret (pe_and (pe_callB call_isi (by rfl) Z.z_isinstance (by decide +kernel) (pa_cons (pv 1) (pa_cons (pe_glob (v := .ref C) rfl hC rfl) pa_nil))) (pe_one (pe_cmpR (op_eqD hu) (pe_fld (pv 0) rfl) (pe_fld (pv 1) rfl) (nomark _)))))), ?_⟩
    obtain ⟨hcy, q⟩ := q
    obtain ⟨dy, p', t', ts', hy, hp', ht', hlen', hts'⟩ := hcy.ex
    refine ⟨_, rfl, .ref y, .ref C, _, _, true, rfl, .own C, c.ty hy, c.kit, true, rfl, ?_⟩
    refine ⟨_, rfl, x, C, dx, _, .ref t, rfl, hx, c.cls, c.nt, rfl, _, rfl, y, C, dy, _, .ref t', rfl, hy, c.cls, c.nt, rfl, dT ps, dT qs, dp_table ht hlen hts, dp_table ht' hlen' hts', shp_dT _, shp_dT _, ?_⟩
    rw [eqv_dT]
    exact q

theorem okm_places (Z : Zs mg) (D : Dm K "places" "Cutter.places" s_places P_places f fd) (c : CK K C) {f1 f2 p2 : Addr} {d1 d2 : FuncData} (D_is_whole : Cl P w K mg base "is_whole" 1 f1 d1 P_is_whole (spWhole K)) (pr_keeps_all : PropOf K C "keeps_all" p2 f2) (M_keeps_all : Cm P w K mg base 1 f2 d2 P_keeps_all (spKeeps C)) : FnOk P w K mg base CX0 3 f fd P_places (spCutPlaces C) := by
  refine D.F.ok sc_places (fun vs H Q E h => ?_) (fun cdv A outer s H vs Q E hr h => ?_)
  · obtain ⟨x, ps, n, rfl, _⟩ := h
    rfl
  · obtain ⟨x, ps, n, rfl, hcx, q⟩ := h
    have nd := sc_places.nd
    have hu : (A.deeper (envOfC "Cutter.places" (defScope s_places) s.heap.objs.size f cdv)).units + 64 < cLine := by
      have := hr.un
      omega
    obtain ⟨dx, p, t, ts, hx, hp, ht, hlen, hts⟩ := hcx.ex
    refine ⟨_,
    (pss_cons
    (ps_if (PW.pt (pw_or (pt_not (pt_truth (pe_call D_is_whole.ok (hr.mono (by decide)) (by rfl) D_is_whole.g D_is_whole.kp D_is_whole.b .nil pass0 (pa_cons (pv 1) pa_nil)) (by intro _; rfl))) (pw_or1 (pt_not (pt_chain op_le op_le pe_int (pv 1) (pe_gI rfl Z.g_MAX_ROW))))))
      (pss_one
      ps_never)
      pss_nil)
    (pss_cons
    (ps_if (pt_cmpR op_le (pv 1) (pe_gI rfl Z.g_REACH) (nomark _))
      (pss_one
      (ps_ret (pe_ix ix_tup (pe_fld (pv 0) rfl) (pv 1) (fun _ _ => rfl))))
      pss_nil)
    (pss_cons
    (ps_if (pt_val (pe_prop (pv 0) c.cls pr_keeps_all M_keeps_all.ok (hr.mono (by decide)) M_keeps_all.b .nil pass0 rfl))
      (pss_one
      (ps_ret (pe_tupRg rfl (by rfl) Z.z_tuple (prg_1 (by rfl) Z.z_range (pv 1)))))
      pss_nil)
    (pss_cons
    (ps_set (i := 2) nd rfl (Or.inr rfl) (pe_op op_sub (pv 1) (pe_gI rfl Z.g_REACH)))
    (pss_one
    (ps_ret (pe_callTy call_tuple_of (by rfl) Z.z_tuple (by decide +kernel) (pa_cons (pe_lc (own := [("at", 3)]) (g := gName 3) (tt := tYes) rfl nd (pi_tup (pe_ix ix_tup (pe_fld (pv 0) rfl) (pe_gI rfl Z.g_REACH) (fun _ _ => rfl))) (blkOk_by (N := N_places) (sc := defScope s_places) (by decide +kernel)) (fun _ _ _ _ _ => (pg_name (i := 3) nd rfl (Or.inl rfl))) (fun _ _ _ _ _ => pts_nil) (fun _ _ _ _ _ => (pe_ifExp (pt_cmpR op_lt (pv 3) (pe_gI rfl Z.g_MAX_FRONT) (nomark _)) (pv 3) (pe_op op_add (pv 3) (pv 2))))) pa_nil)))))))), ?_⟩
    obtain ⟨hn, q⟩ := q
    refine ⟨_, rfl, .int n, "int", true, false, rfl, .base (.int _), by decide +kernel, fun _ => by decide +kernel, ⟨true, rfl, ifF rfl ?_⟩⟩
    refine ⟨_, rfl, _, _, rfl, rfl, _, rfl, ifT (decide_eq_true (by omega)) ⟨_, _, rfl, rfl, _, rfl, ?_⟩⟩
    refine ifF (by rw [decide_eq_true (show (n : Int) ≤ 1000 by omega)]; rfl) ?_
    dsimp only [tNext]
    refine ⟨_, rfl, _, _, rfl, rfl, _, rfl, ?_⟩
    by_cases h5 : (n : Int) ≤ 5
    · obtain ⟨r, e1, e2⟩ := hts n (by omega)
      exact ifT (decide_eq_true h5) ⟨_, rfl, x, C, dx, _, .ref t, rfl, hx, c.cls, c.nt, rfl, _, rfl, t, ts, n, .ref r, rfl, rfl, .of ht, atI_nat e1, q H r (Same.refl H) e2⟩
    refine ifF (decide_eq_false h5) ?_
    dsimp only [tNext]
    refine ⟨_, rfl, x, dx, _, rfl, hx, x, ps, rfl, hcx, fun H1 s1 => ⟨keepsAll ps, rfl, ?_⟩⟩
    by_cases hk : keepsAll ps = true
    · refine ifT hk ⟨_, rfl, n, rfl, .of_le (by decide) (by omega) (by decide) (by omega), fun r nr => ?_⟩
      refine q _ r (s1.trans (same_new nr)) ?_
      rw [upd_same, rgV_iV]
      show _ = some (HO.tup (iV (run ps (List.range n))))
      rw [run_all ps _ hk]
    refine ifF (eq_false_of_ne_true hk) ?_
    dsimp only [tNext]
    refine ⟨_, rfl, _, _, rfl, rfl, ?_⟩
    obtain ⟨r, e1, e2⟩ := hts 5 (by omega)
    refine ⟨_, rfl, x, C, dx, _, .ref t, rfl, s1 _ _ hx, c.cls, c.nt, rfl, t, ts, (5 : Nat), .ref r, rfl, rfl, .of (s1 _ _ ht), atI_nat e1, ?_⟩
    have e2' := s1 _ _ e2
    refine ⟨r, rfl, ⟨_, .of e2'⟩, fun D9 nD => ?_⟩
    refine lc_mapT (iV (places ps 5)) (embV n) (.of e2') nD (by rw [iV_len]; exact sz1000 (by have := places_len ps 5; omega)) (fun i v H2 Q' N hv s2 k => ?_) (fun H2 s2 hd => ?_)
    · obtain ⟨m, _, rfl⟩ := iV_getI hv
      have k' := k H2 (Same.refl H2)
      refine ⟨rfl, _, rfl, _, _, rfl, rfl, _, rfl, ?_⟩
      have e : embV n (.int (m : Int)) = .int (if (m : Int) < 2 then (m : Int) else (m : Int) + ((n : Int) - 5)) := rfl
      rw [e] at k'
      by_cases h2 : (m : Int) < 2
      · rw [if_pos h2] at k'
        exact ifT (decide_eq_true h2) ⟨_, rfl, k'⟩
      · rw [if_neg h2] at k'
        exact ifF (decide_eq_false h2) ⟨_, rfl, _, rfl, _, _, rfl, rfl, k'⟩
    · refine ⟨D9, _, rfl, .inl ⟨.of hd, fun r2 nr2 => q _ r2 ((s1.trans s2).trans (same_new nr2)) ?_⟩⟩
      rw [upd_same, map_embV hcx.ok (eq_false_of_ne_true hk) (by omega)]

theorem okm_callc (Z : Zs mg) (D : Dm K "__call__" "Cutter.__call__" s_callc P_callc f fd) (c : CK K C) {f1 : Addr} {d1 : FuncData} (me_places : Meth K C "places" f1) (M_places : Cm P w K mg base 3 f1 d1 P_places (spCutPlaces C)) : FnOk P w K mg base CX0 4 f fd P_callc (spCutCall C) := by
  refine D.F.ok sc_callc (fun vs H Q E h => ?_) (fun cdv A outer s H vs Q E hr h => ?_)
  · obtain ⟨x, r, ps, xs, rfl, _⟩ := h
    rfl
  · obtain ⟨x, r, ps, xs, rfl, hcx, q⟩ := h
    have nd := sc_callc.nd
    have hu : (A.deeper (envOfC "Cutter.__call__" (defScope s_callc) s.heap.objs.size f cdv)).units + 64 < cLine := by
      have := hr.un
      omega
    obtain ⟨dx, p, t, ts, hx, hp, ht, hlen, hts⟩ := hcx.ex
    refine ⟨_,
    (pss_cons
    (ps_if (PW.pt (pw_or (pt_not (pt_val (pe_callB call_isi (by rfl) Z.z_isinstance (by decide +kernel) (pa_cons (pv 1) (pa_cons (pe_bltn (v := .ty "tuple") (by rfl) Z.z_tuple (by decide +kernel) rfl) pa_nil))))) (pw_or1 (pt_cmpR op_gt (pe_callB call_lenT (by rfl) Z.z_len (by decide +kernel) (pa_cons (pv 1) pa_nil)) (pe_gI rfl Z.g_MAX_ROW) (nomark _)))))
      (pss_one
      ps_never)
      pss_nil)
    (pss_one
    (ps_ret (pe_callTy call_tuple_of (by rfl) Z.z_tuple (by decide +kernel) (pa_cons (pe_lc (own := [("at", 2)]) (g := gName 2) (tt := tYes) rfl nd (pi_tup (pe_meth (pv 0) c.cls me_places M_places.ok (hr.mono (by decide)) M_places.b .nil pass0 (pa_cons (pe_callB call_lenT (by rfl) Z.z_len (by decide +kernel) (pa_cons (pv 1) pa_nil)) pa_nil))) (blkOk_by (N := N_callc) (sc := defScope s_callc) (by decide +kernel)) (fun _ _ _ _ _ => (pg_name (i := 2) nd rfl (Or.inl rfl))) (fun _ _ _ _ _ => pts_nil) (fun _ _ _ _ _ => (pe_ix (ixT (K := K) rfl) (pv 1) (pv 2) (fun _ _ => rfl)))) pa_nil))))), ?_⟩
    obtain ⟨hr2, hxs, q⟩ := q
    refine ⟨_, rfl, .ref r, .ty "tuple", _, _, true, rfl, .ty _, .base (.tup hr2), kit_ty (by decide +kernel), true, rfl, ifF rfl ?_⟩
    refine ⟨_, rfl, r, xs, rfl, .of hr2, _, _, rfl, rfl, _, rfl, ifF (decide_eq_false (by omega)) ?_⟩
    dsimp only [tNext]
    refine ⟨_, rfl, x, dx, _, rfl, hx, rfl, _, rfl, r, xs, rfl, .of hr2, x, ps, xs.length, rfl, hcx, hxs, fun H1 r1 s1 hr1 => ?_⟩
    refine ⟨r1, rfl, ⟨_, .of hr1⟩, fun D9 nD => ?_⟩
    refine lc_mapT (iV (places ps xs.length)) (atV xs) (.of hr1) nD (by rw [iV_len]; exact Nat.le_of_lt (small1000 (Nat.le_trans (places_len ps xs.length) hxs))) (fun i v H2 Q' N hv s2 k => ?_) (fun H2 s2 hd => ?_)
    · obtain ⟨m, hm, rfl⟩ := iV_getI hv
      have hml : m < xs.length := places_lt (List.mem_of_getElem? hm)
      have k' := k H2 (Same.refl H2)
      have e : atV xs (.int (m : Int)) = xs[m] := by
        show xs.getD (m : Int).toNat .non = _
        rw [Int.toNat_natCast, List.getD_eq_getElem?_getD, List.getElem?_eq_getElem hml]
        rfl
      rw [e] at k'
      exact ⟨rfl, _, rfl, _, rfl, r, xs, (m : Int), xs[m], rfl, rfl, .of ((s1.trans s2) _ _ hr2), atI_nat (List.getElem?_eq_getElem hml), k'⟩
    · refine ⟨D9, _, rfl, .inl ⟨.of hd, fun r2 nr2 => q _ r2 ((s1.trans s2).trans (same_new nr2)) ((s1.trans s2).free nr2) ?_⟩⟩
      rw [upd_same, map_atV]

theorem okm_of (Z : Zs mg) (D : Dm K "of" "Cutter.of" s_of P_of f fd) {fi : Addr} (M : Mk K C fi) (FI : FnR P w K mg base CX0 5 fi (spInit C)) : FnOk P w K mg base CX0 7 f fd P_of (spCutOf C) := by
  refine D.F.ok sc_of (fun vs H Q E h => ?_) (fun cdv A outer s H vs Q E hr h => ?_)
  · obtain ⟨a, ps, rfl, _⟩ := h
    rfl
  · obtain ⟨a, ps, rfl, ha, hok, hl, q⟩ := h
    have nd := sc_of.nd
    refine ⟨_,
    (pss_cons
    (ps_if (pt_not (pt_val (pe_callB call_isi (by rfl) Z.z_isinstance (by decide +kernel) (pa_cons (pv 1) (pa_cons (pe_bltn (v := .ty "tuple") (by rfl) Z.z_tuple (by decide +kernel) rfl) pa_nil)))))
      (pss_one
      ps_never)
      pss_nil)
    (pss_one
    (ps_ret (pe_makeVS M FI (hr.mono (by decide)) pass0 (pv 0) (pv 1))))), ?_⟩
    refine ⟨_, rfl, .ref a, .ty "tuple", _, _, true, rfl, .ty _, .base (.tup ha), kit_ty (by decide +kernel), true, rfl, ifF rfl ?_⟩
    dsimp only [tNext]
    refine ⟨_, rfl, rfl, _, rfl, a, pV ps, rfl, .inl (.of ha), fun x dx nx ndx hne => ⟨x, dx, ps, rfl, upd_same, hok, hl, fun H' c' k => ⟨rfl, q H' x (fun b o e => ?_) nx k⟩⟩⟩
    refine c' b o (ne_of_none e nx) ?_
    rw [upd_ne (ne_of_none e nx), upd_ne (ne_of_none e ndx)]
    exact e

end
end K05
set_option Elab.async false
set_option linter.all false
set_option maxRecDepth 100000
set_option maxHeartbeats 4000000
/-! == and != of an own instance with a value of any known type, by the class's own == -/
namespace Ly
open PySem PySem.Spec PyProof.Rows L2
section
variable {X : Cx} {CX : CXT} {k : Nat} {g C : Addr} {sp : Sp} {E : XK}
def rEqX (K : PySem.W.Frag) (C : Addr) (sp : Sp) (E : XK) (neg : Bool) : R2 := fun x y H Q => ∃ a dx fs t, x = .ref a ∧ H a = some (.ins C dx fs) ∧ TyX K H y t ∧ PySem.W.notFirst K C t = true ∧
  sp [.ref a, y] H (fun v H' => ∃ b : Bool, v = .bl b ∧ Q (.bl (b != neg)) H') E
theorem op_eqX (c : Sp1 X.K C g "__eq__") (F : FnR X.prog X.w X.K X.mg X.base CX k g sp) (hr : Room k X.A) (hx : Passes CX X E) : OpR X (compareOp .Eq) (rEqX X.K C sp E false) := by
  intro pins s σ H x y u v Q I rx ry h
  obtain ⟨a, dx, fs, t, rfl, ea, ty, hn, q⟩ := h
  obtain rfl : u = Value.ref a := rx
  obtain ⟨ox, od, J⟩ := ins_inst I ea
  obtain ⟨Pk, Z, hP, _⟩ := kit_of I ry ty
  obtain ⟨m, hF⟩ := I.fr
  refine PySem.W.cmp_ofEq (PySem.W.cmp_K (op := .Eq) (tb := t) hr.units0 hF I.ok.mod.kin J (Z.ty _ _ I.kIn hP) hn c.at_ c.fn ?_)
  refine wpAny_mono (run_fnRA (us := [.ref a, v]) (vs := [.ref a, y]) F hr rfl hx I (.cons rfl (.cons ry .nil)) q) (fun v s' z => ?_) fun _ _ z => z
  obtain ⟨w, H', I', rw_, b, rfl, q'⟩ := z
  obtain rfl : v = Value.bool b := rw_
  refine ⟨.bl b, H', I', rfl, ?_⟩
  rw [Bool.bne_false] at q'
  exact q'
theorem op_neX (c : Sp1 X.K C g "__eq__") (n : NeO X.K C) (F : FnR X.prog X.w X.K X.mg X.base CX k g sp) (hr : Room (k + 1) X.A) (hx : Passes CX X E) : OpR X (compareOp .NotEq) (rEqX X.K C sp E true) := by
  intro pins s σ H x y u v Q I rx ry h
  obtain ⟨a, dx, fs, t, rfl, ea, ty, hn, q⟩ := h
  obtain rfl : u = Value.ref a := rx
  obtain ⟨ox, od, J⟩ := ins_inst I ea
  obtain ⟨Pk, Z, hP, _⟩ := kit_of I ry ty
  have hu : X.A.units + 1 < cLine := by have := hr.un; omega
  refine PySem.W.cmp_ofNotEq (rc_ne hu I.kIn J (Z.ty _ _ I.kIn hP) hn n.mro n.at_ c.at_ c.fn ?_)
  refine wpAny_mono (run_fnRA (us := [.ref a, v]) (vs := [.ref a, y]) F hr.in1 rfl hx I (.cons rfl (.cons ry .nil)) q) (fun v s' z => ?_) fun _ _ z => z
  obtain ⟨w, H', I', rw_, b, rfl, q'⟩ := z
  obtain rfl : v = Value.bool b := rw_
  refine ⟨b, rfl, .bl (!b), H', I', rfl, ?_⟩
  rw [Bool.bne_true] at q'
  exact q'
end
/-! ### an own binary operator: x >> y -/
section
variable {X : Cx} {CX : CXT} {k : Nat} {g C : Addr} {sp : Sp} {E : XK}
/-- two instances of the class at C -/
def rOpO (C : Addr) (sp : Sp) (E : XK) : R2 := fun x y H Q => ∃ a b dx dy fs gs, x = .ref a ∧ y = .ref b ∧ H a = some (.ins C dx fs) ∧ H b = some (.ins C dy gs) ∧
  sp [.ref a, .ref b] H (fun v H' => (∃ p, v = .ref p) ∧ Q v H') E
theorem op_ownO {op : Operator} (hs : PySem.W.findIn X.K (.ref C) (PySem.dunder op.info.2) = some (some (.ref g))) (hf : PySem.W.isFn X.K (.ref g) = true) (hc : PySem.W.selfFirst X.K C = true) (F : FnR X.prog X.w X.K X.mg X.base CX k g sp) (hr : Room k X.A) (hx : Passes CX X E) :
    OpR X (binaryOp op) (rOpO C sp E) := by
  intro pins s σ H x y u v Q I rx ry h
  obtain ⟨a, b, dx, dy, fs, gs, rfl, rfl, ea, eb, q⟩ := h
  obtain rfl : u = Value.ref a := rx
  obtain rfl : v = Value.ref b := ry
  obtain ⟨ox, od, J⟩ := ins_inst I ea
  obtain ⟨oy, od', J'⟩ := ins_inst I eb
  obtain ⟨m, hF⟩ := I.fr
  refine PySem.W.binop_K hF I.ok.mod.kin J J'.type hc hs hf ?_
  refine wpAny_mono (run_fnRA (us := [.ref a, .ref b]) (vs := [.ref a, .ref b]) F hr rfl hx I (.cons rfl (.cons rfl .nil)) q) (fun v s' z => ?_) fun _ _ z => z
  obtain ⟨w, H', I', rw_, ⟨p, rfl⟩, q'⟩ := z
  obtain rfl : v = Value.ref p := rw_
  exact ⟨.ref p, H', I', rfl, q'⟩
end
end Ly

namespace Ly
open PySem PySem.Spec PyProof.Rows L2
section
variable {X : Cx} {K : PySem.W.Frag}
/-- a tuple walked, a tuple taken apart: said of the written part that a block shares with its def -/
theorem piTK {tg e : Expr} {te : TE} (h : X.K = K) (he : PE X e te) : PI X tg e (iTup K te) := h ▸ pi_tup he
theorem pgTK {es : List Expr} {k : Nat} {t : TGs} {n : Nat} {pos : Pos} (h : X.K = K) (hc : X.calm = true) (hg : PGs X es t)
    (hn : (assignEach es X.env).length = n := by rfl) (hst : (assignEach es X.env).findIdx? (·.1) = none := by rfl) : PG X (.Tuple es k pos) (gTup K n t) := h ▸ pg_tup hc hg hn hst
end
end Ly

set_option Elab.async false
set_option linter.all false
set_option maxRecDepth 100000
set_option maxHeartbeats 8000000
namespace K05
open PySem PySem.Spec PyProof.Rows L2 Ly Cut

abbrev s_check_cutter : Stmt := topS 26
abbrev N_check_cutter : List Str := ["value"]
abbrev P_check_cutter : List Str := ["value"]
theorem sc_check_cutter : FnScope N_check_cutter P_check_cutter (defScope s_check_cutter) := ⟨rfl, rfl, rfl, by decide +kernel, rfl, by decide +kernel, by decide +kernel⟩

abbrev s_within : Stmt := inClass (topS 25) 9
abbrev N_within : List Str := ["self", "other", "here", "there", "place"]
abbrev P_within : List Str := ["self", "other"]
theorem sc_within : FnScope N_within P_within (defScope s_within) := ⟨rfl, rfl, rfl, by decide +kernel, rfl, by decide +kernel, by decide +kernel⟩

section
variable {P : Program} {w : World} {K : PySem.W.Frag} {mg : Str → Option Value} {base : Heap} {f C : Addr} {fd : FuncData}
def spChk (C : Addr) : Sp := fun vs H Q _ => ∃ (x : Addr) (ps : List Part), vs = [.ref x] ∧ CutAt C H x ps ∧ Q .non H
theorem ok_chk (Z : Zs mg) (D : Df K mg "check_cutter" s_check_cutter P_check_cutter f fd) (c : CK K C) (hC : mg "Cutter" = some (.ref C)) : FnOk P w K mg base CX0 1 f fd P_check_cutter (spChk C) := by
  refine D.F.ok sc_check_cutter (fun vs H Q E h => ?_) (fun cdv A outer s H vs Q E hr h => ?_)
  · obtain ⟨x, ps, rfl, _⟩ := h
    rfl
  · obtain ⟨x, ps, rfl, hcx, q⟩ := h
    have nd := sc_check_cutter.nd
    obtain ⟨dx, _, _, _, hx, _⟩ := hcx.ex
    refine ⟨_,
    (pss_one
    (ps_if (pt_not (pt_val (pe_callB call_isi (by rfl) Z.z_isinstance (by decide +kernel) (pa_cons (pv 0) (pa_cons (pe_glob (v := .ref C) rfl hC rfl) pa_nil)))))
      (pss_one
      ps_never)
      pss_nil)), ?_⟩
    exact ⟨_, rfl, .ref x, .ref C, _, _, true, rfl, .own C, c.ty hx, c.kit, true, rfl, ifF rfl q⟩

theorem iV_flat (l : List Nat) : (iV l).all flatV = true := by
  rw [List.all_eq_true]
  intro v hv
  obtain ⟨i, _, rfl⟩ := List.mem_map.mp hv
  rfl
theorem inV_iV (k : Nat) : ∀ l : List Nat, inV (V.int (k : Int)) (iV l) = decide (k ∈ l)
  | [] => by
    rw [decide_eq_false List.not_mem_nil]
    rfl
  | i :: l => by
    have ih := inV_iV k l
    show (((i : Int) == (k : Int)) || inV (V.int (k : Int)) (iV l)) = decide (k ∈ i :: l)
    rw [ih]
    by_cases h : k = i
    · subst h
      rw [beq_self_eq_true, Bool.true_or, decide_eq_true List.mem_cons_self]
    · rw [beq_eq_false_iff_ne.mpr (show (i : Int) ≠ (k : Int) by omega), Bool.false_or, decide_eq_decide]
      exact ⟨fun m => List.mem_cons_of_mem _ m, fun m => (List.mem_cons.mp m).resolve_left h⟩
/-- of up to six places the one keeps only what the other one keeps -/
def withinB (ps qs : List Part) : Bool := (List.range 7).all fun i => (Cut.places ps i).all fun k => decide (k ∈ Cut.places qs i)
def spWithin (C : Addr) : Sp := fun vs H Q _ => ∃ (x y : Addr) (ps qs : List Part), vs = [.ref x, .ref y] ∧ CutAt C H x ps ∧ CutAt C H y qs ∧ ∀ H', Same H H' → Q (.bl (withinB ps qs)) H'
theorem okm_within (Z : Zs mg) (D : Dm K "is_within" "Cutter.is_within" s_within P_within f fd) (c : CK K C) {f1 : Addr} {d1 : FuncData} (D_check_cutter : Cl P w K mg base "check_cutter" 1 f1 d1 P_check_cutter (spChk C)) : FnOk P w K mg base CX0 2 f fd P_within (spWithin C) := by
  refine D.F.ok sc_within (fun vs H Q E h => ?_) (fun cdv A outer s H vs Q E hr h => ?_)
  · obtain ⟨x, y, ps, qs, rfl, _⟩ := h
    rfl
  · obtain ⟨x, y, ps, qs, rfl, hcx, hcy, q⟩ := h
    have nd := sc_within.nd
    obtain ⟨dx, p, t, ts, hx, hp, ht, hlen, hts⟩ := hcx.ex
    obtain ⟨dy, p', t', ts', hy, hp', ht', hlen', hts'⟩ := hcy.ex
    refine ⟨_,
    (pss_cons
    (ps_expr (pe_call D_check_cutter.ok (hr.mono (by decide)) (by rfl) D_check_cutter.g D_check_cutter.kp D_check_cutter.b .nil pass0 (pa_cons (pv 1) pa_nil)))
    (pss_one
    (ps_ret (pe_callB (cr_all rfl) (by rfl) Z.z_all (by decide +kernel) (pa_cons (pe_lc2 (own := [("here", 2), ("there", 3), ("place", 4)]) (vs1 := [4]) (tt := tYes) (tt1 := tYes) rfl nd (RZ.pi_zipA (by rfl) Z.z_zip (pa_cons (pe_fld (pv 0) rfl) (pa_cons (pe_fld (pv 1) rfl) pa_nil))) (blkOk_by (N := N_within) (sc := defScope s_within) (by decide +kernel)) (by decide) (fun _ _ _ _ _ => (pgTK (K := K) (n := 2) rfl rfl (pgs_cons (pg_name (i := 2) nd rfl (Or.inl rfl)) (pgs_cons (pg_name (i := 3) nd rfl (Or.inl rfl)) pgs_nil)))) (fun _ _ _ _ _ => pts_nil) (fun _ _ _ _ _ => (piTK (K := K) rfl (pv 2))) (fun _ _ _ _ _ => (pg_name (i := 4) nd rfl (Or.inl rfl))) (fun _ _ _ _ _ => pts_nil) (fun _ _ _ _ _ => (pe_cmpR (inK (K := K) rfl) (pv 4) (pv 3) (by rfl)))) pa_nil))))), ?_⟩
    refine ⟨_, rfl, y, qs, rfl, hcy, ?_⟩
    refine ⟨_, rfl, x, C, dx, _, .ref t, rfl, hx, c.cls, c.nt, rfl, _, rfl, y, C, dy, _, .ref t', rfl, hy, c.cls, c.nt, rfl, t, t', ts, ts', rfl, .inr ⟨.of ht, .of ht', fun D9 nD => ?_⟩⟩
    refine ⟨fun i m H' => m + i = 7 ∧ Same H H' ∧ ∃ bs : List Bool, H' D9 = some (.lst (bs.map V.bl)) ∧ bs.length ≤ 7 * i ∧ bs.all id = (List.range i).all fun j => (Cut.places ps j).all fun k => decide (k ∈ Cut.places qs j), ⟨7, by omega, same_new nD, [], upd_same, by decide, rfl⟩, ?_⟩
    rintro i m H1 ⟨em, s1, bs, hd, hbl, hall⟩
    by_cases hi : i < 7
    · obtain ⟨r, e1, h1⟩ := hts i hi
      obtain ⟨r', e2, h2⟩ := hts' i hi
      refine .inr ⟨⟨ts, ts', .ref r, .ref r', .of (s1 _ _ ht), .of (s1 _ _ ht'), e1, e2⟩, fun H' => Same H H' ∧ ∃ bs : List Bool, H' D9 = some (.lst (bs.map V.bl)) ∧ bs.length ≤ 7 * (i + 1) ∧ bs.all id = (List.range (i + 1)).all fun j => (Cut.places ps j).all fun k => decide (k ∈ Cut.places qs j),
        fun H' h => ⟨m - 1, by omega, by omega, h⟩, fun v H2 hy2 => ?_⟩
      obtain ⟨T, u, u', rfl, nT, rfl, k1, k2⟩ := hy2
      obtain rfl : u = .ref r := Option.some.inj ((k1 ts (.of (s1 _ _ ht))).symm.trans e1)
      obtain rfl : u' = .ref r' := Option.some.inj ((k2 ts' (.of (s1 _ _ ht'))).symm.trans e2)
      have s2 := s1.trans (same_new (o := .tup [V.ref r, .ref r']) nT)
      have hd2 := same_new (o := .tup [V.ref r, .ref r']) nT _ _ hd
      generalize hH2 : upd H1 T (.tup [V.ref r, .ref r']) = H2 at s2 hd2 ⊢
      have hT : H2 T = some (.tup [V.ref r, .ref r']) := by rw [← hH2]; exact upd_same
      refine ⟨T, _, rfl, .of hT, rfl, _, _, rfl, _, _, rfl, rfl, rfl, ?_⟩
      refine ⟨_, rfl, r, rfl, ⟨_, .of (s2 _ _ h1)⟩, ?_⟩
      have hpl := places_len ps i
      refine ⟨fun j k H' => k + j = (Cut.places ps i).length ∧ Same H H' ∧ H' D9 = some (.lst ((bs ++ ((Cut.places ps i).take j).map fun k => decide (k ∈ Cut.places qs i)).map V.bl)), ⟨(Cut.places ps i).length, by omega, s2, by rw [List.take_zero, List.map_nil, List.append_nil]; exact hd2⟩, ?_⟩
      rintro j k H3 ⟨ek, s3, hd3⟩
      have hq3 := s3 _ _ h1
      by_cases hj : j < (Cut.places ps i).length
      · refine .inr ⟨⟨_, _, .of hq3, iV_get (List.getElem?_eq_getElem hj)⟩, fun H' => Same H H' ∧ H' D9 = some (.lst ((bs ++ ((Cut.places ps i).take (j + 1)).map fun k => decide (k ∈ Cut.places qs i)).map V.bl)), fun H' h => ⟨k - 1, by omega, by omega, h⟩, fun v H4 hy4 => ?_⟩
        obtain ⟨rfl, k4⟩ := hy4
        obtain rfl : v = .int ((Cut.places ps i)[j] : Int) := Option.some.inj ((k4 _ (.of hq3)).symm.trans (iV_get (List.getElem?_eq_getElem hj)))
        refine ⟨rfl, _, rfl, _, rfl, r', _, rfl, .inr (.of (s3 _ _ h2)), rfl, iV_flat _, _, hd3, ?_, same_set s3 nD, ?_⟩
        · rw [List.length_map, List.length_append, List.length_map, List.length_take]
          exact small1000 (by omega)
        · rw [upd_same, List.take_add_one, List.getElem?_eq_getElem hj]
          have e : (if false = true then !inV (V.int ((Cut.places ps i)[j] : Int)) (iV (Cut.places qs i)) else inV (V.int ((Cut.places ps i)[j] : Int)) (iV (Cut.places qs i))) = decide ((Cut.places ps i)[j] ∈ Cut.places qs i) := inV_iV _ _
          rw [e]
          simp only [List.map_append, List.append_assoc, Option.toList_some, List.map_cons, List.map_nil]
      · refine .inl ⟨⟨_, .of hq3, by rw [iV_len]; omega⟩, s3, _, hd3, ?_, ?_⟩
        · rw [List.length_append, List.length_map, List.length_take]
          omega
        · rw [List.all_append, hall, List.range_succ, List.all_append, List.take_of_length_le (by omega), List.all_map]
          show _ = (_ && (((Cut.places ps i).all fun k => decide (k ∈ Cut.places qs i)) && true))
          rw [Bool.and_true]
          rfl
    · have e7 : i = 7 := by omega
      subst e7
      refine .inl ⟨⟨ts, ts', .of (s1 _ _ ht), .of (s1 _ _ ht'), .inl (by omega)⟩, D9, bs, rfl, .of hd, ?_⟩
      rw [hall]
      exact q H1 s1

end
end K05
set_option Elab.async false
set_option linter.all false
set_option maxRecDepth 100000
set_option maxHeartbeats 4000000
/-! own layer: an own exception class with its own __init__, over any base -/
namespace PySem
namespace LX
open Builtin Builtin.ObjectAttr PySem.HandSPX
variable {prog : Program} {w : World} {A : Around} {E : Value → Shared → Prop} {R : Result → Shared → Prop} {hp : Heap} {g : Array GenState} {d : Drawn} {t : Nat} {os : OsState}
/-- object.__setattr__ upon an exception that has no dict as yet, where nobody in the mro objects -/
theorem osa_any {K : W.Frag} {name : Str} {tk : Tok} {v : Value} {x C : Addr} {fv : Array Value} {cd : ClassData} (kIn : K.In hp) (hx : hp.get? x = some { cls := .ref C, data := .fields fv }) (hcd : W.clsIn K C = some cd)
    (he : cd.mro.isEmpty = false) (hob : cd.mro.contains (.type "object") = true) (hps : refuseLoop (.ref x) "__setattr__" cd.mro = pure ()) (hh : cd.hasDict = true) (ha : W.findIn K (.ref C) name = some none)
    (hq : ∀ h' tk' dx, (∀ b o, b ≠ x → hp.get? b = some o → h'.get? b = some o) → hp.objs.size ≤ dx → dx ≠ x → h'.get? x = some { cls := .ref C, dict := some dx, data := .fields fv } → h'.Ns1 dx (fun y => if y = name then some v else none) → R (.ok (.ret .none)) ⟨h', g, d, tk', os⟩) :
    codeAny (model prog w) A (.call (.builtin "object.__setattr__") ⟨[.ref x, .str name tk, v], []⟩) R ⟨hp, g, d, t, os⟩ := by
  have J : W.InstAt hp x { cls := .ref C, data := .fields fv } C none := ⟨hx, rfl, rfl, trivial⟩
  have nxs : x ≠ hp.objs.size := Nat.ne_of_lt (Heap.lt_size hx)
  have isO : W.Looks (model prog w) hp (isInstance (.ref x) (.type "object")) true := J.type.andThen (W.looks_mroIn kIn (by unfold W.mroIn; rw [hcd, Option.bind_some, if_neg (by rw [he]; decide), hob]))
  refine codeAny_call_builtin F.store_object.slot.plain F.store_object.entry (@W.check_slot (model prog w) _ _ ⟨hp, g, d, t, os⟩ "object.__setattr__" "object" "__setattr__" (.ref x) [.str name tk, v] [] _ F.store_object.kind F.store_object.split isO (F.store_object.args (.ref x) (.str name tk) v) ?_)
  have lm : W.Looks (model prog w) hp (mroOf (.ref C)) cd.mro := (W.looks_clsIn kIn hcd).andThen .now
  have lc : W.Looks (model prog w) hp (classData C) cd := W.looks_clsIn kIn hcd
  have ln : W.Looks (model prog w) hp (storeTaker? none) none := .now
  rw [W.osa_eq, refuse_eq]; refine wpAny_bind (wpAny_bind (J.type.at (wpAny_bind (lm.at ?_)))); rw [hps]
  refine wpAny_pure (wpAny_bind (J.type.at (wpAny_bind ((W.looks_findIn kIn ha).at (wpAny_bind (ln.at ?_)))))); show wpAny _ _ (storeInOwnDict (.ref x) (.ref C) (.str name tk) name v false) _ _ _
  obtain ⟨nm, bs, mro, ns, qn, hd, sn, sb, ab, col, del⟩ := cd
  dsimp only at hh; subst hh
  unfold storeInOwnDict ownDictForStores
  repeat (first | with_reducible refine store_in_new ?_ ?_ | with_reducible refine wpAny_loadPart_at hx ?_ | with_reducible refine lc.at ?_ | wp_step)
  · exact ⟨_, #[], _, (Heap.get?_update_ne _ _ _ _ nxs.symm).trans (Heap.get?_push_at rfl rfl), rfl, fun e he => absurd he (by simp), fun _ => rfl⟩
  · intro h' tk' hn' hs
    have hx1 : (hp.push { cls := .type "dict", data := .dict #[] }).get? x = some { cls := .ref C, data := .fields fv } := Heap.get?_push_of_some _ hx
    exact hq h' tk' hp.objs.size (fun b o hb ho => (hs.2 b (Nat.ne_of_lt (Heap.lt_size ho))).trans ((Heap.get?_update_ne _ _ _ _ hb).trans (Heap.get?_push_of_some _ ho))) (Nat.le_refl _) nxs.symm ((hs.2 x nxs).trans (Heap.get?_update_self _ hx1 rfl)) hn'
end LX
end PySem
namespace Ly
open PySem PySem.Spec PyProof.Rows L2
/-- what the written part says of such a class, its base the built-in class B -/
structure OexX (K : PySem.W.Frag) (C : Addr) (B newId initId : String) (bm : List Value) : Prop where
  base : ExcBaseFacts B newId initId bm
  pass : ∀ self : Value, refuseLoop self "__setattr__" bm = pure ()
  obj : bm.contains (.type "object") = true
  cls : ∃ nm q N bs sn sub ab col dd k0 k1 k2 k3 k5, K.lookup C = some (excClassObj nm q C N bs bm true sn sub ab col dd k0 k1 k2 k3 k5 newId)
  sa : PySem.W.findIn K (.ref C) "__setattr__" = some (some (.builtin "object.__setattr__"))
  exC : PySem.W.subIn K (.ref C) (.type "BaseException") = some true
  tyC : PySem.W.typeIn K (.ref C) = some (.type "type")
  kC : PySem.W.keepIn K (.ref C) = true
section
variable {X : Cx} {pins : List (Addr × Obj)} {σ : L2.St} {H : Hp} {s : Shared} {a C dx : Addr} {f : Str} {y : V} {u : Value} {B newId initId : String} {bm : List Value}
/-- self.f = y, the first one -/
theorem ost_first {Q : Unit → Shared → Prop} {E : Value → Shared → Prop} {A : Around} (T : OexX X.K C B newId initId bm) (I : Inv X pins σ H s) (e : H a = some (exo a C none)) (hno : PySem.W.findIn X.K (.ref C) f = some none) (ry : RelV y u)
    (h : ∀ dx s', H dx = none → dx ≠ a → Inv X pins σ (upd (upd H dx (exd dx [(f, y)])) a (exo a C (some dx))) s' → Q () s') : wpAny (model X.prog X.w) A (setAttr (.ref a) f u) Q E s := by
  obtain ⟨nm, q, N, bs, sn, sub, ab, col, dd, k0, k1, k2, k3, k5, lC⟩ := T.cls
  obtain ⟨t1, ho⟩ := exo_at I.hok e
  obtain ⟨hp, gs, dr, t, os⟩ := s
  have lcd : PySem.W.clsIn X.K C = some { name := nm, bases := bs, mro := .ref C :: bm, ns := N, qualname := q, hasDict := true, slotNames := sn, subclasses := sub, abstract := ab, collection := col, hasDel := false } := by
    unfold PySem.W.clsIn
    rw [lC] <;> rfl
  refine PySem.W.set_plain I.kIn (ox := { cls := .ref C, dict := none, data := .fields #[.ref t1, .none, .none, .none, .bool false, .none] }) (od := none) ⟨ho, rfl, rfl, trivial⟩ T.sa ?_
  refine PySem.LX.osa_any I.kIn ho lcd rfl (by show (Value.ref C :: bm).contains _ = true; rw [List.contains_cons, T.obj, Bool.or_true]) ((refuseLoop_ref _ _ _ _).trans (T.pass _)) rfl hno (fun h' tk' dx k dn dne hx hn => ?_)
  have fd : H dx = none := I.hok.fresh dn
  have fa : ∀ {b : Addr}, H b = none → b ≠ a := fun {b} n z => by
    rw [z, e] at n
    cases n
  have fb : ∀ {b : Addr} {o : Obj}, hp.get? b = some o → b ≠ dx := fun {b o} z => Nat.ne_of_lt (Nat.lt_of_lt_of_le (Heap.lt_size z) dn)
  have U : Un X.fs [] H (upd (upd H dx (exd dx [(f, y)])) a (exo a C (some dx))) hp h' :=
    { keep := fun b o z n _ _ => k b o (fa n) z
      slot := fun b o z n _ _ => ⟨o.slots, k b o (fa n) z⟩
      free := fun b o z n _ => (upd_ne (fa n)).trans ((upd_ne (fb z)).trans n)
      there := fun b o z _ => by
        by_cases hb : b = a
        · exact ⟨_, by rw [hb]; exact hx⟩
        · exact ⟨o, k b o hb z⟩
      tups := fun b xs z => (upd_ne (at_ne e z exo_tup)).trans ((upd_ne (ne_of_none z fd)).trans z)
      frzs := fun b o v z => (upd_ne (at_ne e z exo_frz)).trans ((upd_ne (ne_of_none z fd)).trans z)
      tbls := fun b ps z => ⟨#[], by rw [upd_ne (at_ne e z exo_tbl), upd_ne (ne_of_none z fd), z]; simp⟩ }
  refine h dx _ fd dne (I.un (t' := tk') U fun b o z => ?_)
  by_cases hb : b = a
  · subst hb
    rw [upd_same] at z
    cases z
    exact exo_ok hx
  rw [upd_ne hb] at z
  by_cases hd : b = dx
  · subst hd
    rw [upd_same] at z
    cases z
    exact exd_ok hn (relO_put (fs := []) ry fun _ => True.intro)
  rw [upd_ne hd] at z
  refine (I.hok b o z).stay (fun c v hc w' => k c v ?_ w') (fun c hc => (upd_ne (at_ne e hc exo_own)).trans ((upd_ne (ne_of_none hc fd)).trans hc)) (fun c xs hc => (upd_ne (at_ne e hc exo_tup)).trans ((upd_ne (ne_of_none hc fd)).trans hc))
  rcases hc with hc | hc
  · rw [hc]
    exact hb
  · exact at_ne e hc exo_own
end
/-- self.f = e, the first field -/
def tOst1 (K : PySem.W.Frag) (C : Addr) (f : Str) (to te : TE) : TS := fun D σ H => te σ H fun y H1 => to σ H1 fun x H2 => ∃ a : Addr, x = .ref a ∧ H2 a = some (exo a C none) ∧ ∀ dx, H2 dx = none → dx ≠ a → D.nx σ (upd (upd H2 dx (exd dx [(f, y)])) a (exo a C (some dx)))
section
variable {X : Cx} {o e : Expr} {es : List Expr} {to te : TE} {ta : TA} {f : Str} {p p' pos : Pos} {C : Addr} {B newId initId : String} {bm : List Value}
theorem ps_ost1 (T : OexX X.K C B newId initId bm) (hno : PySem.W.findIn X.K (.ref C) f = some none) (ho : PE X o to) (he : PE X e te) (hs : swapsWith e (some (.Attribute o f p')) pos.line X.env = pure false := by rfl) : PS X (.Assign [.Attribute o f p'] e pos) (tOst1 X.K C f to te) := by
  refine ⟨fun pins s σ H D I h => ?_⟩
  refine plainObj_wpAny_Assign_Attribute (thn (he.run pins s σ H _ I h) fun v s1 ⟨y, H1, I1, r1, q1⟩ => thn (ho.run pins s1 σ H1 _ I1 q1) fun u s2 ⟨x, H2, I2, r2, a, ex, ea, q⟩ => ?_) hs
  subst ex
  obtain rfl : u = Value.ref a := r2
  exact ost_first T I2 ea hno r1 fun dx s' n ne J => ⟨σ, _, J, q dx n ne⟩
/-- C(e, ..): its own __init__ keeps sp -/
theorem pmk_any {CX : CXT} {x : Str} {fI : Addr} {k : Nat} {fd : FuncData} {ps : List Str} {sp : Sp} {ds : List Value} {dvs : List V} (T : OexX X.K C B newId initId bm) (iC : PySem.W.findIn X.K (.ref C) "__init__" = some (some (.ref fI))) (tI : PySem.W.typeIn X.K (.ref fI) = some (.type "function"))
    (F1 : FnOk X.prog X.w X.K X.mg X.base CX k fI fd ps sp) (hr : Room (k + 1) X.A) (hb : Binds X.K fd ps ds) (hd : Vals dvs ds) (hx : Passes CX X (fun _ _ _ => False)) (hg : Gl X x) (hm : X.mg x = some (.ref C)) (ha : PA X (e :: es) ta)
    (hdb : (x == ("__debug__" : Str)) = false := by decide) (he : starEach (e :: es) X.env = (false, eval e X.env) :: starEach es X.env := by rfl) (hpl : (backTo pos (starEach es X.env)).any (·.1) = false := by rfl) :
    PMk X (.Call (.Name x p) (e :: es) [] pos) (tMkO C sp dvs ta) := by
  intro pins s σ H Q I h
  obtain ⟨nm, q, N, bs, sn, sub, ab, col, dd, k0, k1, k2, k3, k5, lC⟩ := T.cls
  refine wpAny_Call_Name_kw (ld_glob I hg hm ?_ hdb)
  refine PySem.W.callWith_K (h₀ := X.base) I.ok.mod.kin T.kC (thn (ha.run pos pins s σ H _ I h) fun us s1 ⟨vs, H1, I1, r1, hz, q1⟩ => ⟨I1.kIn, ?_⟩) he hpl
  show wpAny _ _ (call (.ref C) us) _ _ _
  obtain ⟨hp, gs, dr, tk, os⟩ := s1
  have le1 : hp.objs.size ≤ hp.objs.size + 1 := Nat.le_succ _
  have hq := q1 (hp.objs.size + 1) (I1.hok.fresh le1)
  have up : ∀ b o, hp.get? b = some o → ((hp.push (PySem.W.kdv_tup us)).push (PySem.HandSPX.excO C hp.objs.size)).get? b = some o := fun b o z => Heap.get?_push_of_some _ (Heap.get?_push_of_some _ z)
  have at1 : ((hp.push (PySem.W.kdv_tup us)).push (PySem.HandSPX.excO C hp.objs.size)).get? (hp.objs.size + 1) = some (PySem.HandSPX.excO C hp.objs.size) := by heap_get
  have J : Inv X pins σ (upd H1 (hp.objs.size + 1) (exo (hp.objs.size + 1) C none)) ⟨(hp.push (PySem.W.kdv_tup us)).push (PySem.HandSPX.excO C hp.objs.size), gs, dr, tk, os⟩ :=
    I1.laid (t' := tk) (a := hp.objs.size + 1) (o := exo (hp.objs.size + 1) C none) (h' := (hp.push (PySem.W.kdv_tup us)).push (PySem.HandSPX.excO C hp.objs.size)) up le1 (exo_ok at1)
  have rv : Vals (V.ref (hp.objs.size + 1) :: (vs ++ dvs)) (Value.ref (hp.objs.size + 1) :: (us ++ ds)) := .cons rfl (r1.append hd)
  have nl : (Value.ref (hp.objs.size + 1) :: us ++ ds).length = ps.length := (rv.length.symm.trans (F1.len _ _ _ _ hq))
  have nu : us.length ≤ sizeLine := by
    rw [← Paired.length r1, sizeLine_eq]
    omega
  refine wpAny_call (PySem.HandSPX.call_own T.base (fun _ => rfl) (I1.kIn _ _ lC) (PySem.W.looks_findIn I1.kIn iC) (fun self => PySem.W.bind_fn I1.kIn self tI) nu
    (codeAny_mono (F1.run _ X.stack _ _ ⟨Value.ref (hp.objs.size + 1) :: us, []⟩ (Value.ref (hp.objs.size + 1) :: (us ++ ds)) _ _ (fun _ _ _ => False) (hr.make C us []) (J.env0.make C us []) (hb _ (Value.ref (hp.objs.size + 1) :: us) J.kIn nl) rv hq) fun r s' hq' => ?_))
  rcases r with er | fl
  · exact hx pins σ _ _ er s' J hq'
  · cases fl with
    | ret u =>
      obtain ⟨v, H2, os2, bare2, un2, hok2, rv2, ev, d, fs, ea, ed, hd1, q2⟩ := hq'
      subst ev
      obtain ⟨h2, g2, d2, t2, os'⟩ := s'
      exact ⟨rv2, mk_end (raises_own T.exC T.tyC) I1 le1 up un2 hok2 os2 bare2 ea ed hd1 q2⟩
    | next | brk | cont => exact False.elim hq'
end
end Ly
namespace Ly
open PySem PySem.Spec PyProof.Rows L2
section
variable {X : Cx} {pins : List (Addr × Obj)} {σ : L2.St} {H : Hp} {s : Shared}
theorem run_fnAt {CX : CXT} {k : Nat} {f : Addr} {sp : Sp} {E : XK} {Q : VK} {us : List Value} {vs : List V} {A : Around} (F : FnR X.prog X.w X.K X.mg X.base CX k f sp) (hr : Room k A) (hf : A.frames = X.A.frames) (hx : PassesAt CX X σ E) (I : Inv X pins σ H s) (r : Vals vs us) (h : sp vs H Q E) :
    wpAny (model X.prog X.w) A (call (.ref f) us) (EP X pins σ Q) X.xe s := by
  refine wpAny_call (codeAny_mono (F A X.stack s H us vs Q E hr ⟨hf.trans I.env0.frames, I.env0.mod, I.env0.bs, I.env0.bsz, I.env0.funs, I.env0.frf, I.env0.hok, I.env0.bare⟩ r h) fun r s' hq => ?_)
  cases r with
  | error e => exact hx pins H s e s' I hq
  | ok fl =>
    cases fl with
    | ret u => exact I.after hq
    | next | brk | cont => exact False.elim hq
/-- x op y by the class's own def, which may raise -/
def tOpS (C : Addr) (sp : Sp) (E : L2.St → XK) (ta tb : TE) : TE := fun σ H Q => ta σ H fun x H1 => tb σ H1 fun y H2 => ∃ a b dx dy fs gs, x = .ref a ∧ y = .ref b ∧ H2 a = some (.ins C dx fs) ∧ H2 b = some (.ins C dy gs) ∧ sp [.ref a, .ref b] H2 (fun v H' => (∃ p, v = .ref p) ∧ Q v H') (E σ)
theorem pe_opS {CX : CXT} {k : Nat} {g C : Addr} {sp : Sp} {E : L2.St → XK} {op : Operator} {a b : Expr} {ta tb : TE} {pos : Pos} (hs : PySem.W.findIn X.K (.ref C) (PySem.dunder op.info.2) = some (some (.ref g))) (hf : PySem.W.isFn X.K (.ref g) = true) (hc : PySem.W.selfFirst X.K C = true)
    (F : FnR X.prog X.w X.K X.mg X.base CX k g sp) (hr : Room k X.A) (hx : ∀ σ, PassesAt CX X σ (E σ)) (ha : PE X a ta) (hb : PE X b tb) : PE X (.BinOp a op b pos) (tOpS C sp E ta tb) := by
  refine ⟨fun pins s σ H Q I h => ?_⟩
  refine wpAny_BinOp (binT ha hb I h fun v u s2 x y H2 I2 rx ry q => ?_)
  obtain ⟨p, r, dx, dy, fs, gs, rfl, rfl, ea, eb, q⟩ := q
  obtain rfl : v = Value.ref p := rx
  obtain rfl : u = Value.ref r := ry
  obtain ⟨ox, od, J⟩ := ins_inst I2 ea
  obtain ⟨oy, od', J'⟩ := ins_inst I2 eb
  obtain ⟨m, hF⟩ := I2.fr
  refine PySem.W.binop_K hF I2.ok.mod.kin J J'.type hc hs hf ?_
  refine wpAny_mono (run_fnAt (us := [.ref p, .ref r]) (vs := [.ref p, .ref r]) F hr rfl (hx σ) I2 (.cons rfl (.cons rfl .nil)) q) (fun v s' z => ?_) fun _ _ z => z
  obtain ⟨w, H', I', rw_, ⟨p', rfl⟩, q'⟩ := z
  obtain rfl : v = Value.ref p' := rw_
  exact ⟨.ref p', H', I', rfl, q'⟩
end
end Ly

set_option Elab.async false
set_option linter.all false
set_option maxRecDepth 100000
set_option maxHeartbeats 4000000
/-! own layer: several clauses `except x as n` in one try -/
namespace Ly
open PySem PySem.Spec PyProof.Rows L2
/-- the ends of a suite behind which the slot i is empty again -/
def offE (i : Nat) (D : Ends) : Ends := ⟨fun σ H => D.nx (σ.set i none) H, D.rt, fun σ H => D.bk (σ.set i none) H, fun σ H => D.ct (σ.set i none) H⟩
/-- what clauses `except x as n`, one after the other, wish of an exception of the body -/
def wAsM (K : PySem.W.Frag) (Wout : WX) (D : Ends) : List (Value × Nat × (Addr → Value → Option Addr → TS)) → WX
  | [] => Wout
  | (c, i, ts) :: r => fun k e σ H => ∃ b, PySem.W.exmOne K k c = some b ∧ (b = true → ∀ a, H a = none → ts a k e (offE i D) (σ.set i (some (.ref a))) H) ∧ (b = false → wAsM K Wout D r k e σ H)
inductive HdsA (X : Cx) : List ExceptHandler → List (Value × Nat × (Addr → Value → Option Addr → TS)) → Prop
  | nil : HdsA X [] []
  | cons {x n : Str} {c : Value} {i : Nat} {ts : Addr → Value → Option Addr → TS} {b₀ : Stmt} {su : List Stmt} {p1 p2 : Pos} {hds : List ExceptHandler} {l : List (Value × Nat × (Addr → Value → Option Addr → TS))} (hi : X.N[i]? = some n) (hk : X.env.kindOf n = some .local) (hc : Names X x c)
      (run : ∀ (a : Addr) (oe : Obj) (k : Value) (e : Option Addr) (pn : List (Addr × Obj)), Zc k e oe → (∃ vs, oe.data = .fields vs) → PSs (X.suite a ((a, oe) :: pn)) (b₀ :: su) (ts a k e)) (r : HdsA X hds l) : HdsA X (.ExceptHandler (some (.Name x p1)) (some n) (b₀ :: su) p2 :: hds) ((c, i, ts) :: l)
section
variable {X : Cx} {body : List Stmt} {hd0 : ExceptHandler} {hds : List ExceptHandler} {l : List (Value × Nat × (Addr → Value → Option Addr → TS))} {pos : Pos} {tb : WX → TS} {Wout : WX}
theorem ps_try_asM (st : X.stack = X.env :: X.outer) (fr : X.env.frame = some X.env.locals) (nd : X.N.Nodup) (tk : Takes X Wout)
    (hb : ∀ (W : WX) (pn : List (Addr × Obj)) (xe : Value → Shared → Prop), Takes (X.tr pn xe) W → PassesOwn (model X.prog X.w) X.A X.env xe → PSs (X.tr pn xe) body (tb W)) (hh : HdsA X (hd0 :: hds) l) : PS X (.Try body (hd0 :: hds) [] [] pos) (fun D σ H => tb (wAsM X.K Wout D l) D σ H) := by
  refine ⟨fun pins s σ H D I h => ?_⟩
  have hfr : X.A.frames = some (X.env :: X.outer) := by rw [I.ok.frames, st]
  refine wpAny_Try_except (wpAny_mono ((hb (wAsM X.K Wout D l) (X.pn ++ pins) (fun x s1 => wpAny (model X.prog X.w) X.A (noteFrame x X.env) (fun _ s2 => wpAny (model X.prog X.w) X.A (setFlight x none) (fun _ s3 =>
    wpAny (model X.prog X.w) X.A (handleBy x X.env (hd0 :: hds)) (SP X pins D) X.xe s3) X.xe s2) X.xe s1) (fun u t xx => ?_) PassesOwn.looking).run [] s σ H D (I.toTry _) h) (fun f s1 z => ?_) (fun x s1 z => z))
  · obtain ⟨a, B, sI, pins', τ, G, k, e, rfl, J', nb, up, sky, na, os, ag, wish⟩ := xx
    have J : Inv X pins τ G sI := J'.ofTry I.ok
    have sky1 : Sky B (X.env :: X.outer) a (Zc k e) X.env.locals t.heap := by rw [← st]; exact sky
    show wpAny _ X.A (noteFrame (.ref a) X.env) _ _ _
    refine Sky.land Zc.steady hfr fr sky1 fun g3 f3 u3 => ?_
    have J3 : Inv X pins τ G { t with heap := g3 } := J.landed nb f3.1 (up.trans u3) os ag
    obtain ⟨oe, vs, ge, ze, de⟩ := f3.there
    have far : a ∉ frs (X.env :: X.outer) := fun hm => by
      obtain ⟨_, o', e', hnf⟩ := f3.2.2.1.mem hm
      rw [ge] at e'; cases e'; exact hnf _ de
    have nL : a ≠ X.env.locals := fun z => far (List.mem_filterMap.mpr ⟨X.env, List.mem_cons_self, by rw [fr, z]⟩)
    have nF : a ∉ X.fs := fun hm => by
      obtain ⟨v, hv, q⟩ := List.mem_filterMap.mp hm
      exact far (List.mem_filterMap.mpr ⟨v, List.mem_cons_of_mem _ hv, q⟩)
    have S3 := J3.suite ge de na nL nF
    have all : ∀ {hs : List ExceptHandler} {ls : List (Value × Nat × (Addr → Value → Option Addr → TS))}, HdsA X hs ls → wAsM X.K Wout D ls k e τ G → wpAny (model X.prog X.w) X.A (handleBy (.ref a) X.env hs) (SP X pins D) X.xe { t with heap := g3 } := by
      intro hs ls hk
      induction hk with
      | nil =>
        intro w
        refine wpAny_handleBy_nil ?_
        obtain ⟨_, _, _, oe', vs', T, oT, ts', he', hz', hd', h1', hr'⟩ := id f3
        unfold PySem.passOn; refine wpAny_bind (wpAny_field he' hd' h1' ?_)
        rw [if_neg (show ¬ (Value.ref T == Value.none) = true from by simp)]
        have fin : wpAny (model X.prog X.w) X.A (setFlight (.ref a) X.env.frame) (fun _ s4 => wpAny (model X.prog X.w) X.A (throw (.ref a) : Sem Flow) (SP X pins D) X.xe s4) X.xe { t with heap := g3 } := by
          rw [fr]; refine HandSPX.setFlight_upZ f3 fun g4 hh4 u4 => wpAny_throw (tk _ _ ⟨a, B, sI, pins, τ, G, k, e, rfl, J, nb, (up.trans u3).trans u4, .inr (.inr (by rw [st]; exact hh4)), na, os, ag, w⟩)
        first | exact wpAny_bind (wpAny_pure (wpAny_bind fin)) | exact wpAny_bind fin
      | @cons x n c i ts b₀ su p1 p2 hs2 ls2 hi hloc hc run r ih =>
        intro w
        obtain ⟨b, hb1, yes, no⟩ := w
        refine wpAny_handleBy_cons (codeAny_handlers_test ?_) (by intro q; cases q)
        have LT : PySem.W.Looks (model X.prog X.w) g3 (typeOf (.ref a)) k := fun A Q E s kk q => wpAny_typeOf_ref (kk _ _ ge) (by rw [ze.1]; exact q)
        have test : ∀ {Q : Value → Shared → Prop} {E : Value → Shared → Prop}, Q c { t with heap := g3 } → wpAny (model X.prog X.w) (X.A.mark (some (.ref a))) (eval (.Name x p1) X.env) Q E { t with heap := g3 } := fun {Q E} q => by
          obtain ⟨hg, hdb, hm | ⟨hm, hv, hnn⟩⟩ := hc
          · exact ld_glob (X := X.suite a ((a, oe) :: (X.pn ++ pins))) S3 hg hm q hdb
          · exact ld_blt (X := X.suite a ((a, oe) :: (X.pn ++ pins))) S3 hg hm hv q hnn hdb
        refine test ((PySem.W.exm_one (M := model X.prog X.w) J3.kIn LT hb1).here ?_)
        cases b with
        | true =>
          refine codeAny_handlers_suite_as (HandSPX.lands_againZ f3 fun g4 f4 u4 => ?_)
          have J4 : Inv X pins τ G { t with heap := g4 } := J.landed nb f4.1 ((up.trans u3).trans u4) os ag
          obtain ⟨oe4, vs4, ge4, ze4, de4⟩ := f4.there
          refine store_ok (X := X.suite a ((a, oe4) :: (X.pn ++ pins))) (v := .ref a) (J4.suite ge4 de4 na nL nF) nd hi (.inl hloc) rfl (fun s5 S5 => ?_) (.inr hloc)
          refine wpAny_mono ((run a oe4 k e (X.pn ++ pins) ze4 ⟨_, de4⟩).run [] s5 _ G _ S5 (yes rfl a na)) (fun f s6 z => ?_) (fun _ _ z => z.elim)
          have off : ∀ {ρ : L2.St} {G6 : Hp} {Q : Shared → Prop}, Inv (X.suite a ((a, oe4) :: (X.pn ++ pins))) [] ρ G6 s6 → (∀ s7, Inv X pins (ρ.set i none) G6 s7 → Q s7) → wpAny (model X.prog X.w) X.A (do bindName X.env n .none; unbindBehindTheSuite X.env n p2) (fun _ s7 => Q s7) X.xe s6 :=
            fun {ρ G6 Q} S6 hq => gone_ok (S6.unsuite I.ok) nd hi hloc hq
          cases f with
          | next => obtain ⟨ρ, G6, S6, q6⟩ := z; exact off S6 fun s7 J7 => ⟨_, _, J7, q6⟩
          | brk => obtain ⟨ρ, G6, S6, q6⟩ := z; exact off S6 fun s7 J7 => ⟨_, _, J7, q6⟩
          | cont => obtain ⟨ρ, G6, S6, q6⟩ := z; exact off S6 fun s7 J7 => ⟨_, _, J7, q6⟩
          | ret u => obtain ⟨v6, ρ, G6, S6, r6, q6⟩ := z; exact off S6 fun s7 J7 => ⟨_, _, _, J7, r6, q6⟩
        | false =>
          show wpAny _ X.A (handleBy (.ref a) X.env hs2) _ _ _
          exact ih (no rfl)
    exact all hh wish
  · cases f with
    | next => obtain ⟨ρ, G, J, q⟩ := z; exact wpAny_execs_nil ⟨ρ, G, J.ofTry I.ok, q⟩
    | brk => obtain ⟨ρ, G, J, q⟩ := z; exact ⟨ρ, G, J.ofTry I.ok, q⟩
    | cont => obtain ⟨ρ, G, J, q⟩ := z; exact ⟨ρ, G, J.ofTry I.ok, q⟩
    | ret u => obtain ⟨v, ρ, G, J, r, q⟩ := z; exact ⟨v, ρ, G, J.ofTry I.ok, r, q⟩
end
end Ly

set_option Elab.async false
set_option linter.all false
set_option maxRecDepth 100000
set_option maxHeartbeats 4000000
/-! own layer: own exceptions with their own __init__ as values: made, read, asked by isinstance; the built-in base may stand below the one whose __new__ makes them -/
namespace PySem
namespace LK
open Builtin Builtin.ObjectAttr PySem.HandSPX PyProof.Rows
/-- what a class's chain must say of the built-in class B that makes its instances -/
structure Ch (bm : List Value) (B : String) : Prop where
  b : bm.contains (.type B) = true
  a : bm.contains (.type "AttributeError") = false
  n : bm.contains (.type "NameError") = false
section
variable {M : Model} {prog : Program} {w : World} {A : Around} {E : Value → Shared → Prop} {R : Result → Shared → Prop} {h : Heap} {g : Array GenState} {d : Drawn} {t : Nat} {os : OsState} {nm q : Str} {C N : Addr} {bs bm bmB : List Value} {hdct : Bool} {sn : List Str} {sub : List Value} {ab : Bool} {col : Option Bool}
  {dd : Option Addr} {k0 k1 k2 k3 k5 : Option Value} {B newId initId : String} {us : List Value}
theorem chk {Q : Unit → Shared → Prop} (F : ExcBaseFacts B newId initId bmB) (T : Ch bm B) (lC : h.get? C = some (excClassObj nm q C N bs bm hdct sn sub ab col dd k0 k1 k2 k3 k5 newId)) (z : Q () ⟨h, g, d, t, os⟩) :
    wpAny M A (checkBuiltinCall newId ⟨.ref C :: us, []⟩) Q E ⟨h, g, d, t, os⟩ := by
  have s1 := F.noStar
  have cb : (Value.ref C :: bm).contains (.type B) = true := by rw [List.contains_cons, T.b, Bool.or_true]
  simp only [checkBuiltinCall, F.newRow, F.newKind, F.newSplit]
  repeat (first | refine wpAny_loadPart_at lC ?_ | (refine wpAny_isSubtype_exc lC ?_; rw [cb]) | refine wpAny_staticBase_exc lC ?_ | refine wpAny_madeBy_exc lC ?_ | simp only [bne_self_eq_false, if_false, Bool.false_eq_true] | wp_step)
  exact z
theorem made (F : ExcBaseFacts B newId initId bmB) (T : Ch bm B) (lC : h.get? C = some (excClassObj nm q C N bs bm hdct sn sub ab col dd k0 k1 k2 k3 k5 newId))
    (z : R (.ok (.ret (.ref (h.objs.size + 1)))) ⟨(h.push (PySem.W.kdv_tup us)).push (excO C h.objs.size), g, d, t, os⟩) (hu : us.length ≤ sizeLine) : codeAny (model prog w) A (.builtin newId ⟨.ref C :: us, []⟩) R ⟨h, g, d, t, os⟩ := by
  have en := F.ends
  have cb : (Value.ref C :: bm).contains (.type B) = true := by rw [List.contains_cons, T.b, Bool.or_true]
  have ca : (Value.ref C :: bm).contains (.type "AttributeError") = false := by rw [List.contains_cons, T.a] <;> rfl
  have cn : (Value.ref C :: bm).contains (.type "NameError") = false := by rw [List.contains_cons, T.n] <;> rfl
  refine codeAny_builtinAt F.entry ?_
  unfold Builtin.«BaseException.__new__»
  refine wpAt_bind ?_; show wpAt _ _ _ (stack >>= _) _ _ _
  refine wpAt_bind (wpAt_stack fun p below => wpAt_of_wpAny ?_); wp_walk
  refine wpAt_of_wpAny ?_; rw [F.owner]
  repeat (first | with_reducible refine wpAny_madeHere_exc F.canon lC ?_ | with_reducible refine wpAny_loadPart_at lC ?_ | (with_reducible refine wpAny_isSubtype_exc lC ?_; first | rw [cb] | rw [ca] | rw [cn]) | wp_step)
  show R _ _; rw [Heap.size_push]; exact z
theorem typed {fI : Addr} {Q : Fin → Shared → Prop} (F : ExcBaseFacts B newId initId bmB) (T : Ch bm B) (lC : h.get? C = some (excClassObj nm q C N bs bm hdct sn sub ab col dd k0 k1 k2 k3 k5 newId))
    (li : W.Looks (model prog w) h (typeLookup (.ref C) "__init__") (some (.ref fI))) (lb : ∀ self, W.Looks (model prog w) h (bindSpecial (.ref fI) self) (.ref fI, [self])) (hu : us.length ≤ sizeLine)
    (z : codeAny (model prog w) A (.call (.ref fI) ⟨.ref (h.objs.size + 1) :: us, []⟩) (fun r s' => match r with | .ok (.ret v) => v = .none ∧ Q (.done (.ret (.ref (h.objs.size + 1)))) s' | .ok _ => False | .error e => E e s') ⟨(h.push (PySem.W.kdv_tup us)).push (excO C h.objs.size), g, d, t, os⟩) :
    wpAny (model prog w) A (Builtin.«type.__call__» ⟨.ref C :: us, []⟩) Q E ⟨h, g, d, t, os⟩ := by
  repeat (first | with_reducible refine wpAny_loadPart_at lC ?_ | with_reducible refine wpAny_madeBy_exc lC ?_ | wp_step)
  refine codeAny_call_builtin_code (Code.quiet_builtin _ F.quiet) (chk F T lC (made F T lC ?_ hu)); show wpAny _ _ _ _ _ _
  have up : ∀ b o, h.get? b = some o → ((h.push (PySem.W.kdv_tup us)).push (excO C h.objs.size)).get? b = some o := fun b o y => Heap.get?_push_of_some _ (Heap.get?_push_of_some _ y)
  have at1 : ((h.push (PySem.W.kdv_tup us)).push (excO C h.objs.size)).get? (h.objs.size + 1) = some (excO C h.objs.size) := by heap_get
  have cc : (Value.ref C :: bm).contains (.ref C) = true := by simp
  have l1 := up _ _ lC
  unfold isInstance
  repeat (first | with_reducible refine wpAny_loadPart_at at1 ?_ | (with_reducible refine wpAny_isSubtype_exc l1 ?_; rw [cc]) | wp_step)
  show wpAny _ _ (typeLookup (.ref C) _) _ _ _
  refine (li.keeps up).at ?_
  refine wpAny_holding (wpAny_bind (((lb (.ref (h.objs.size + 1))).keeps up).at ?_))
  refine wpAny_bind (wpAny_call (codeAny_mono z fun r s' y => ?_))
  rcases r with e | (v | _ | _ | _) <;> first | exact y | exact y.elim | skip
  obtain ⟨rfl, y⟩ := y
  first | exact wpAny_pure (wpAny_pure y) | (wp_walk; exact y)
/-- C(..), C an own exception class with its own __init__ -/
theorem called {fI : Addr} (F : ExcBaseFacts B newId initId bmB) (T : Ch bm B) (lC : h.get? C = some (excClassObj nm q C N bs bm hdct sn sub ab col dd k0 k1 k2 k3 k5 newId))
    (li : W.Looks (model prog w) h (typeLookup (.ref C) "__init__") (some (.ref fI))) (lb : ∀ self, W.Looks (model prog w) h (bindSpecial (.ref fI) self) (.ref fI, [self])) (hu : us.length ≤ sizeLine)
    (z : codeAny (model prog w) (A.under (.builtin "type.__call__" ⟨.ref C :: us, []⟩)) (.call (.ref fI) ⟨.ref (h.objs.size + 1) :: us, []⟩) (W.InitBack (h.objs.size + 1) R) ⟨(h.push (PySem.W.kdv_tup us)).push (excO C h.objs.size), g, d, t, os⟩) :
    codeAny (model prog w) A (.call (.ref C) ⟨us, []⟩) R ⟨h, g, d, t, os⟩ := by
  have f1 := tc_lookup
  have f2 := tc_bind (.ref C)
  have ty : (⟨h, g, d, t, os⟩ : Shared).TypeIs (.ref C) "type" := ⟨_, lC, rfl⟩
  refine codeAny_of_tree ?_; show wpAny _ _ (callAny (.ref C) _) _ _ _
  repeat (any_goals (first | assumption | with_reducible refine wpAny_loadPart_at lC ?_ | wp_step))
  refine ⟨rfl, codeAny_call_builtin_at (Code.quiet_builtin _ (by decide +kernel)) entry_typeCall (wpAny_check_type_call_sub lC (typed F T lC li lb hu ?_))⟩
  refine codeAny_mono z fun r s' y => ?_
  rcases r with e | (v | _ | _ | _) <;> exact y
end
section
variable {prog : Program} {w : World} {A : Around} {R : Result → Shared → Prop} {hp : Heap} {g : Array GenState} {d : Drawn} {t : Nat} {os : OsState}
/-- object.__setattr__ upon an exception that has its dict, where nobody in the mro objects -/
theorem osa_more {K : W.Frag} {name : Str} {tk : Tok} {v : Value} {x C dx : Addr} {fv : Array Value} {cd : ClassData} {m0 : Str → Option Value} {nl : List Str} (kIn : K.In hp) (hx : hp.get? x = some { cls := .ref C, dict := some dx, data := .fields fv })
    (ns : hp.Ns1 dx m0) (nw : Within m0 nl) (nz : nl.length ≤ 1000) (hcd : W.clsIn K C = some cd) (he : cd.mro.isEmpty = false) (hob : cd.mro.contains (.type "object") = true) (hps : refuseLoop (.ref x) "__setattr__" cd.mro = pure ()) (hh : cd.hasDict = true)
    (ha : W.findIn K (.ref C) name = some none) (z : ∀ h' tk', (∀ b o, b ≠ dx → hp.get? b = some o → h'.get? b = some o) → h'.Ns1 dx (fun y => if y = name then some v else m0 y) → R (.ok (.ret .none)) ⟨h', g, d, tk', os⟩) :
    codeAny (model prog w) A (.call (.builtin "object.__setattr__") ⟨[.ref x, .str name tk, v], []⟩) R ⟨hp, g, d, t, os⟩ := by
  obtain ⟨oD, _, _, lD, _, _⟩ := ns.count nw
  have J : W.InstAt hp x { cls := .ref C, dict := some dx, data := .fields fv } C (some oD) := ⟨hx, rfl, rfl, lD⟩
  have isO : W.Looks (model prog w) hp (isInstance (.ref x) (.type "object")) true := J.type.andThen (W.looks_mroIn kIn (by unfold W.mroIn; rw [hcd, Option.bind_some, if_neg (by rw [he]; decide), hob]))
  refine codeAny_call_builtin F.store_object.slot.plain F.store_object.entry (@W.check_slot (model prog w) _ _ ⟨hp, g, d, t, os⟩ "object.__setattr__" "object" "__setattr__" (.ref x) [.str name tk, v] [] _ F.store_object.kind F.store_object.split isO (F.store_object.args (.ref x) (.str name tk) v) ?_)
  have lm : W.Looks (model prog w) hp (mroOf (.ref C)) cd.mro := (W.looks_clsIn kIn hcd).andThen .now
  have lc : W.Looks (model prog w) hp (classData C) cd := W.looks_clsIn kIn hcd
  have ln : W.Looks (model prog w) hp (storeTaker? none) none := .now
  rw [W.osa_eq, refuse_eq]; refine wpAny_bind (wpAny_bind (J.type.at (wpAny_bind (lm.at ?_)))); rw [hps]
  refine wpAny_pure (wpAny_bind (J.type.at (wpAny_bind ((W.looks_findIn kIn ha).at (wpAny_bind (ln.at ?_)))))); show wpAny _ _ (storeInOwnDict (.ref x) (.ref C) (.str name tk) name v false) _ _ _
  obtain ⟨nm, bs, mro, nn, qn, hd, sn, sb, ab, col, del⟩ := cd
  dsimp only at hh; subst hh
  unfold storeInOwnDict ownDictForStores
  repeat (first | with_reducible refine PySem.OEX.store_in_old ns nw nz ?_ | with_reducible refine wpAny_loadPart_at hx ?_ | with_reducible refine lc.at ?_ | wp_step)
  exact fun h' tk' hn' hs => z h' tk' (fun b o hb ho => (hs.2 b hb).trans ho) hn'
end
end LK
end PySem
namespace Ly
open PySem PySem.Spec PyProof.Rows L2
/-- what the written part says of such a class: made by the built-in class B, its own chain bm -/
structure OexY (K : PySem.W.Frag) (C : Addr) (B newId initId : String) (bmB bm : List Value) : Prop where
  base : ExcBaseFacts B newId initId bmB
  ch : PySem.LK.Ch bm B
  pass : ∀ self : Value, refuseLoop self "__setattr__" bm = pure ()
  obj : bm.contains (.type "object") = true
  cls : ∃ nm q N bs sn sub ab col dd k0 k1 k2 k3 k5, K.lookup C = some (excClassObj nm q C N bs bm true sn sub ab col dd k0 k1 k2 k3 k5 newId)
  sa : PySem.W.findIn K (.ref C) "__setattr__" = some (some (.builtin "object.__setattr__"))
  kC : PySem.W.keepIn K (.ref C) = true
section
variable {X : Cx} {pins : List (Addr × Obj)} {σ : L2.St} {H : Hp} {s : Shared} {a C dx : Addr} {f : Str} {y : V} {u : Value} {B newId initId : String} {bmB bm : List Value}
/-- self.f = y, the first one -/
theorem ost_firstY {Q : Unit → Shared → Prop} {E : Value → Shared → Prop} {A : Around} (T : OexY X.K C B newId initId bmB bm) (I : Inv X pins σ H s) (e : H a = some (exo a C none)) (hno : PySem.W.findIn X.K (.ref C) f = some none) (ry : RelV y u)
    (h : ∀ dx s', H dx = none → dx ≠ a → Inv X pins σ (upd (upd H dx (exd dx [(f, y)])) a (exo a C (some dx))) s' → Q () s') : wpAny (model X.prog X.w) A (setAttr (.ref a) f u) Q E s := by
  obtain ⟨nm, q, N, bs, sn, sub, ab, col, dd, k0, k1, k2, k3, k5, lC⟩ := T.cls
  obtain ⟨t1, ho⟩ := exo_at I.hok e
  obtain ⟨hp, gs, dr, t, os⟩ := s
  have lcd : PySem.W.clsIn X.K C = some { name := nm, bases := bs, mro := .ref C :: bm, ns := N, qualname := q, hasDict := true, slotNames := sn, subclasses := sub, abstract := ab, collection := col, hasDel := false } := by
    unfold PySem.W.clsIn
    rw [lC] <;> rfl
  refine PySem.W.set_plain I.kIn (ox := { cls := .ref C, dict := none, data := .fields #[.ref t1, .none, .none, .none, .bool false, .none] }) (od := none) ⟨ho, rfl, rfl, trivial⟩ T.sa ?_
  refine PySem.LX.osa_any I.kIn ho lcd rfl (by show (Value.ref C :: bm).contains _ = true; rw [List.contains_cons, T.obj, Bool.or_true]) ((refuseLoop_ref _ _ _ _).trans (T.pass _)) rfl hno (fun h' tk' dx k dn dne hx hn => ?_)
  have fd : H dx = none := I.hok.fresh dn
  have fa : ∀ {b : Addr}, H b = none → b ≠ a := fun {b} n z => by
    rw [z, e] at n
    cases n
  have fb : ∀ {b : Addr} {o : Obj}, hp.get? b = some o → b ≠ dx := fun {b o} z => Nat.ne_of_lt (Nat.lt_of_lt_of_le (Heap.lt_size z) dn)
  have U : Un X.fs [] H (upd (upd H dx (exd dx [(f, y)])) a (exo a C (some dx))) hp h' :=
    { keep := fun b o z n _ _ => k b o (fa n) z
      slot := fun b o z n _ _ => ⟨o.slots, k b o (fa n) z⟩
      free := fun b o z n _ => (upd_ne (fa n)).trans ((upd_ne (fb z)).trans n)
      there := fun b o z _ => by
        by_cases hb : b = a
        · exact ⟨_, by rw [hb]; exact hx⟩
        · exact ⟨o, k b o hb z⟩
      tups := fun b xs z => (upd_ne (at_ne e z exo_tup)).trans ((upd_ne (ne_of_none z fd)).trans z)
      frzs := fun b o v z => (upd_ne (at_ne e z exo_frz)).trans ((upd_ne (ne_of_none z fd)).trans z)
      tbls := fun b ps z => ⟨#[], by rw [upd_ne (at_ne e z exo_tbl), upd_ne (ne_of_none z fd), z]; simp⟩ }
  refine h dx _ fd dne (I.un (t' := tk') U fun b o z => ?_)
  by_cases hb : b = a
  · subst hb
    rw [upd_same] at z
    cases z
    exact exo_ok hx
  rw [upd_ne hb] at z
  by_cases hd : b = dx
  · subst hd
    rw [upd_same] at z
    cases z
    exact exd_ok hn (relO_put (fs := []) ry fun _ => True.intro)
  rw [upd_ne hd] at z
  refine (I.hok b o z).stay (fun c v hc w' => k c v ?_ w') (fun c hc => (upd_ne (at_ne e hc exo_own)).trans ((upd_ne (ne_of_none hc fd)).trans hc)) (fun c xs hc => (upd_ne (at_ne e hc exo_tup)).trans ((upd_ne (ne_of_none hc fd)).trans hc))
  rcases hc with hc | hc
  · rw [hc]
    exact hb
  · exact at_ne e hc exo_own
/-- self.f = y, a further one -/
theorem ost_moreY {fs : List (Str × V)} {Q : Unit → Shared → Prop} {E : Value → Shared → Prop} {A : Around} (T : OexY X.K C B newId initId bmB bm) (I : Inv X pins σ H s) (e : H a = some (exo a C (some dx))) (ed : H dx = some (exd dx fs)) (hl : fs.length ≤ 900) (hno : PySem.W.findIn X.K (.ref C) f = some none) (ry : RelV y u)
    (h : ∀ s', Inv X pins σ (upd H dx (exd dx ((f, y) :: fs))) s' → Q () s') : wpAny (model X.prog X.w) A (setAttr (.ref a) f u) Q E s := by
  obtain ⟨nm, q, N, bs, sn, sub, ab, col, dd, k0, k1, k2, k3, k5, lC⟩ := T.cls
  have lcd : PySem.W.clsIn X.K C = some { name := nm, bases := bs, mro := .ref C :: bm, ns := N, qualname := q, hasDict := true, slotNames := sn, subclasses := sub, abstract := ab, collection := col, hasDel := false } := by
    unfold PySem.W.clsIn
    rw [lC] <;> rfl
  obtain ⟨t1, ho⟩ := exo_at I.hok e
  obtain ⟨mA, hns, rel⟩ := exd_at I.hok ed
  have nw := within_of rel
  obtain ⟨hp, gs, dr, t, os⟩ := s
  obtain ⟨oD, _, _, lD, _, _⟩ := hns.count nw
  refine PySem.W.set_plain I.kIn (ox := { cls := .ref C, dict := some dx, data := .fields #[.ref t1, .none, .none, .none, .bool false, .none] }) (od := some oD) ⟨ho, rfl, rfl, lD⟩ T.sa ?_
  refine PySem.LK.osa_more I.kIn ho hns nw (by rw [List.length_map]; omega) lcd rfl (by show (Value.ref C :: bm).contains _ = true; rw [List.contains_cons, T.obj, Bool.or_true]) ((refuseLoop_ref _ _ _ _).trans (T.pass _)) rfl hno (fun h' tk' k hn => ?_)
  have there : ∃ o, h'.get? dx = some o := by
    obtain ⟨o, _, _, e', _⟩ := hn
    exact ⟨o, e'⟩
  exact h _ (I.write (t' := tk') (x := dx) (e := dx) (o := exd dx ((f, y) :: fs)) (by rw [ed]; exact True.intro) (.inl rfl) k there (exd_ok hn (relO_put ry rel)))
end
section
variable {X : Cx} {o e : Expr} {es : List Expr} {to te : TE} {ta : TA} {f : Str} {p p' pos : Pos} {C : Addr} {B newId initId : String} {bmB bm : List Value}
theorem ps_ostY (T : OexY X.K C B newId initId bmB bm) (hno : PySem.W.findIn X.K (.ref C) f = some none) (ho : PE X o to) (he : PE X e te) (hs : swapsWith e (some (.Attribute o f p')) pos.line X.env = pure false := by rfl) : PS X (.Assign [.Attribute o f p'] e pos) (tOst1 X.K C f to te) := by
  refine ⟨fun pins s σ H D I h => ?_⟩
  refine plainObj_wpAny_Assign_Attribute (thn (he.run pins s σ H _ I h) fun v s1 ⟨y, H1, I1, r1, q1⟩ => thn (ho.run pins s1 σ H1 _ I1 q1) fun u s2 ⟨x, H2, I2, r2, a, ex, ea, q⟩ => ?_) hs
  subst ex
  obtain rfl : u = Value.ref a := r2
  exact ost_firstY T I2 ea hno r1 fun dx s' n ne J => ⟨σ, _, J, q dx n ne⟩
/-- self.f = e, a later one: the dict stands at dx -/
def tOst2 (C : Addr) (f : Str) (to te : TE) : TS := fun D σ H => te σ H fun y H1 => to σ H1 fun x H2 => ∃ (a dx : Addr) (fs : List (Str × V)), x = .ref a ∧ H2 a = some (exo a C (some dx)) ∧ H2 dx = some (exd dx fs) ∧ fs.length ≤ 900 ∧ D.nx σ (upd H2 dx (exd dx ((f, y) :: fs)))
theorem ps_ostM (T : OexY X.K C B newId initId bmB bm) (hno : PySem.W.findIn X.K (.ref C) f = some none) (ho : PE X o to) (he : PE X e te) (hs : swapsWith e (some (.Attribute o f p')) pos.line X.env = pure false := by rfl) : PS X (.Assign [.Attribute o f p'] e pos) (tOst2 C f to te) := by
  refine ⟨fun pins s σ H D I h => ?_⟩
  refine plainObj_wpAny_Assign_Attribute (thn (he.run pins s σ H _ I h) fun v s1 ⟨y, H1, I1, r1, q1⟩ => thn (ho.run pins s1 σ H1 _ I1 q1) fun u s2 ⟨x, H2, I2, r2, a, dx, fs, ex, ea, ed, hl, q⟩ => ?_) hs
  subst ex
  obtain rfl : u = Value.ref a := r2
  exact ost_moreY T I2 ea ed hl hno r1 fun s' J => ⟨σ, _, J, q⟩
/-- C(e, ..) as a value: its own __init__ keeps sp -/
def tMkA (C : Addr) (sp : Sp) (ta : TA) : TE := fun σ H Q => ta σ H fun vs H1 => vs.length ≤ 1000 ∧ ∀ a, H1 a = none → sp (.ref a :: vs) (upd H1 a (exo a C none)) (fun v H2 => v = .non ∧ Q (.ref a) H2) E0
theorem pe_mkA {CX : CXT} {x : Str} {fI : Addr} {k : Nat} {fd : FuncData} {ps : List Str} {sp : Sp} (T : OexY X.K C B newId initId bmB bm) (iC : PySem.W.findIn X.K (.ref C) "__init__" = some (some (.ref fI))) (tI : PySem.W.typeIn X.K (.ref fI) = some (.type "function"))
    (F1 : FnOk X.prog X.w X.K X.mg X.base CX k fI fd ps sp) (hr : Room (k + 1) X.A) (hb : Binds X.K fd ps []) (hx : Passes CX X E0) (hg : Gl X x) (hm : X.mg x = some (.ref C)) (ha : PA X (e :: es) ta)
    (hdb : (x == ("__debug__" : Str)) = false := by decide) (he : starEach (e :: es) X.env = (false, eval e X.env) :: starEach es X.env := by rfl) (hpl : (backTo pos (starEach es X.env)).any (·.1) = false := by rfl) :
    PE X (.Call (.Name x p) (e :: es) [] pos) (tMkA C sp ta) := by
  refine ⟨fun pins s σ H Q I h => ?_⟩
  obtain ⟨nm, q, N, bs, sn, sub, ab, col, dd, k0, k1, k2, k3, k5, lC⟩ := T.cls
  refine wpAny_Call_Name_kw (ld_glob I hg hm ?_ hdb)
  refine PySem.W.callWith_K (h₀ := X.base) I.ok.mod.kin T.kC (thn (ha.run pos pins s σ H _ I h) fun us s1 ⟨vs, H1, I1, r1, hz, q1⟩ => ⟨I1.kIn, ?_⟩) he hpl
  show wpAny _ _ (call (.ref C) us) _ _ _
  obtain ⟨hp, gs, dr, tk, os⟩ := s1
  have le1 : hp.objs.size ≤ hp.objs.size + 1 := Nat.le_succ _
  have hq := q1 (hp.objs.size + 1) (I1.hok.fresh le1)
  have up : ∀ b o, hp.get? b = some o → ((hp.push (PySem.W.kdv_tup us)).push (PySem.HandSPX.excO C hp.objs.size)).get? b = some o := fun b o z => Heap.get?_push_of_some _ (Heap.get?_push_of_some _ z)
  have at1 : ((hp.push (PySem.W.kdv_tup us)).push (PySem.HandSPX.excO C hp.objs.size)).get? (hp.objs.size + 1) = some (PySem.HandSPX.excO C hp.objs.size) := by heap_get
  have J : Inv X pins σ (upd H1 (hp.objs.size + 1) (exo (hp.objs.size + 1) C none)) ⟨(hp.push (PySem.W.kdv_tup us)).push (PySem.HandSPX.excO C hp.objs.size), gs, dr, tk, os⟩ :=
    I1.laid (t' := tk) (a := hp.objs.size + 1) (o := exo (hp.objs.size + 1) C none) (h' := (hp.push (PySem.W.kdv_tup us)).push (PySem.HandSPX.excO C hp.objs.size)) up le1 (exo_ok at1)
  have rv : Vals (V.ref (hp.objs.size + 1) :: vs) (Value.ref (hp.objs.size + 1) :: us) := .cons rfl r1
  have nl : (Value.ref (hp.objs.size + 1) :: us ++ []).length = ps.length := by
    rw [List.append_nil, ← rv.length]
    exact F1.len _ _ _ _ hq
  have nu : us.length ≤ sizeLine := by
    rw [← Paired.length r1, sizeLine_eq]
    omega
  have hb' := hb _ (Value.ref (hp.objs.size + 1) :: us) J.kIn nl
  rw [List.append_nil] at hb'
  refine wpAny_call (PySem.LK.called T.base T.ch (I1.kIn _ _ lC) (PySem.W.looks_findIn I1.kIn iC) (fun self => PySem.W.bind_fn I1.kIn self tI) nu
    (codeAny_mono (F1.run _ X.stack _ _ ⟨Value.ref (hp.objs.size + 1) :: us, []⟩ (Value.ref (hp.objs.size + 1) :: us) _ _ E0 (hr.make C us []) (J.env0.make C us []) hb' rv hq) fun r s' hq' => ?_))
  rcases r with er | fl
  · exact hx pins σ _ _ er s' J hq'
  · cases fl with
    | ret u =>
      obtain ⟨v, H2, I2, rv2, ev, q2⟩ := J.after hq'
      subst ev
      exact ⟨rv2, .ref (hp.objs.size + 1), H2, I2, rfl, q2⟩
    | next | brk | cont => exact False.elim hq'
/-- err.f, err held by a value -/
def tXo (C : Addr) (f : Str) (te : TE) : TE := fun σ H Q => te σ H fun x H1 => ∃ (a d : Addr) (fs : List (Str × V)) (v : V), x = .ref a ∧ H1 a = some (exo a C (some d)) ∧ H1 d = some (exd d fs) ∧ fs.lookup f = some v ∧ Q v H1
theorem pe_xo {n : Str} (T : XfC X.K C) (hno : PySem.W.findIn X.K (.ref C) n = some none) (he : PE X e te) (hb : attributeBase e n X.env (eval e X.env) = eval e X.env := by rfl) : PE X (.Attribute e n pos) (tXo C n te) := by
  refine ⟨fun pins s σ H Q I h => ?_⟩
  refine attr_of hb (thn (he.run pins s σ H _ I h) fun u s1 hh => ?_)
  obtain ⟨x, H1, I1, rx, a, d, fs, v, ex, ea, ed, l, q⟩ := hh
  subst ex
  obtain rfl : u = Value.ref a := rx
  obtain ⟨t1, ho⟩ := exo_at I1.hok ea
  obtain ⟨mA, hns, hr⟩ := exd_at I1.hok ed
  obtain ⟨od, hd, hl⟩ := lookIn_ns hns
  obtain ⟨u, hu, ru⟩ := RelO.some_of (v := v) (o := mA n) (by rw [← l]; exact hr n)
  have J : PySem.W.InstAt s1.heap a { cls := .ref C, dict := some d, data := .fields #[.ref t1, .none, .none, .none, .bool false, .none] } C (some od) := ⟨ho, rfl, rfl, hd⟩
  exact HandSPX.exc_get I1.kIn J T.ga T.gg T.exC (PySem.W.findObj_own T.hdC hno rfl (by rw [hl, hu])) (handed_of ru) ⟨v, H1, I1.tok _, ru, q⟩
end
/-- an exception of the class at C stands at a -/
def IsEx (H : Hp) (a C : Addr) : Prop := (∃ d fs, H a = some (exo a C (some d)) ∧ H d = some (exd d fs)) ∨ H a = some (ExO (.ref C) a)
theorem IsEx.same {H H' : Hp} {a C : Addr} (s : Same H H') (h : IsEx H a C) : IsEx H' a C := by
  rcases h with ⟨d, fs, h1, h2⟩ | h
  · exact .inl ⟨d, fs, s _ _ h1, s _ _ h2⟩
  · exact .inr (s _ _ h)
def rIsx (K : PySem.W.Frag) : List V → Hp → VK → Prop := fun xs H Q => ∃ (a C : Addr) (c : V) (u : Value) (b : Bool), xs = [.ref a, c] ∧ ExcC K C ∧ IsEx H a C ∧ ClsV c u ∧ PySem.W.kitOne K (.ref C) u = some b ∧ Q (.bl b) H
theorem call_isx {X : Cx} : CallR X (.builtin "isinstance") (rIsx X.K) := by
  intro pins s σ H xs us Q I r h
  obtain ⟨a, C, c, u, b, rfl, T, hx, k, e, q⟩ := h
  obtain ⟨u1, u2, rfl, r1, r2⟩ := vals2 r
  have e2 := k.eq r2
  subst e2
  cases (show u1 = Value.ref a from r1)
  have hc : (PySem.W.clsIn X.K C).isSome = true := by
    obtain ⟨cd, hc, _⟩ := PySem.W.any_some T.hd
    rw [hc] <;> rfl
  obtain ⟨ox, od, J⟩ : ∃ (ox : Obj) (od : Option Obj), PySem.W.InstAt s.heap a ox C od := by
    rcases hx with ⟨d, fs, h1, h2⟩ | h1
    · obtain ⟨t1, ho⟩ := exo_at I.hok h1
      obtain ⟨mA, hns, _⟩ := exd_at I.hok h2
      obtain ⟨od, hd, _⟩ := lookIn_ns hns
      exact ⟨_, some od, ho, rfl, rfl, hd⟩
    · obtain ⟨⟨oe, vs, ho, hz, hd, _⟩, _, _⟩ := I.hok a _ h1
      obtain ⟨oc, od, oda, osl⟩ := oe
      obtain ⟨z1, z2⟩ := hz
      dsimp only at z1 z2 hd
      subst z1 z2 hd
      exact ⟨_, none, ho, rfl, rfl, trivial⟩
  exact PySem.W.kia_one (PySem.W.kitx_exc hc T.hg T.hk T.hs T.ha T.hn T.ht T.hm) I.kIn J e (fun z => nomatch z) fun tk => ⟨.bl b, H, I.tok tk, rfl, q⟩
end Ly

set_option Elab.async false
set_option linter.all false
set_option maxRecDepth 100000
set_option maxHeartbeats 8000000
namespace K05
open PySem PySem.Spec PyProof.Rows L2 Ly Cut

section
variable {P : Program} {w : World} {K : PySem.W.Frag} {mg : Str → Option Value} {base : Heap} {f C CI CO CN : Addr} {fd : FuncData}
/-- an own class of errors that take a message -/
structure XE0 (K : PySem.W.Frag) (mg : Str → Option Value) (n : Str) (C : Addr) : Prop where
  g : mg n = some (.ref C)
  x : PySem.W.excIn K C [.type "ValueError", .type "Exception", .type "BaseException", .type "object"] "ValueError.__new__" = true
  k : PySem.W.keepIn K (.ref C) = true
  b : PySem.W.subIn K (.ref C) (.type "BaseException") = some true
  t : PySem.W.typeIn K (.ref C) = some (.type "type")
def isBad (z : Str) : Bool := !decide (z = "all") && (!decide ((Txt.partition z "..").2.1 = "..") || decide (2 < (Txt.partition z "..").1.length) || decide (3 < (Txt.partition z "..").2.2.length) || !(((Txt.partition z "..").1 ++ (Txt.partition z "..").2.2).cps.toList.all fun c => c == 43 || c == 45))
/-- a text that is no part, and short -/
def Odd (z : Str) : Bool := isBad z && decide (z.length ≤ 100) && decide ((Txt.partition z "..").1.length ≤ 100) && decide ((Txt.partition z "..").2.2.length ≤ 100) && decide (((Txt.partition z "..").1 ++ (Txt.partition z "..").2.2).length ≤ 200)
theorem sgn_any (c : Nat) : inV (V.str ⟨#[c]⟩) [V.str "+", V.str "-"] = (c == 43 || c == 45) := by
  have e : ∀ k : Nat, ((⟨#[c]⟩ : Str) = ⟨#[k]⟩) ↔ c = k := fun k => ⟨fun h => by
    have z := congrArg (fun s : Str => s.cps.toList) h
    exact (List.cons.inj z).1, fun h => by rw [h]⟩
  show ((decide (("+" : Str) = (⟨#[c]⟩ : Str))) || ((decide (("-" : Str) = (⟨#[c]⟩ : Str))) || false)) = _
  rw [show ("+" : Str) = ⟨#[43]⟩ by decide +kernel, show ("-" : Str) = ⟨#[45]⟩ by decide +kernel, Bool.or_false, decide_eq_decide.mpr (eq_comm.trans (e 43)), decide_eq_decide.mpr (eq_comm.trans (e 45))]
  rfl
/-- whether a value is a part: a part's text; another text; a value of another kind -/
def IsIt (K : PySem.W.Frag) (H : Hp) (x : V) (b : Bool) : Prop := (b = true ∧ ∃ p : Part, x = .str p.text ∧ Ok p) ∨ (b = false ∧ ((∃ z : Str, x = .str z ∧ Odd z = true) ∨ ∃ t : Value, TyX K H x t ∧ PySem.W.kitOne K t (.type "str") = some false))
def spIsPartF (K : PySem.W.Frag) : Sp := fun vs H Q _ => ∃ x : V, vs = [x] ∧ ((∃ z : Str, x = .str z ∧ Odd z = true) ∨ ∃ t : Value, TyX K H x t ∧ PySem.W.kitOne K t (.type "str") = some false) ∧ ∀ H', Same H H' → Q (.bl false) H'
theorem ok_is_partF (Z : Zs mg) (D : Df K mg "is_part" s_is_part P_is_part f fd) : FnOk P w K mg base CX0 1 f fd P_is_part (spIsPartF K) := by
  refine D.F.ok sc_is_part (fun vs H Q E h => ?_) (fun cdv A outer s H vs Q E hr h => ?_)
  · obtain ⟨x, rfl, _⟩ := h
    rfl
  · obtain ⟨x, rfl, hx, q⟩ := h
    have nd := sc_is_part.nd
    refine ⟨_,
    (pss_cons
    (ps_if (pt_not (pt_val (pe_callB call_isi (by rfl) Z.z_isinstance (by decide +kernel) (pa_cons (pv 0) (pa_cons (pe_bltn (v := .ty "str") (by rfl) Z.z_str (by decide +kernel) rfl) pa_nil)))))
      (pss_one
      (ps_ret pe_bl))
      pss_nil)
    (pss_cons
    (ps_if (pt_cmpR op_eq (pv 0) (pe_gS rfl Z.g_KEEP_ALL) (nomark _))
      (pss_one
      (ps_ret pe_bl))
      pss_nil)
    (pss_cons
    (ps_asg (pe_partition (pv 0) (pe_gS rfl Z.g_DOTS)) (pg_tup rfl (pgs_cons (pg_name (i := 1) nd rfl (Or.inl rfl)) (pgs_cons (pg_name (i := 2) nd rfl (Or.inl rfl)) (pgs_cons (pg_name (i := 3) nd rfl (Or.inl rfl)) pgs_nil)))))
    (pss_cons
    (ps_if (PW.pt (pw_or (pt_cmpR op_ne (pv 2) (pe_gS rfl Z.g_DOTS) (nomark _)) (pw_or (pt_cmpR op_gt (pe_callB call_len_str (by rfl) Z.z_len (by decide +kernel) (pa_cons (pv 1) pa_nil)) (pe_gI rfl Z.g_MAX_FRONT) (nomark _)) (pw_or1 (pt_cmpR op_gt (pe_callB call_len_str (by rfl) Z.z_len (by decide +kernel) (pa_cons (pv 3) pa_nil)) (pe_gI rfl Z.g_MAX_BACK) (nomark _))))))
      (pss_one
      (ps_ret pe_bl))
      pss_nil)
    (pss_one
    (ps_ret (pe_callB (cr_all rfl) (by rfl) Z.z_all (by decide +kernel) (pa_cons (pe_lc (own := [("sign", 4)]) (g := gName 4) (tt := tYes) rfl nd (pi_str (pe_op op_add_str (pv 1) (pv 3))) (blkOk_by (N := N_is_part) (sc := defScope s_is_part) (by decide +kernel)) (fun _ _ _ _ _ => (pg_name (i := 4) nd rfl (Or.inl rfl))) (fun _ _ _ _ _ => pts_nil) (fun _ _ _ _ _ => (pe_cmpR (inK (K := K) rfl) (pv 4) (pe_tup (pa_cons pe_str (pa_cons pe_str pa_nil))) (by rfl)))) pa_nil)))))))), ?_⟩
    rcases hx with ⟨z, rfl, hz⟩ | ⟨t, ht, hk⟩
    · unfold Odd at hz
      simp only [Bool.and_eq_true, decide_eq_true_eq] at hz
      obtain ⟨⟨⟨⟨hb, l0⟩, l1⟩, l2⟩, l3⟩ := hz
      unfold isBad at hb
      obtain ⟨na, hb⟩ := Bool.and_eq_true_iff.mp hb
      refine ⟨_, rfl, .str z, .ty "str", _, _, true, rfl, .ty _, .base (.str z), kit_ty (by decide +kernel), true, rfl, ifF rfl ?_⟩
      dsimp only [tNext]
      refine ⟨_, rfl, rfl, _, rfl, ifF (decide_eq_false fun e => ?_) ?_⟩
      · rw [decide_eq_true (V.str.inj e)] at na
        cases na
      dsimp only [tNext]
      refine ⟨_, rfl, ⟨_, rfl⟩, _, _, rfl, rfl, by decide +kernel, sz1000 (by omega), fun a na => ?_⟩
      refine ⟨a, _, rfl, .of upd_same, rfl, _, _, rfl, _, _, rfl, _, _, rfl, rfl, ?_⟩
      have s1 := same_new (o := .tup [V.str (Txt.partition z "..").1, .str (Txt.partition z "..").2.1, .str (Txt.partition z "..").2.2]) na
      generalize (Txt.partition z "..").1 = fr at hb l1 l3 s1 ⊢
      generalize (Txt.partition z "..").2.1 = dt at hb s1 ⊢
      generalize (Txt.partition z "..").2.2 = bk at hb l2 l3 s1 ⊢
      generalize upd H a _ = H1 at s1 ⊢
      refine ⟨_, rfl, rfl, _, rfl, ?_⟩
      by_cases e1 : dt = ".."
      · subst e1
        refine ifF rfl ?_
        refine ⟨_, rfl, fr, rfl, sz1000 (by omega), _, _, rfl, rfl, _, rfl, ?_⟩
        by_cases e2 : (fr.length : Int) > 2
        · exact ifT (decide_eq_true e2) (q H1 s1)
        refine ifF (decide_eq_false e2) ?_
        refine ⟨_, rfl, bk, rfl, sz1000 (by omega), _, _, rfl, rfl, _, rfl, ?_⟩
        by_cases e3 : (bk.length : Int) > 3
        · exact ifT (decide_eq_true e3) (q H1 s1)
        refine ifF (decide_eq_false e3) ?_
        dsimp only [tNext]
        refine ⟨_, rfl, _, rfl, fr, bk, rfl, rfl, sz1000 (by omega), fr ++ bk, rfl, fun D9 nD => ?_⟩
        have hall : ((fr ++ bk).cps.toList.all fun c => c == 43 || c == 45) = false := by
          rw [decide_eq_true rfl, decide_eq_false (show ¬ 2 < fr.length by omega), decide_eq_false (show ¬ 3 < bk.length by omega)] at hb
          simpa using hb
        have hlen : (fr ++ bk).cps.toList.length ≤ 200 := by
          rw [str_len]
          exact l3
        generalize fr ++ bk = y at hall hlen ⊢
        refine lc_gen (n := y.cps.size) (fun i H' => Same H1 H' ∧ H' D9 = some (.lst (((y.cps.toList.take i).map fun c => (c == 43 || c == 45)).map V.bl))) ⟨same_new nD, upd_same⟩ (fun i H' hi _ => hi) (fun H' _ => Nat.le_refl _) ?_ ?_
        · intro i x H2 H' hi hP hy
          obtain ⟨rfl, c, hc, rfl⟩ := hy
          obtain ⟨s2, hd⟩ := hP
          have hl : y.cps.size = y.cps.toList.length := by simp
          have hc' : y.cps.toList[i]? = some c := by simpa using hc
          refine ⟨rfl, _, rfl, by show 2 ≤ sizeLine; decide, fun t nt => ⟨t, _, rfl, .inr (.of upd_same), rfl, rfl, _, same_new nt _ _ hd, ?_, ?_, ?_⟩⟩
          · rw [List.length_map, List.length_map, List.length_take]
            exact small1000 (by omega)
          · refine same_set (s2.trans (same_new nt)) ?_
            exact nD
          · rw [upd_same]
            have e1 : (if false = true then !inV (V.str ⟨#[c]⟩) [V.str "+", V.str "-"] else inV (V.str ⟨#[c]⟩) [V.str "+", V.str "-"]) = (c == 43 || c == 45) := sgn_any c
            rw [e1, List.take_add_one, hc']
            simp only [Option.toList_some, List.map_append, List.map_cons, List.map_nil]
        · intro H' hP
          obtain ⟨s2, hd⟩ := hP
          refine ⟨D9, _, rfl, .of hd, ?_⟩
          have e1 : (((y.cps.toList.take y.cps.size).map fun c => (c == 43 || c == 45)).all id) = false := by
            have hl : y.cps.size = y.cps.toList.length := by simp
            rw [hl, List.take_length, List.all_map]
            exact hall
          rw [e1]
          exact q H' (s1.trans s2)
      · exact ifT (by rw [decide_eq_false fun e => e1 (V.str.inj e)]; rfl) (q H1 s1)
    · exact ⟨_, rfl, x, .ty "str", _, _, false, rfl, .ty _, ht, hk, false, rfl, ifT rfl (q H (Same.refl H))⟩

/-- a def of the module, called, exceptions may leave it -/
structure Cl2 (P : Program) (w : World) (K : PySem.W.Frag) (mg : Str → Option Value) (base : Heap) (CX : CXT) (x : Str) (k : Nat) (f : Addr) (fd : FuncData) (ps : List Str) (sp : Sp) : Prop where
  ok : FnOk P w K mg base CX k f fd ps sp
  g : mg x = some (.ref f)
  kp : PySem.W.keepIn K (.ref f) = true
  b : Binds K fd ps []
/-- whether all that call sp1 or sp2 asks -/
def spIsPartA (K : PySem.W.Frag) : Sp := fun vs H Q E => spIsPart vs H Q E ∨ spIsPartF K vs H Q E
theorem isIt_call {K : PySem.W.Frag} {H : Hp} {x : V} {b : Bool} {Q : VK} {E : XK} (h : IsIt K H x b) (q : ∀ H', Same H H' → Q (.bl b) H') : spIsPartA K [x] H Q E := by
  rcases h with ⟨rfl, p, rfl, hp⟩ | ⟨rfl, h⟩
  · exact .inl ⟨p, rfl, hp, q⟩
  · exact .inr ⟨x, rfl, h, q⟩
theorem msg_small (s : String) (h : s.length ≤ 1000) : (Str.ofString s).length ≤ 1000 := by
  have e := congrArg List.length (signs_ofString s)
  rw [List.length_map] at e
  have e2 : (Str.ofString s).length = (Str.ofString s).cps.toList.length := (str_len _).symm
  rw [e2, e]
  exact Nat.le_trans (Nat.le_of_eq String.length_toList) h
/-- too many parts, or one that is none: the first such is told -/
def spCheckX (K : PySem.W.Frag) (CI : Addr) : Sp := fun vs H _ E => ∃ (a : Addr) (xs : List V) (bs : List Bool), vs = [.ref a] ∧ SqT K H a xs ∧ bs.length = xs.length ∧ xs.length ≤ 100 ∧ (∀ (i : Nat) (x : V) (b : Bool), xs[i]? = some x → bs[i]? = some b → ∀ H', Same H H' → IsIt K H' x b) ∧ (4 < xs.length ∨ false ∈ bs) ∧ ∀ H', Same H H' → E (.ref CI) none H'

theorem ok_checkX (Z : Zs mg) (D : Df K mg "check_parts" s_check_parts P_check_parts f fd) (XI : XE0 K mg "InvalidCutter" CI) {fp : Addr} {dp : FuncData} (D_is_part : Cl P w K mg base "is_part" 1 fp dp P_is_part (spIsPartA K)) : FnOk P w K mg base (L2.CX P w) 2 f fd P_check_parts (spCheckX K CI) := by
  refine D.F.okX sc_check_parts (fun vs H Q E h => ?_) (fun cdv A outer s H vs Q E hr h => ?_)
  · obtain ⟨a, xs, bs, rfl, _⟩ := h
    rfl
  · obtain ⟨a, xs, bs, rfl, hS, hbl, hxl, hit, hbad, q⟩ := h
    have nd := sc_check_parts.nd
    refine ⟨_,
    (pss_one
    (ps_for (passes_of rfl) rfl (pi_enumT (by rfl) Z.z_enumerate (pa_cons (pv 0) pa_nil)) (pg_tup rfl (pgs_cons (pg_name (i := 1) nd rfl (Or.inl rfl)) (pgs_cons (pg_name (i := 2) nd rfl (Or.inl rfl)) pgs_nil)))
      (pss_cons
      (ps_if (pt_cmpR op_ge (pv 1) (pe_gI rfl Z.g_MAX_PARTS) (nomark _))
        (pss_one
        (ps_raise rfl (takes_of rfl rfl rfl rfl) (SkE.pmk_own1 F.excBase_ValueError XI.x XI.g XI.k (raises_own XI.b XI.t) rfl (pe_joined (.cons pe_str (.cons (pe_fmt (pe_gI rfl Z.g_MAX_PARTS)) (.cons pe_str .nil)))))))
        pss_nil)
      (pss_one
      (ps_if (pt_not (pt_val (pe_call D_is_part.ok (hr.mono (by decide)) (by rfl) D_is_part.g D_is_part.kp D_is_part.b .nil pass0 (pa_cons (pv 2) pa_nil))))
        (pss_one
        (ps_raise rfl (takes_of rfl rfl rfl rfl) (SkE.pmk_own1 F.excBase_ValueError XI.x XI.g XI.k (raises_own XI.b XI.t) rfl (pe_joined (.cons pe_str (.cons (pe_fmt (pv 1)) (.cons pe_str .nil)))))))
        pss_nil))))), ?_⟩
    refine ⟨_, rfl, a, _, rfl, hS, ?_⟩
    refine for_enumT (xs := xs) (fun i σ' H' => Same H H' ∧ i ≤ 4 ∧ (∀ b ∈ bs.take i, b = true) ∧ ∃ x1 x2, σ' = [some (.ref a), x1, x2]) ⟨Same.refl H, Nat.zero_le _, fun b hb => by simp at hb, none, none, rfl⟩ (fun i σ' H' _ hP => sameT hP.1 hS) (fun i x σ' H1 T hx hP nT => ?_) (fun σ' H1 hP => ?_)
    · obtain ⟨s1, hi4, hall, x1, x2, rfl⟩ := hP
      have hi := (List.getElem?_eq_some_iff.mp hx).1
      have hb : bs[i]? = some bs[i] := List.getElem?_eq_getElem (by omega)
      refine ⟨T, _, rfl, .of upd_same, rfl, _, _, rfl, _, _, rfl, rfl, ?_⟩
      have s2 := s1.trans (same_new (o := .tup [V.int (i : Nat), x]) nT)
      refine ⟨_, rfl, _, _, rfl, rfl, _, rfl, ?_⟩
      by_cases h4 : (i : Int) ≥ 4
      · refine ifT (decide_eq_true h4) ?_
        refine ⟨_, rfl, by decide +kernel, .inr ⟨4, rfl, by decide, _, rfl, by decide +kernel, _, rfl, by decide +kernel, q _ s2⟩⟩
      · refine ifF (decide_eq_false h4) ?_
        dsimp only [tNext]
        refine ⟨_, rfl, isIt_call (hit i x _ hx hb _ s2) fun H2 s3 => ⟨bs[i], rfl, ?_⟩⟩
        have s4 := s2.trans s3
        by_cases hbi : bs[i] = true
        · refine ifF (by rw [hbi]; rfl) ⟨s4, by omega, fun b hb' => ?_, _, _, rfl⟩
          rw [List.take_add_one, hb] at hb'
          rcases List.mem_append.mp hb' with m | m
          · exact hall b m
          · rw [List.mem_singleton.mp m]
            exact hbi
        · refine ifT (by rw [eq_false_of_ne_true hbi]; rfl) ?_
          have hsz : ∀ k : Fin 5, ((Str.empty ++ ("the value at " : Str)) ++ (toString ((k.val : Nat) : Int) : String)).length ≤ sizeLine ∧ (((Str.empty ++ ("the value at " : Str)) ++ (toString ((k.val : Nat) : Int) : String)) ++ (" is no part of a cutter" : Str)).length ≤ sizeLine := by decide +kernel
          have hk := hsz ⟨i, by omega⟩
          have hlg : ∀ k : Fin 5, ((k.val : Nat) : Int).natAbs.log2 < 1920 := by decide +kernel
          exact ⟨_, rfl, by decide +kernel, _, rfl, .inr ⟨(i : Int), rfl, hlg ⟨i, by omega⟩, _, rfl, hk.1, _, rfl, hk.2, q _ s4⟩⟩
    · obtain ⟨s1, hi4, hall, x1, x2, rfl⟩ := hP
      rcases hbad with h | h
      · omega
      · have z := hall false (by rw [← hbl, List.take_length]; exact h)
        cases z

section
variable {N ps : List Str} {pv : Str} {x qual : Str} {st : Stmt} {k : Nat} {sp : Sp}
theorem fun_starX (F : Fun K x qual st f fd) (S : FnScope N (ps ++ [pv]) (defScope st))
    (hb : ∀ (kV doc pm : Value) (an : Option Addr) (cdv ct : Value) (us rest : List Value), us.length = ps.length → bindArgs (PySem.W.fnOf x qual (defArgs st) (defBody st) (defScope st) .none kV doc pm an cdv ct) ⟨us ++ rest, []⟩ = (newTuple rest >>= fun t => pure (ps.zip us ++ [(pv, t)])))
    (hbody : ∀ (cdv : Value) (A : Around) (outer : List Env) (s : Shared) (H : Hp) (vs : List V) (Q : VK) (E : XK), Room k (A.deeper (envOfC qual (defScope st) s.heap.objs.size f cdv)) → sp vs H Q E →
      ∃ t, PSs (cxOf (L2.CX P w) P w K mg base N qual (defScope st) f cdv A outer s H E) (defBody st) t ∧ t { nx := fun _ H' => Q .non H', rt := Q } (start N vs) H) :
    FnR P w K mg base (L2.CX P w) (k + 1) f (fun vs H Q E => ∃ ws rest, vs = ws ++ rest ∧ ws.length = ps.length ∧ rest.length ≤ sizeLine ∧ ∀ p, H p = none → sp (ws ++ [V.ref p]) (upd H p (.tup rest)) Q E) := by
  obtain ⟨oc, od, kV, doc, pm, an, cdv, ct, osl, rfl, lk, hcd⟩ := F.ex
  exact StX.fn_star lk hcd S StX.cxUp (fun us rest h => hb kV doc pm an cdv ct us rest h) fun A outer s H vs Q E hr hsp => hbody cdv A outer s H vs Q E hr hsp
end
/-- parts that no cutter can have -/
def BadP (K : PySem.W.Frag) (H : Hp) (xs : List V) : Prop := ∃ bs : List Bool, bs.length = xs.length ∧ xs.length ≤ 100 ∧ (∀ (i : Nat) (x : V) (b : Bool), xs[i]? = some x → bs[i]? = some b → ∀ H', Same H H' → IsIt K H' x b) ∧ (4 < xs.length ∨ false ∈ bs)
theorem BadP.same {K : PySem.W.Frag} {H H' : Hp} {xs : List V} (s : Same H H') (h : BadP K H xs) : BadP K H' xs := by
  obtain ⟨bs, h1, h2, h3, h4⟩ := h
  exact ⟨bs, h1, h2, fun i x b e1 e2 H2 s2 => h3 i x b e1 e2 H2 (s.trans s2), h4⟩
def spInitXB (K : PySem.W.Frag) (CI : Addr) : Sp := fun vs H _ E => ∃ (x p : Addr) (xs : List V), vs = [.ref x, .ref p] ∧ H p = some (.tup xs) ∧ BadP K H xs ∧ ∀ H', Same H H' → E (.ref CI) none H'
def spInitX (K : PySem.W.Frag) (CI : Addr) : Sp := fun vs H _ E => ∃ (x : Addr) (xs : List V), vs = .ref x :: xs ∧ BadP K H xs ∧ ∀ H', Same H H' → E (.ref CI) none H'

theorem ok_initX (F : Fun K "__init__" "Cutter.__init__" s_init f fd) {f1 : Addr} {d1 : FuncData} (D_check_parts : Cl2 P w K mg base (L2.CX P w) "check_parts" 2 f1 d1 P_check_parts (spCheckX K CI)) : FnR P w K mg base (L2.CX P w) 5 f (spInitX K CI) := by
  have main : FnR P w K mg base (L2.CX P w) 5 f (fun vs H Q E => ∃ ws rest, vs = ws ++ rest ∧ ws.length = (["self"] : List Str).length ∧ rest.length ≤ sizeLine ∧ ∀ p, H p = none → spInitXB K CI (ws ++ [V.ref p]) (upd H p (.tup rest)) Q E) := by
    refine fun_starX (sp := spInitXB K CI) (ps := ["self"]) (pv := "parts") (N := N_init) F sc_init (fun kV doc pm an cdv ct => StX.bind_star1 (B := fun l => bindArgs (PySem.W.fnOf "__init__" "Cutter.__init__" (defArgs s_init) (defBody s_init) (defScope s_init) .none kV doc pm an cdv ct) ⟨l, []⟩) (fun a => rfl) (fun a r rs => rfl)) (fun cdv A outer s H vs Q E hr h => ?_)
    obtain ⟨x, p, xs, rfl, hp, ⟨bs, hb1, hb2, hb3, hb4⟩, q⟩ := h
    have nd := sc_init.nd
    refine ⟨_, (pss_cons (ps_expr (pe_call D_check_parts.ok (hr.mono (by decide)) (by rfl) D_check_parts.g D_check_parts.kp D_check_parts.b .nil (passes_call (takes_of rfl rfl rfl rfl) (fun _ _ _ _ h => h)) (pa_cons (pv 1) pa_nil))) (pss_cons ps_never (pss_cons ps_never (pss_cons ps_never pss_nil)))), ?_⟩
    exact ⟨_, rfl, p, xs, bs, rfl, .of hp, hb1, hb2, hb3, hb4, q⟩
  refine main.imp fun vs H Q E h => ?_
  obtain ⟨x, xs, rfl, hb, q⟩ := h
  refine ⟨[.ref x], xs, rfl, rfl, ?_, fun p np => ⟨x, p, xs, rfl, upd_same, hb.same (same_new np), fun H' s => q H' ((same_new np).trans s)⟩⟩
  obtain ⟨bs, _, h2, _⟩ := hb
  exact sz1000 (by omega)

def spOfX (K : PySem.W.Frag) (C CI : Addr) : Sp := fun vs H _ E => ∃ v : V, vs = [.ref C, v] ∧ ((∃ t : Value, TyX K H v t ∧ PySem.W.kitOne K t (.type "tuple") = some false) ∨ ∃ (a : Addr) (xs : List V), v = .ref a ∧ H a = some (.tup xs) ∧ BadP K H xs) ∧ ∀ H', Same H H' → E (.ref CI) none H'
theorem okm_ofX (Z : Zs mg) (D : Dm K "of" "Cutter.of" s_of P_of f fd) (XI : XE0 K mg "InvalidCutter" CI) {fi : Addr} (M : Mk K C fi) (FI : FnR P w K mg base (L2.CX P w) 5 fi (spInitX K CI)) : FnOk P w K mg base (L2.CX P w) 7 f fd P_of (spOfX K C CI) := by
  refine D.F.okX sc_of (fun vs H Q E h => ?_) (fun cdv A outer s H vs Q E hr h => ?_)
  · obtain ⟨v, rfl, _⟩ := h
    rfl
  · obtain ⟨v, rfl, hv, q⟩ := h
    have nd := sc_of.nd
    refine ⟨_,
    (pss_cons
    (ps_if (pt_not (pt_val (pe_callB call_isi (by rfl) Z.z_isinstance (by decide +kernel) (pa_cons (pv 1) (pa_cons (pe_bltn (v := .ty "tuple") (by rfl) Z.z_tuple (by decide +kernel) rfl) pa_nil)))))
      (pss_one
      (ps_raise rfl (takes_of rfl rfl rfl rfl) (pmk_own F.excBase_ValueError XI.x XI.g XI.k (raises_own XI.b XI.t) rfl)))
      pss_nil)
    (pss_one
    (ps_ret (pe_makeVS M FI (hr.mono (by decide)) (passes_call (takes_of rfl rfl rfl rfl) (fun _ _ _ _ h => h)) (pv 0) (pv 1))))), ?_⟩
    rcases hv with ⟨t, ht, hk⟩ | ⟨a, xs, rfl, ha, hb⟩
    · exact ⟨_, rfl, v, .ty "tuple", _, _, false, rfl, .ty _, ht, hk, false, rfl, ifT rfl (q H (Same.refl H))⟩
    · refine ⟨_, rfl, .ref a, .ty "tuple", _, _, true, rfl, .ty _, .base (.tup ha), kit_ty (by decide +kernel), true, rfl, ifF rfl ?_⟩
      dsimp only [tNext]
      refine ⟨_, rfl, rfl, _, rfl, a, xs, rfl, .inl (.of ha), fun x dx nx ndx hne => ?_⟩
      have s1 : Same H (upd (upd H dx (.own x)) x (.ins C dx [])) := fun b o e => by
        rw [upd_ne (ne_of_none e nx), upd_ne (ne_of_none e ndx)]
        exact e
      exact ⟨x, xs, rfl, hb.same s1, fun H' s => q H' (s1.trans s)⟩

def spChkX (K : PySem.W.Frag) (C CI : Addr) : Sp := fun vs H _ E => ∃ (v : V) (t : Value), vs = [v] ∧ TyX K H v t ∧ PySem.W.kitOne K t (.ref C) = some false ∧ E (.ref CI) none H
theorem ok_chkX (Z : Zs mg) (D : Df K mg "check_cutter" s_check_cutter P_check_cutter f fd) (XI : XE0 K mg "InvalidCutter" CI) (hC : mg "Cutter" = some (.ref C)) : FnOk P w K mg base (L2.CX P w) 1 f fd P_check_cutter (spChkX K C CI) := by
  refine D.F.okX sc_check_cutter (fun vs H Q E h => ?_) (fun cdv A outer s H vs Q E hr h => ?_)
  · obtain ⟨v, t, rfl, _⟩ := h
    rfl
  · obtain ⟨v, t, rfl, ht, hk, q⟩ := h
    have nd := sc_check_cutter.nd
    refine ⟨_,
    (pss_one
    (ps_if (pt_not (pt_val (pe_callB call_isi (by rfl) Z.z_isinstance (by decide +kernel) (pa_cons (pv 0) (pa_cons (pe_glob (v := .ref C) rfl hC rfl) pa_nil)))))
      (pss_one
      (ps_raise rfl (takes_of rfl rfl rfl rfl) (pmk_own F.excBase_ValueError XI.x XI.g XI.k (raises_own XI.b XI.t) rfl)))
      pss_nil)), ?_⟩
    exact ⟨_, rfl, v, .ref C, _, _, false, rfl, .own C, ht, hk, false, rfl, ifT rfl q⟩

theorem okm_withinX (D : Dm K "is_within" "Cutter.is_within" s_within P_within f fd) {f1 : Addr} {d1 : FuncData} (D_check_cutter : Cl2 P w K mg base (L2.CX P w) "check_cutter" 1 f1 d1 P_check_cutter (spChkX K C CI)) : FnOk P w K mg base (L2.CX P w) 2 f fd P_within (fun vs H _ E => ∃ (x : Addr) (v : V) (t : Value), vs = [.ref x, v] ∧ TyX K H v t ∧ PySem.W.kitOne K t (.ref C) = some false ∧ E (.ref CI) none H) := by
  refine D.F.okX sc_within (fun vs H Q E h => ?_) (fun cdv A outer s H vs Q E hr h => ?_)
  · obtain ⟨x, v, t, rfl, _⟩ := h
    rfl
  · obtain ⟨x, v, t, rfl, ht, hk, q⟩ := h
    have nd := sc_within.nd
    refine ⟨_, (pss_cons (ps_expr (pe_call D_check_cutter.ok (hr.mono (by decide)) (by rfl) D_check_cutter.g D_check_cutter.kp D_check_cutter.b .nil (passes_call (takes_of rfl rfl rfl rfl) (fun _ _ _ _ h => h)) (pa_cons (pv 1) pa_nil))) (pss_cons ps_never pss_nil)), ?_⟩
    exact ⟨_, rfl, v, t, rfl, ht, hk, q⟩

abbrev s_parting : Stmt := inClass (topS 25) 10
abbrev N_parting : List Str := ["self", "other", "many", "here", "there", "place"]
abbrev P_parting : List Str := ["self", "other"]
theorem sc_parting : FnScope N_parting P_parting (defScope s_parting) := ⟨rfl, rfl, rfl, by decide +kernel, rfl, by decide +kernel, by decide +kernel⟩

theorem okm_partingX (D : Dm K "parting" "Cutter.parting" s_parting P_parting f fd) {f1 : Addr} {d1 : FuncData} (D_check_cutter : Cl2 P w K mg base (L2.CX P w) "check_cutter" 1 f1 d1 P_check_cutter (spChkX K C CI)) : FnOk P w K mg base (L2.CX P w) 2 f fd P_parting (fun vs H _ E => ∃ (x : Addr) (v : V) (t : Value), vs = [.ref x, v] ∧ TyX K H v t ∧ PySem.W.kitOne K t (.ref C) = some false ∧ E (.ref CI) none H) := by
  refine D.F.okX sc_parting (fun vs H Q E h => ?_) (fun cdv A outer s H vs Q E hr h => ?_)
  · obtain ⟨x, v, t, rfl, _⟩ := h
    rfl
  · obtain ⟨x, v, t, rfl, ht, hk, q⟩ := h
    have nd := sc_parting.nd
    refine ⟨_, (pss_cons (ps_expr (pe_call D_check_cutter.ok (hr.mono (by decide)) (by rfl) D_check_cutter.g D_check_cutter.kp D_check_cutter.b .nil (passes_call (takes_of rfl rfl rfl rfl) (fun _ _ _ _ h => h)) (pa_cons (pv 1) pa_nil))) (pss_cons ps_never (pss_cons ps_never pss_nil))), ?_⟩
    exact ⟨_, rfl, v, t, rfl, ht, hk, q⟩

abbrev s_rshift : Stmt := inClass (topS 25) 8
abbrev N_rshift : List Str := ["self", "other", "parts"]
abbrev P_rshift : List Str := ["self", "other"]
theorem sc_rshift : FnScope N_rshift P_rshift (defScope s_rshift) := ⟨rfl, rfl, rfl, by decide +kernel, rfl, by decide +kernel, by decide +kernel⟩

theorem okm_rshiftX (D : Dm K "__rshift__" "Cutter.__rshift__" s_rshift P_rshift f fd) {f1 : Addr} {d1 : FuncData} (D_check_cutter : Cl2 P w K mg base (L2.CX P w) "check_cutter" 1 f1 d1 P_check_cutter (spChkX K C CI)) : FnOk P w K mg base (L2.CX P w) 2 f fd P_rshift (fun vs H _ E => ∃ (x : Addr) (v : V) (t : Value), vs = [.ref x, v] ∧ TyX K H v t ∧ PySem.W.kitOne K t (.ref C) = some false ∧ E (.ref CI) none H) := by
  refine D.F.okX sc_rshift (fun vs H Q E h => ?_) (fun cdv A outer s H vs Q E hr h => ?_)
  · obtain ⟨x, v, t, rfl, _⟩ := h
    rfl
  · obtain ⟨x, v, t, rfl, ht, hk, q⟩ := h
    have nd := sc_rshift.nd
    refine ⟨_, (pss_cons (ps_expr (pe_call D_check_cutter.ok (hr.mono (by decide)) (by rfl) D_check_cutter.g D_check_cutter.kp D_check_cutter.b .nil (passes_call (takes_of rfl rfl rfl rfl) (fun _ _ _ _ h => h)) (pa_cons (pv 1) pa_nil))) (pss_cons ps_never (pss_cons ps_never (pss_cons ps_never pss_nil)))), ?_⟩
    exact ⟨_, rfl, v, t, rfl, ht, hk, q⟩

end
end K05
set_option Elab.async false
set_option linter.all false
set_option maxRecDepth 100000
set_option maxHeartbeats 8000000
namespace K05
open PySem PySem.Spec PyProof.Rows L2 Ly Cut

abbrev s_ekept : Stmt := topS 4
abbrev N_ekept : List Str := ["value", "part", "key"]
abbrev P_ekept : List Str := ["value"]
theorem sc_ekept : FnScope N_ekept P_ekept (defScope s_ekept) := ⟨rfl, rfl, rfl, by decide +kernel, rfl, by decide +kernel, by decide +kernel⟩

abbrev s_ninit : Stmt := inClass (topS 8) 0
abbrev N_ninit : List Str := ["self", "value"]
abbrev P_ninit : List Str := ["self", "value"]
theorem sc_ninit : FnScope N_ninit P_ninit (defScope s_ninit) := ⟨rfl, rfl, rfl, by decide +kernel, rfl, by decide +kernel, by decide +kernel⟩

section
variable {P : Program} {w : World} {K : PySem.W.Frag} {mg : Str → Option Value} {base : Heap} {f C CI CO CN : Addr} {fd : FuncData}
/-- a flat datum -/
inductive Fl : PyData → V → Prop where
  | non : Fl .none .non
  | bl (b : Bool) : Fl (.bool b) (.bl b)
  | int (i : Int) (h : i.natAbs.log2 < 1920) : Fl (.int i) (.int i)
  | str (x : Str) (h : ∀ c ∈ x.cps.toList, c < 16 ^ 8) (l : x.cps.size ≤ 100) : Fl (.str x) (.str x)
theorem Fl.ty {H : Hp} {d : PyData} {v : V} (h : Fl d v) : ∃ t : String, TyX K H v (.type t) ∧ kitB t "list" = some false ∧ kitB t "tuple" = some false ∧ kitB t "dict" = some false := by
  cases h with
  | non => exact ⟨"NoneType", .base .non, by decide +kernel, by decide +kernel, by decide +kernel⟩
  | bl b => exact ⟨"bool", .base (.bl b), by decide +kernel, by decide +kernel, by decide +kernel⟩
  | int i => exact ⟨"int", .base (.int i), by decide +kernel, by decide +kernel, by decide +kernel⟩
  | str x => exact ⟨"str", .base (.str x), by decide +kernel, by decide +kernel, by decide +kernel⟩
theorem Fl.ok {d : PyData} {v : V} (h : Fl d v) : d.showable = true ∧ d.leavesShort 1921 = true ∧ d.hasDict = false := by
  cases h with
  | non => exact ⟨rfl, rfl, rfl⟩
  | bl b => exact ⟨rfl, rfl, rfl⟩
  | int i h => exact ⟨decide_eq_true h, decide_eq_true (int_text_len_1921 h), rfl⟩
  | str x h _ => exact ⟨rfl, List.all_eq_true.mpr fun c hc => decide_eq_true (h c hc), rfl⟩
theorem Fl.reads {hp : Heap} {d : PyData} {v : V} {u : Value} (h : Fl d v) (r : RelV v u) : Reads hp u d [] := by
  cases h with
  | non => cases r; exact .none
  | bl b => cases r; exact .bool b
  | int i _ => obtain ⟨t, rfl⟩ := r; exact .int i t
  | str x _ _ => obtain ⟨t, rfl⟩ := r; exact .str x t
theorem flAll {hp : Heap} : ∀ {ds : List PyData} {xs : List V} {us : List Value}, Paired Fl ds xs → Vals xs us → (PyData.showableAll ds = true ∧ PyData.leavesShortAll 1921 ds = true ∧ PyData.hasDictAll ds = false) ∧ ∃ as, ReadsAll hp us ds as
  | [], _, _, h, r => by
    cases h
    cases r
    exact ⟨⟨rfl, rfl, rfl⟩, _, .nil⟩
  | d :: ds, _, _, h, r => by
    cases h with
    | cons h1 h2 =>
      cases r with
      | cons q qs =>
        obtain ⟨⟨b1, b2, b3⟩, as, ra⟩ := flAll (hp := hp) h2 qs
        obtain ⟨a1, a2, a3⟩ := h1.ok
        exact ⟨⟨by simp only [PyData.showableAll, a1, b1, Bool.and_self], by simp only [PyData.leavesShortAll, a2, b2, Bool.and_self], by simp only [PyData.hasDictAll, a3, b3, Bool.or_self]⟩, _, .cons (h1.reads q) ra⟩
/-- a datum that is kept: flat, or a tuple, a list of flat ones, or a dict of at most one pair -/
def Wv (H : Hp) (d : PyData) (v : V) : Prop := Fl d v ∨ (∃ (a : Addr) (ds : List PyData) (xs : List V), d = .tuple ds ∧ v = .ref a ∧ H a = some (.tup xs) ∧ Paired Fl ds xs ∧ xs.length ≤ 4) ∨
  (∃ (a : Addr) (ds : List PyData) (xs : List V), d = .list ds ∧ v = .ref a ∧ H a = some (.lst xs) ∧ Paired Fl ds xs ∧ xs.length ≤ 4) ∨
  (∃ a : Addr, d = .dict [] ∧ v = .ref a ∧ H a = some (.dK [])) ∨
  (∃ (a : Addr) (x : Str) (i : Int), d = .dict [(.str x, .int i)] ∧ v = .ref a ∧ H a = some (.dK [(.inr x, .int i)]) ∧ (∀ c ∈ x.cps.toList, c < 16 ^ 8) ∧ x.cps.size ≤ 100 ∧ i.natAbs.log2 < 1920)
theorem Wv.same {H H' : Hp} {d : PyData} {v : V} (s : Same H H') (h : Wv H d v) : Wv H' d v := by
  rcases h with h | ⟨a, ds, xs, e1, e2, h, r⟩ | ⟨a, ds, xs, e1, e2, h, r⟩ | ⟨a, e1, e2, h⟩ | ⟨a, x, i, e1, e2, h, r⟩
  · exact .inl h
  · exact .inr (.inl ⟨a, ds, xs, e1, e2, s _ _ h, r⟩)
  · exact .inr (.inr (.inl ⟨a, ds, xs, e1, e2, s _ _ h, r⟩))
  · exact .inr (.inr (.inr (.inl ⟨a, e1, e2, s _ _ h⟩)))
  · exact .inr (.inr (.inr (.inr ⟨a, x, i, e1, e2, s _ _ h, r⟩)))
section
variable {X : Cx} {pins : List (Addr × Obj)} {σ : L2.St} {H : Hp} {s : Shared}
theorem Wv.reads (I : Inv X pins σ H s) {d : PyData} {v : V} {u : Value} (h : Wv H d v) (r : RelV v u) : (d.showable = true ∧ d.leavesShort 1921 = true) ∧ ∃ as, Reads s.heap u d as ∧ (d.hasDict = true → sysModules ∉ as) := by
  rcases h with h | ⟨a, ds, xs, rfl, rfl, ha, pr, _⟩ | ⟨a, ds, xs, rfl, rfl, ha, pr, _⟩ | ⟨a, rfl, rfl, ha⟩ | ⟨a, x, i, rfl, rfl, ha, hx, _, hi⟩
  · obtain ⟨a1, a2, a3⟩ := h.ok
    exact ⟨⟨a1, a2⟩, _, h.reads r, fun z => by rw [a3] at z; cases z⟩
  · cases r
    obtain ⟨_, its, rv, o, e, c, m, dd⟩ := (show ObjOk X.prog X.w H s.heap a (.tup xs) from I.hok a _ ha)
    obtain ⟨⟨a1, a2, a3⟩, as, ra⟩ := flAll (hp := s.heap) pr rv
    exact ⟨⟨a1, a2⟩, _, .tuple e c dd ra, fun z => by rw [show (PyData.tuple ds).hasDict = PyData.hasDictAll ds from rfl, a3] at z; cases z⟩
  · cases r
    obtain ⟨_, its, m, rv, e⟩ := (show ObjOk X.prog X.w H s.heap a (.lst xs) from I.hok a _ ha)
    obtain ⟨⟨a1, a2, a3⟩, as, ra⟩ := flAll (hp := s.heap) pr rv
    exact ⟨⟨a1, a2⟩, _, .list e rfl rfl ra, fun z => by rw [show (PyData.list ds).hasDict = PyData.hasDictAll ds from rfl, a3] at z; cases z⟩
  · cases r
    obtain ⟨_, ns, vs, kv, dk⟩ := (show ObjOk X.prog X.w H s.heap a (.dK []) from I.hok a _ ha)
    cases kv
    obtain ⟨o, es, ep, e, ex, dd, _, hes, _⟩ := dk
    have e0 : es.toList = [] := by
      generalize es.toList = l at hes
      cases hes
      rfl
    refine ⟨⟨rfl, rfl⟩, _, .dict (kvs := []) e ex.1 dd (by rw [e0]; exact .nil) (by rw [e0]; exact .nil), fun _ z => ?_⟩
    have z' : sysModules = a := by simpa using z
    rw [← z'] at ns
    exact absurd ns (by decide)
  · cases r
    obtain ⟨_, ns, vs, kv, dk⟩ := (show ObjOk X.prog X.w H s.heap a (.dK [(.inr x, .int i)]) from I.hok a _ ha)
    cases kv with
    | @cons p q _ qs hp hq =>
      cases hq
      obtain ⟨k, u⟩ := q
      obtain ⟨e1, t, e2⟩ := hp
      dsimp only at e1 e2
      subst e1 e2
      obtain ⟨o, es, ep, e, ex, dd, _, hes, _⟩ := dk
      generalize hl : es.toList = l at hes
      cases hes with
      | @cons en kv r kvs h1 h2 h3 =>
        cases h3
        obtain ⟨eh, ek, ev⟩ := en
        dsimp only at h1 h2
        obtain ⟨u2, rfl⟩ : ∃ u2, ek = Value.str x u2 := by
          rcases keyIs_shape (k := .inr x) (v := ek) h1 with ⟨j, t2, e1, _⟩ | ⟨y, t2, e1, e2⟩
          · cases e1
          · cases e1
            exact ⟨t2, e2⟩
        subst h2
        have d1 := decide_eq_true hi
        have d2 := decide_eq_true (int_text_len_1921 hi)
        have d3 : (x.cps.toList.all fun c => decide (c < 16 ^ 8)) = true := List.all_eq_true.mpr fun c hc => decide_eq_true (hx c hc)
        refine ⟨⟨?_, ?_⟩, _, .dict (kvs := [(.str x, .int i)]) e ex.1 dd (by rw [hl]; exact .cons (.str x u2) .nil) (by rw [hl]; exact .cons (.int i t) .nil), fun _ z => ?_⟩
        · show (true && decide (i.natAbs.log2 < 1920) && true) = true
          rw [d1]
          rfl
        · show ((x.cps.toList.all fun c => decide (c < 16 ^ 8)) && decide ((Str.ofString (toString i)).length ≤ 1921) && true) = true
          rw [d2, d3]
          rfl
        · have z' : sysModules = a := by simpa using z
          rw [← z'] at ns
          exact absurd ns (by decide)
theorem wvAll (I : Inv X pins σ H s) : ∀ {ds : List PyData} {xs : List V} {us : List Value}, Paired (Wv H) ds xs → Vals xs us → PyData.leavesShortAll 1921 ds = true ∧ (∃ as, ReadsAll s.heap us ds as) ∧
    ((∀ t ∈ PyData.shownAll ds, t.length ≤ sizeLine) → ∃ bs, ReadAtMost s.heap (PyData.depthAll ds) bs ∧ ReprAllK X.prog X.w bs s.heap (PyData.depthAll ds) us (PyData.shownAll ds))
  | [], _, _, h, r => by
    cases h
    cases r
    exact ⟨rfl, ⟨_, .nil⟩, fun _ => ⟨[], (fun _ z => nomatch z), .nil⟩⟩
  | d :: ds, _, _, h, r => by
    cases h with
    | cons h1 h2 =>
      cases r with
      | cons q qs =>
        obtain ⟨⟨a1, a2⟩, as, ra, na⟩ := h1.reads I q
        obtain ⟨l2, ⟨bs, rb⟩, k2⟩ := wvAll I h2 qs
        refine ⟨by simp only [PyData.leavesShortAll, a2, l2, Bool.and_self], ⟨_, .cons ra rb⟩, fun hz => ?_⟩
        obtain ⟨c1, m1, r1⟩ := ReprK.of_reads (prog := X.prog) (w := X.w) ra a1 na (hz _ List.mem_cons_self)
        obtain ⟨c2, m2, r2⟩ := k2 fun t ht => hz t (List.mem_cons_of_mem _ ht)
        exact ⟨c1 ++ c2, (m1.mono (Nat.le_max_left d.depth (PyData.depthAll ds))).append (m2.mono (Nat.le_max_right _ _)), .cons ((r1.more fun b hb => List.mem_append_left _ hb).level_le (Nat.le_max_left _ _)) (r2.more_le (fun b hb => List.mem_append_right _ hb) (Nat.le_max_right _ _))⟩
end
/-- repr of a list of such data -/
def rReprW : List V → Hp → VK → Prop := fun vs H Q => ∃ (p : Addr) (x : V) (xs : List V) (ds : List PyData), vs = [.ref p] ∧ H p = some (.lst (x :: xs)) ∧ Paired (Wv H) ds (x :: xs) ∧ (PyData.list ds).bulk ≤ 8000 ∧ PyData.depthAll ds ≤ 50 ∧ Q (.str (PyData.list ds).shown) H
theorem call_reprW {X : Cx} (hq : Quiet X.A) (hu : X.A.units + 64 < cLine) : CallR X (.builtin "repr") rReprW := by
  intro pins s σ H xs us Q I r h
  obtain ⟨p, y, ys, ds, rfl, hp, pr, hb, hdp, q⟩ := h
  obtain ⟨u, rfl, r1⟩ := vals1 r
  cases (show u = Value.ref p from r1)
  obtain ⟨_, its, m, rv, e⟩ := (show ObjOk X.prog X.w H s.heap p (.lst (y :: ys)) from I.hok p _ hp)
  obtain ⟨k2, ⟨as, ra⟩, kk⟩ := wvAll I pr rv
  have sz : (PyData.list ds).shown.length ≤ sizeLine := by
    have z := PyData.shown_le_bulk 1921 (by decide) (.list ds) k2
    have e : (1921 + 2) * (PyData.list ds).bulk ≤ 1923 * 8000 := Nat.mul_le_mul_left _ hb
    rw [sizeLine_eq]
    omega
  have sz' : (listText (PyData.shownAll ds)).length ≤ sizeLine := sz
  obtain ⟨bs, hbs, hk⟩ := kk fun t ht => Nat.le_trans (listText_mem_le ht) sz'
  have hna : p ∉ bs := not_mem_of_deeper (.list e rfl rfl ra) (by simp only [PyData.depth]; omega) hbs
  cases rv with
  | cons q1 qs =>
    refine call_repr_slot (by omega) ⟨_, e, rfl⟩ F.slot_list_repr.toG (call_list_reprK e rfl rfl hna (by simpa using hk.length_eq) (fun i y e => hk.item i y (by simpa using e)) (A := X.A.in1) hq (fun b _ => Clear.nil b) (by show X.A.units + 1 + _ < cLine; omega) (fun _ _ z => z) (fun h' u tk kp => ⟨_, _, rfl, .str (PyData.list ds).shown, H, I.kept kp, ⟨_, rfl⟩, q⟩) sz')
theorem Fl.small {d : PyData} {v : V} (h : Fl d v) : d.bulk ≤ 100 ∧ d.depth = 0 := by
  cases h with
  | non => exact ⟨Nat.zero_le _, rfl⟩
  | bl b => exact ⟨Nat.zero_le _, rfl⟩
  | int i _ => exact ⟨Nat.zero_le _, rfl⟩
  | str x _ hx => exact ⟨hx, rfl⟩
theorem flAll_small : ∀ {ds : List PyData} {xs : List V}, Paired Fl ds xs → PyData.bulkAll ds ≤ 101 * xs.length ∧ PyData.depthAll ds = 0
  | [], _, h => by
    cases h
    exact ⟨by decide, rfl⟩
  | d :: ds, _, h => by
    cases h with
    | cons h1 h2 =>
      obtain ⟨a1, a2⟩ := h1.small
      obtain ⟨b1, b2⟩ := flAll_small h2
      refine ⟨?_, ?_⟩
      · show d.bulk + 1 + PyData.bulkAll ds ≤ 101 * (_ + 1)
        omega
      · show max d.depth (PyData.depthAll ds) = 0
        rw [a2, b2]
        rfl
theorem Wv.small {H : Hp} {d : PyData} {v : V} (h : Wv H d v) : d.bulk ≤ 500 ∧ d.depth ≤ 2 := by
  rcases h with h | ⟨a, ds, xs, rfl, rfl, h, r, l⟩ | ⟨a, ds, xs, rfl, rfl, h, r, l⟩ | ⟨a, rfl, rfl, h⟩ | ⟨a, x, i, rfl, rfl, h, r, lx, li⟩
  · have := h.small
    omega
  · obtain ⟨b1, b2⟩ := flAll_small r
    exact ⟨by show PyData.bulkAll ds ≤ 500; omega, by show PyData.depthAll ds + 1 ≤ 2; omega⟩
  · obtain ⟨b1, b2⟩ := flAll_small r
    exact ⟨by show PyData.bulkAll ds ≤ 500; omega, by show PyData.depthAll ds + 1 ≤ 2; omega⟩
  · exact ⟨by decide, by decide⟩
  · exact ⟨by show x.cps.size + 0 + 2 + 0 ≤ 500; omega, Nat.le_of_ble_eq_true rfl⟩
def spKept0 : Sp := fun vs H Q _ => ∃ (d : PyData) (v : V), vs = [v] ∧ Fl d v ∧ Q v H
def spKept1 : Sp := fun vs H Q _ => ∃ (d : PyData) (v : V), vs = [v] ∧ Wv H d v ∧ ∀ H' v', Same H H' → Wv H' d v' → Q v' H'
theorem pr_get : ∀ {ds : List PyData} {xs : List V} {i : Nat} {x : V}, Paired Fl ds xs → xs[i]? = some x → ∃ d, Fl d x
  | [], _, i, x, h, e => by
    cases h
    cases e
  | d :: ds, _, i, x, h, e => by
    cases h with
    | cons h1 h2 =>
      cases i with
      | zero => cases e; exact ⟨d, h1⟩
      | succ i => exact pr_get h2 e
theorem valV_one {k : Key} {v : V} : some v = valV [(k, v)] k := by
  unfold valV
  simp
theorem putK_one {k : Key} {v : V} : putK [] k v = [(k, v)] := by
  unfold putK
  simp
theorem upd_twice {H : Hp} {a : Addr} {o u : HO} : upd (upd H a o) a u = upd H a u := by
  funext b
  by_cases e : b = a
  · rw [e, upd_same, upd_same]
  · rw [upd_ne e, upd_ne e, upd_ne e]
theorem lock_new {H : Hp} {a D : Addr} {u v : HO} (ha : H a = some u) (n : upd H a v D = none) : D ≠ a ∧ H D = none := by
  have e : D ≠ a := fun z => by
    rw [z, upd_same] at n
    cases n
  exact ⟨e, by rw [upd_ne e] at n; exact n⟩
theorem lock_same {H : Hp} {a D : Addr} {u v o : HO} (ha : H a = some u) (na : D ≠ a) (n : H D = none) : Same H (upd (upd (upd H a v) D o) a u) := fun b w e => by
  by_cases h : b = a
  · rw [h, upd_same]
    rw [h, ha] at e
    exact e
  · have hD : b ≠ D := fun z => by
      rw [z, n] at e
      cases e
    rw [upd_ne h, upd_ne hD, upd_ne h]
    exact e
theorem ok_kept0 (Z : Zs mg) (D : Df K mg "kept" s_ekept P_ekept f fd) : FnOk P w K mg base CX0 1 f fd P_ekept spKept0 := by
  refine D.F.ok sc_ekept (fun vs H Q E h => ?_) (fun cdv A outer s H vs Q E hr h => ?_)
  · obtain ⟨d, v, rfl, _⟩ := h
    rfl
  · obtain ⟨d, v, rfl, hv, q⟩ := h
    have nd := sc_ekept.nd
    refine ⟨_,
    (pss_cons
    (ps_if (pt_val (pe_callB call_isi (by rfl) Z.z_isinstance (by decide +kernel) (pa_cons (pv 0) (pa_cons (pe_bltn (v := .ty "list") (by rfl) Z.z_list (by decide +kernel) rfl) pa_nil))))
      (pss_one
      ps_never)
      pss_nil)
    (pss_cons
    (ps_if (pt_val (pe_callB call_isi (by rfl) Z.z_isinstance (by decide +kernel) (pa_cons (pv 0) (pa_cons (pe_bltn (v := .ty "tuple") (by rfl) Z.z_tuple (by decide +kernel) rfl) pa_nil))))
      (pss_one
      ps_never)
      pss_nil)
    (pss_cons
    (ps_if (pt_val (pe_callB call_isi (by rfl) Z.z_isinstance (by decide +kernel) (pa_cons (pv 0) (pa_cons (pe_bltn (v := .ty "dict") (by rfl) Z.z_dict (by decide +kernel) rfl) pa_nil))))
      (pss_one
      ps_never)
      pss_nil)
    (pss_one
    (ps_ret (pv 0)))))), ?_⟩
    obtain ⟨t, ht, k1, k2, k3⟩ := hv.ty (K := K) (H := H)
    refine ⟨_, rfl, v, .ty "list", _, _, false, rfl, .ty _, ht, kit_ty k1, false, rfl, ifF rfl ?_⟩
    dsimp only [tNext]
    refine ⟨_, rfl, v, .ty "tuple", _, _, false, rfl, .ty _, ht, kit_ty k2, false, rfl, ifF rfl ?_⟩
    dsimp only [tNext]
    refine ⟨_, rfl, v, .ty "dict", _, _, false, rfl, .ty _, ht, kit_ty k3, false, rfl, ifF rfl ?_⟩
    exact ⟨_, rfl, q⟩
theorem ok_kept1 (Z : Zs mg) (D : Df K mg "kept" s_ekept P_ekept f fd) {fp : Addr} {dp : FuncData} (D_kept : Cl P w K mg base "kept" 1 fp dp P_ekept spKept0) : FnOk P w K mg base CX0 2 f fd P_ekept spKept1 := by
  refine D.F.ok sc_ekept (fun vs H Q E h => ?_) (fun cdv A outer s H vs Q E hr h => ?_)
  · obtain ⟨d, v, rfl, _⟩ := h
    rfl
  · obtain ⟨d, v, rfl, hv, q⟩ := h
    have nd := sc_ekept.nd
    have hu : (A.deeper (envOfC "kept" (defScope s_ekept) s.heap.objs.size f cdv)).units + 1 < cLine := by
      have := hr.un
      omega
    refine ⟨_,
    (pss_cons
    (ps_if (pt_val (pe_callB call_isi (by rfl) Z.z_isinstance (by decide +kernel) (pa_cons (pv 0) (pa_cons (pe_bltn (v := .ty "list") (by rfl) Z.z_list (by decide +kernel) rfl) pa_nil))))
      (pss_one
      (ps_ret (pe_lc (own := [("part", 1)]) (g := gName 1) (tt := tYes) rfl nd (pi_list (pv 0)) (blkOk_by (N := N_ekept) (sc := defScope s_ekept) (by decide +kernel)) (fun _ _ _ _ _ => (pg_name (i := 1) nd rfl (Or.inl rfl))) (fun _ _ _ _ _ => pts_nil) (fun _ _ _ _ _ => (pe_call D_kept.ok (hr.mono (by decide)) (by rfl) D_kept.g D_kept.kp D_kept.b .nil pass0 (pa_cons (pv 1) pa_nil))))))
      pss_nil)
    (pss_cons
    (ps_if (pt_val (pe_callB call_isi (by rfl) Z.z_isinstance (by decide +kernel) (pa_cons (pv 0) (pa_cons (pe_bltn (v := .ty "tuple") (by rfl) Z.z_tuple (by decide +kernel) rfl) pa_nil))))
      (pss_one
      (ps_ret (pe_callTy call_tuple_of (by rfl) Z.z_tuple (by decide +kernel) (pa_cons (pe_lc (own := [("part", 1)]) (g := gName 1) (tt := tYes) rfl nd (pi_tup (pv 0)) (blkOk_by (N := N_ekept) (sc := defScope s_ekept) (by decide +kernel)) (fun _ _ _ _ _ => (pg_name (i := 1) nd rfl (Or.inl rfl))) (fun _ _ _ _ _ => pts_nil) (fun _ _ _ _ _ => (pe_call D_kept.ok (hr.mono (by decide)) (by rfl) D_kept.g D_kept.kp D_kept.b .nil pass0 (pa_cons (pv 1) pa_nil)))) pa_nil))))
      pss_nil)
    (pss_cons
    (ps_if (pt_val (pe_callB call_isi (by rfl) Z.z_isinstance (by decide +kernel) (pa_cons (pv 0) (pa_cons (pe_bltn (v := .ty "dict") (by rfl) Z.z_dict (by decide +kernel) rfl) pa_nil))))
      (pss_one
      (ps_ret (pe_lock (pe_dc (own := [("key", 2)]) (g := gName 2) (tt := tYes) rfl nd (pi_keys (pv 0)) (blkOk_by (N := N_ekept) (sc := defScope s_ekept) (by decide +kernel)) (fun _ _ _ _ _ => (pg_name (i := 2) nd rfl (Or.inl rfl))) (fun _ _ _ _ _ => pts_nil) (fun _ _ _ _ _ => (pv 2)) (fun _ _ _ _ _ => (pe_call D_kept.ok (hr.mono (by decide)) (by rfl) D_kept.g D_kept.kp D_kept.b .nil pass0 (pa_cons (pe_dget hu (pv 0) (pv 2) (fun _ _ => rfl)) pa_nil)))))))
      pss_nil)
    (pss_one
    (ps_ret (pv 0)))))), ?_⟩
    rcases hv with hv | ⟨a, ds, xs, rfl, rfl, ha, pr, hl⟩ | ⟨a, ds, xs, rfl, rfl, ha, pr, hl⟩ | ⟨a, rfl, rfl, ha⟩ | ⟨a, x, i, rfl, rfl, ha, hx, hxl, hi⟩
    · obtain ⟨t, ht, k1, k2, k3⟩ := hv.ty (K := K) (H := H)
      refine ⟨_, rfl, v, .ty "list", _, _, false, rfl, .ty _, ht, kit_ty k1, false, rfl, ifF rfl ?_⟩
      dsimp only [tNext]
      refine ⟨_, rfl, v, .ty "tuple", _, _, false, rfl, .ty _, ht, kit_ty k2, false, rfl, ifF rfl ?_⟩
      dsimp only [tNext]
      refine ⟨_, rfl, v, .ty "dict", _, _, false, rfl, .ty _, ht, kit_ty k3, false, rfl, ifF rfl ?_⟩
      exact ⟨_, rfl, q _ _ (Same.refl H) (.inl hv)⟩
    · refine ⟨_, rfl, .ref a, .ty "list", _, _, false, rfl, .ty _, .base (.tup ha), kit_ty (by decide +kernel), false, rfl, ifF rfl ?_⟩
      dsimp only [tNext]
      refine ⟨_, rfl, .ref a, .ty "tuple", _, _, true, rfl, .ty _, .base (.tup ha), kit_ty (by decide +kernel), true, rfl, ifT rfl ?_⟩
      refine ⟨_, rfl, a, rfl, ⟨_, .of ha⟩, fun D9 nD => ?_⟩
      refine lc_mapT xs (fun v => v) (.of ha) nD (sz1000 (by omega)) (fun i v H1 Q' N hv s1 k => ?_) (fun H1 s1 hd => ?_)
      · obtain ⟨d, hd⟩ := pr_get pr hv
        exact ⟨rfl, _, rfl, d, v, rfl, hd, k H1 (Same.refl H1)⟩
      · rw [List.map_id'] at hd
        exact ⟨D9, xs, rfl, .inl ⟨.of hd, fun t nt => q _ _ (s1.trans (same_new nt)) (.inr (.inl ⟨t, ds, xs, rfl, rfl, upd_same, pr, hl⟩))⟩⟩
    · refine ⟨_, rfl, .ref a, .ty "list", _, _, true, rfl, .ty _, .base (.lst ha), kit_ty (by decide +kernel), true, rfl, ifT rfl ?_⟩
      refine ⟨_, rfl, a, rfl, ⟨_, .of ha⟩, fun D9 nD => ?_⟩
      refine lc_mapL xs (fun v => some v) (.of ha) nD (sz1000 (by omega)) (fun i v H1 Q' N hv s1 k k0 => ?_) (fun H1 s1 hd => ?_)
      · obtain ⟨d, hd⟩ := pr_get pr hv
        exact ⟨rfl, _, rfl, d, v, rfl, hd, k v H1 rfl (Same.refl H1)⟩
      · rw [List.filterMap_some] at hd
        exact q _ _ s1 (.inr (.inr (.inl ⟨D9, ds, xs, rfl, rfl, hd, pr, hl⟩)))
    · refine ⟨_, rfl, .ref a, .ty "list", _, _, false, rfl, .ty _, .base (.dK ha), kit_ty (by decide +kernel), false, rfl, ifF rfl ?_⟩
      dsimp only [tNext]
      refine ⟨_, rfl, .ref a, .ty "tuple", _, _, false, rfl, .ty _, .base (.dK ha), kit_ty (by decide +kernel), false, rfl, ifF rfl ?_⟩
      dsimp only [tNext]
      refine ⟨_, rfl, .ref a, .ty "dict", _, _, true, rfl, .ty _, .base (.dK ha), kit_ty (by decide +kernel), true, rfl, ifT rfl ?_⟩
      refine ⟨a, _, ha, trivial, fun od => ⟨_, rfl, a, od, rfl, .inl ⟨[], upd_same, fun D9 nD => ?_⟩⟩⟩
      obtain ⟨na, n0⟩ := lock_new ha nD
      refine ⟨fun _ _ H' => H' = upd (upd H a (.frz od (.dK []))) D9 (.dK []), ⟨0, rfl⟩, fun i m H' e => .inl ⟨⟨?_, Nat.zero_le _⟩, ?_⟩⟩
      · rw [e, upd_ne na.symm]
        exact upd_same
      · rw [e]
        refine ⟨by rw [upd_ne na.symm]; exact upd_same, q _ _ (lock_same ha na n0) (.inr (.inr (.inr (.inl ⟨D9, rfl, rfl, ?_⟩))))⟩
        rw [upd_ne na]
        exact upd_same
    · refine ⟨_, rfl, .ref a, .ty "list", _, _, false, rfl, .ty _, .base (.dK ha), kit_ty (by decide +kernel), false, rfl, ifF rfl ?_⟩
      dsimp only [tNext]
      refine ⟨_, rfl, .ref a, .ty "tuple", _, _, false, rfl, .ty _, .base (.dK ha), kit_ty (by decide +kernel), false, rfl, ifF rfl ?_⟩
      dsimp only [tNext]
      refine ⟨_, rfl, .ref a, .ty "dict", _, _, true, rfl, .ty _, .base (.dK ha), kit_ty (by decide +kernel), true, rfl, ifT rfl ?_⟩
      refine ⟨a, _, ha, trivial, fun od => ⟨_, rfl, a, od, rfl, .inl ⟨[(.inr x, .int i)], upd_same, fun D9 nD => ?_⟩⟩⟩
      obtain ⟨na, n0⟩ := lock_new ha nD
      refine ⟨fun j m H' => (j = 0 ∧ m = 1 ∧ H' = upd (upd H a (.frz od (.dK [(.inr x, .int i)]))) D9 (.dK [])) ∨ (j = 1 ∧ H' = upd (upd (upd H a (.frz od (.dK [(.inr x, .int i)]))) D9 (.dK [])) D9 (.dK [(.inr x, .int i)])), ⟨1, .inl ⟨rfl, rfl, rfl⟩⟩, fun j m H' e => ?_⟩
      rcases e with ⟨rfl, rfl, rfl⟩ | ⟨rfl, rfl⟩
      · have hfr : upd (upd H a (.frz od (.dK [(.inr x, .int i)]))) D9 (.dK []) a = some (.frz od (.dK [(.inr x, .int i)])) := by
          rw [upd_ne na.symm]
          exact upd_same
        refine .inr ⟨⟨hfr, by show 0 < 1; decide⟩, fun H' => H' = upd (upd (upd H a (.frz od (.dK [(.inr x, .int i)]))) D9 (.dK [])) D9 (.dK [(.inr x, .int i)]), fun H' e => ⟨0, by decide, .inr ⟨rfl, e⟩⟩, fun y H' hy => ?_⟩
        obtain ⟨rfl, k, v, hk, rfl⟩ := hy
        cases hk
        refine ⟨rfl, _, rfl, _, rfl, _, rfl, a, .int i, rfl, .inl ⟨_, .inr x, .inr ⟨od, hfr⟩, rfl, valV_one⟩, .int i, _, rfl, .int i hi, [], .inr x, rfl, upd_same, by decide, ?_⟩
        exact congrArg (upd _ D9) (congrArg HO.dK (putK_one).symm) ▸ rfl
      · refine .inl ⟨⟨?_, Nat.le_refl _⟩, ?_⟩
        · rw [upd_ne na.symm, upd_ne na.symm]
          exact upd_same
        · refine ⟨by rw [upd_ne na.symm, upd_ne na.symm]; exact upd_same, q _ _ ?_ (.inr (.inr (.inr (.inr ⟨D9, x, i, rfl, rfl, ?_, hx, hxl, hi⟩))))⟩
          · rw [upd_twice]
            exact lock_same ha na n0
          · rw [upd_ne na]
            exact upd_same


/-- all but what stands at a stays -/
def But (a : Addr) (H H' : Hp) : Prop := ∀ b o, b ≠ a → H b = some o → H' b = some o
theorem Wv.but {H H' : Hp} {a : Addr} {e : Option Addr} {d : PyData} {v : V} (ha : H a = some (exo a C e)) (s : But a H H') (h : Wv H d v) : Wv H' d v := by
  rcases h with h | ⟨b, ds, xs, e1, e2, h, r⟩ | ⟨b, ds, xs, e1, e2, h, r⟩ | ⟨b, e1, e2, h⟩ | ⟨b, x, i, e1, e2, h, r⟩
  · exact .inl h
  · exact .inr (.inl ⟨b, ds, xs, e1, e2, s _ _ (at_ne ha h exo_tup) h, r⟩)
  · exact .inr (.inr (.inl ⟨b, ds, xs, e1, e2, s _ _ (at_ne ha h (fun z => by unfold exo at z; cases z)) h, r⟩))
  · exact .inr (.inr (.inr (.inl ⟨b, e1, e2, s _ _ (at_ne ha h (fun z => by unfold exo at z; cases z)) h⟩)))
  · exact .inr (.inr (.inr (.inr ⟨b, x, i, e1, e2, s _ _ (at_ne ha h (fun z => by unfold exo at z; cases z)) h, r⟩)))

theorem Wv.butd {H H' : Hp} {a : Addr} {fs : List (Str × V)} {d : PyData} {v : V} (ha : H a = some (exd a fs)) (s : But a H H') (h : Wv H d v) : Wv H' d v := by
  rcases h with h | ⟨b, ds, xs, e1, e2, h, r⟩ | ⟨b, ds, xs, e1, e2, h, r⟩ | ⟨b, e1, e2, h⟩ | ⟨b, x, i, e1, e2, h, r⟩
  · exact .inl h
  · exact .inr (.inl ⟨b, ds, xs, e1, e2, s _ _ (at_ne ha h exd_tup) h, r⟩)
  · exact .inr (.inr (.inl ⟨b, ds, xs, e1, e2, s _ _ (at_ne ha h (fun z => by unfold exd at z; cases z)) h, r⟩))
  · exact .inr (.inr (.inr (.inl ⟨b, e1, e2, s _ _ (at_ne ha h (fun z => by unfold exd at z; cases z)) h⟩)))
  · exact .inr (.inr (.inr (.inr ⟨b, x, i, e1, e2, s _ _ (at_ne ha h (fun z => by unfold exd at z; cases z)) h, r⟩)))


/-- the error with its one field, where its dict is new -/
def spNum (C : Addr) (fl : Str) : Sp := fun vs H Q _ => ∃ (a : Addr) (d : PyData) (v : V), vs = [.ref a, v] ∧ H a = some (exo a C none) ∧ Wv H d v ∧
  ∀ H' v' dx, But a H H' → dx ≠ a → H dx = none → H' a = some (exo a C (some dx)) → H' dx = some (exd dx [(fl, v')]) → Wv H' d v' → Q .non H'
theorem okm_ninit {B newId initId : String} {bm : List Value} (D : Dm K "__init__" "InvalidNumber.__init__" s_ninit P_ninit f fd) (T : OexX K C B newId initId bm) (hno : PySem.W.findIn K (.ref C) "value" = some none) {f1 : Addr} {d1 : FuncData} (D_kept : Cl P w K mg base "kept" 2 f1 d1 P_ekept spKept1) : FnOk P w K mg base CX0 3 f fd P_ninit (spNum C "value") := by
  refine D.F.ok sc_ninit (fun vs H Q E h => ?_) (fun cdv A outer s H vs Q E hr h => ?_)
  · obtain ⟨a, d, v, rfl, _⟩ := h
    rfl
  · obtain ⟨a, d, v, rfl, ha, hv, q⟩ := h
    have nd := sc_ninit.nd
    refine ⟨_, (pss_one (ps_ost1 T hno (pv 0) (pe_call D_kept.ok (hr.mono (by decide)) (by rfl) D_kept.g D_kept.kp D_kept.b .nil pass0 (pa_cons (pv 1) pa_nil)))), ?_⟩
    refine ⟨_, rfl, d, v, rfl, hv, fun H1 v' s1 hv' => ⟨_, rfl, a, rfl, s1 _ _ ha, fun dx n ne => ?_⟩⟩
    have k1 : But a H1 (upd (upd H1 dx (exd dx [("value", v')])) a (exo a C (some dx))) := fun b o h e => by
      rw [upd_ne h, upd_ne (ne_of_none e n)]
      exact e
    exact q _ v' dx (fun b o h e => k1 b o h (s1 _ _ e)) ne (s1.free n) upd_same (by rw [upd_ne ne]; exact upd_same) (hv'.but (s1 _ _ ha) k1)
/-- what a raise of such an error leaves -/
theorem num_heap {H1 H2 : Hp} {a dx : Addr} {fs : List (Str × V)} {d : PyData} {v : V} (hne : a ≠ dx) (na : H1 a = none) (b2 : But a (upd H1 a (exo a C none)) H2) (nd : H1 dx = none) (ha : H2 a = some (exo a C (some dx))) (hd : H2 dx = some (exd dx fs)) (hv : Wv H2 d v) :
    Same H1 (upd (del H2 a) dx (.xd fs)) ∧ Wv (upd (del H2 a) dx (.xd fs)) d v := by
  refine ⟨fun b o e => ?_, ?_⟩
  · have n1 := ne_of_none e na
    rw [upd_ne (ne_of_none e nd), del_ne n1]
    exact b2 b o n1 (by rw [upd_ne n1]; exact e)
  · have h1 : Wv (upd H2 dx (.xd fs)) d v := hv.butd hd fun b o h e => by rw [upd_ne h]; exact e
    have ha' : (upd H2 dx (.xd fs)) a = some (exo a C (some dx)) := by rw [upd_ne hne]; exact ha
    refine h1.but ha' fun b o h e => ?_
    by_cases hb : b = dx
    · rw [hb, upd_same] at e ⊢
      exact e
    · rw [upd_ne hb] at e ⊢
      rw [del_ne h]
      exact e
/-- a number of places that there cannot be -/
def spPlacesX (K : PySem.W.Frag) (CN : Addr) : Sp := fun vs H _ E => ∃ (x : Addr) (d : PyData) (v : V), vs = [.ref x, v] ∧ Wv H d v ∧ ((∃ (t : String) (b1 b2 : Bool), Ly.TyB K H v t ∧ kitB t "int" = some b1 ∧ (b1 = true → kitB t "bool" = some b2) ∧ (b1 && !b2) = false) ∨ ∃ i : Int, v = .int i ∧ ¬ (0 ≤ i ∧ i ≤ 1000)) ∧
  ∀ H' dd v', Same H H' → Wv H' d v' → H' dd = some (.xd [("value", v')]) → E (.ref CN) (some dd) H'

theorem okm_placesX (Z : Zs mg) (D : Dm K "places" "Cutter.places" s_places P_places f fd) {f1 fI : Addr} {d1 dI : FuncData} (D_is_whole : Cl P w K mg base "is_whole" 1 f1 d1 P_is_whole (spWhole K)) {B newId initId : String} {bm : List Value} (TN : OexX K CN B newId initId bm) (gN : mg "InvalidNumber" = some (.ref CN))
    (iN : PySem.W.findIn K (.ref CN) "__init__" = some (some (.ref fI))) (tN : PySem.W.typeIn K (.ref fI) = some (.type "function")) (F_num : Cm P w K mg base 3 fI dI P_ninit (spNum CN "value")) : FnOk P w K mg base (L2.CX P w) 5 f fd P_places (spPlacesX K CN) := by
  refine D.F.okX sc_places (fun vs H Q E h => ?_) (fun cdv A outer s H vs Q E hr h => ?_)
  · obtain ⟨x, d, v, rfl, _⟩ := h
    rfl
  · obtain ⟨x, d, v, rfl, hv, hodd, q⟩ := h
    have nd := sc_places.nd
    refine ⟨_, (pss_cons     (ps_if (PW.pt (pw_or (pt_not (pt_truth (pe_call D_is_whole.ok (hr.mono (by decide)) (by rfl) D_is_whole.g D_is_whole.kp D_is_whole.b .nil pass0 (pa_cons (pv 1) pa_nil)) (by intro _; rfl))) (pw_or1 (pt_not (pt_chain op_le op_le pe_int (pv 1) (pe_gI rfl Z.g_MAX_ROW))))))
      (pss_one
      (ps_raise rfl (takes_of rfl rfl rfl rfl) (pmk_any TN iN tN F_num.ok (hr.mono (by decide)) F_num.b .nil pass0 (by rfl) gN (pa_cons (pv 1) pa_nil))))
      pss_nil) (pss_cons ps_never (pss_cons ps_never (pss_cons ps_never (pss_cons ps_never pss_nil))))), ?_⟩
    have fin : ∀ (a : Addr), H a = none → spNum CN "value" [.ref a, v] (upd H a (exo a CN none)) (fun v H2 => v = .non ∧ ∃ (d : Addr) (fs : List (Str × V)), H2 a = some (exo a CN (some d)) ∧ H2 d = some (exd d fs) ∧ H d = none ∧ E (.ref CN) (some d) (upd (del H2 a) d (.xd fs))) (fun _ _ _ => False) := fun a na => by
      refine ⟨a, d, v, rfl, upd_same, hv.same (same_new na), fun H2 v' dx b2 hne nd2 h1 h2 h3 => ⟨rfl, dx, _, h1, h2, ?_, ?_⟩⟩
      · by_cases e : dx = a
        · rw [e, upd_same] at nd2
          cases nd2
        · rw [upd_ne e] at nd2
          exact nd2
      · have nd3 : H dx = none := by
          by_cases e : dx = a
          · rw [e, upd_same] at nd2
            cases nd2
          · rw [upd_ne e] at nd2
            exact nd2
        obtain ⟨k1, k2⟩ := num_heap (Ne.symm hne) na b2 nd3 h1 h2 h3
        exact q _ dx v' k1 k2 upd_same
    rcases hodd with ⟨t, b1, b2, ht, k1, k2, hb⟩ | ⟨i, rfl, hi⟩
    · refine ⟨_, rfl, v, t, b1, b2, rfl, ht, k1, k2, ⟨_, rfl, ?_⟩⟩
      rw [hb]
      exact ifT rfl ⟨_, rfl, by show 1 ≤ 1000; decide, fin⟩
    · refine ⟨_, rfl, .int i, "int", true, false, rfl, .base (.int i), by decide +kernel, fun _ => by decide +kernel, ⟨true, rfl, ifF rfl ?_⟩⟩
      refine ⟨_, rfl, _, _, rfl, rfl, _, rfl, ?_⟩
      by_cases h0 : (0 : Int) ≤ i
      · refine ifT (decide_eq_true h0) ⟨_, _, rfl, rfl, _, rfl, ifT (by rw [decide_eq_false fun z => hi ⟨h0, z⟩]; rfl) ⟨_, rfl, by show 1 ≤ 1000; decide, fin⟩⟩
      · first | exact ifF (decide_eq_false h0) (ifT rfl ⟨_, rfl, _, rfl, by show 1 ≤ 1000; decide, fin⟩) | exact ifF (decide_eq_false h0) ⟨_, rfl, ifT rfl ⟨_, rfl, by show 1 ≤ 1000; decide, fin⟩⟩

/-- a row that is none -/
def spCallX (K : PySem.W.Frag) (CO : Addr) : Sp := fun vs H _ E => ∃ (x : Addr) (v : V), vs = [.ref x, v] ∧ ((∃ t : Value, TyX K H v t ∧ PySem.W.kitOne K t (.type "tuple") = some false) ∨ ∃ (a : Addr) (xs : List V), v = .ref a ∧ H a = some (.tup xs) ∧ 1000 < xs.length) ∧ E (.ref CO) none H
theorem okm_callX (Z : Zs mg) (D : Dm K "__call__" "Cutter.__call__" s_callc P_callc f fd) (XO : XE0 K mg "InvalidOperation" CO) : FnOk P w K mg base (L2.CX P w) 5 f fd P_callc (spCallX K CO) := by
  refine D.F.okX sc_callc (fun vs H Q E h => ?_) (fun cdv A outer s H vs Q E hr h => ?_)
  · obtain ⟨x, v, rfl, _⟩ := h
    rfl
  · obtain ⟨x, v, rfl, hv, q⟩ := h
    have nd := sc_callc.nd
    refine ⟨_, (pss_cons     (ps_if (PW.pt (pw_or (pt_not (pt_val (pe_callB call_isi (by rfl) Z.z_isinstance (by decide +kernel) (pa_cons (pv 1) (pa_cons (pe_bltn (v := .ty "tuple") (by rfl) Z.z_tuple (by decide +kernel) rfl) pa_nil))))) (pw_or1 (pt_cmpR op_gt (pe_callB call_lenT (by rfl) Z.z_len (by decide +kernel) (pa_cons (pv 1) pa_nil)) (pe_gI rfl Z.g_MAX_ROW) (nomark _)))))
      (pss_one
      (ps_raise rfl (takes_of rfl rfl rfl rfl) (SkE.pmk_own1 F.excBase_ValueError XO.x XO.g XO.k (raises_own XO.b XO.t) rfl (pe_joined (.cons pe_str (.cons (pe_fmt (pe_gI rfl Z.g_MAX_ROW)) (.cons pe_str .nil)))))))
      pss_nil) (pss_cons ps_never pss_nil)), ?_⟩
    rcases hv with ⟨t, ht, hk⟩ | ⟨a, xs, rfl, ha, hl⟩
    · exact ⟨_, rfl, v, .ty "tuple", _, _, false, rfl, .ty _, ht, hk, false, rfl, ifT rfl ⟨_, rfl, by decide +kernel, .inr ⟨1000, rfl, by decide +kernel, _, rfl, by decide +kernel, _, rfl, by decide +kernel, q⟩⟩⟩
    · refine ⟨_, rfl, .ref a, .ty "tuple", _, _, true, rfl, .ty _, .base (.tup ha), kit_ty (by decide +kernel), true, rfl, ifF rfl ?_⟩
      exact ⟨_, rfl, a, xs, rfl, .of ha, _, _, rfl, rfl, _, rfl, ifT (decide_eq_true (by omega)) ⟨_, rfl, by decide +kernel, .inr ⟨1000, rfl, by decide +kernel, _, rfl, by decide +kernel, _, rfl, by decide +kernel, q⟩⟩⟩

end
end K05
set_option Elab.async false
set_option linter.all false
set_option maxRecDepth 100000
set_option maxHeartbeats 8000000
namespace K05
open PySem PySem.Spec PyProof.Rows L2 Ly Cut

abbrev s_dice : Stmt := topS 28
abbrev N_dice : List Str := ["_law_script", "_law_at", "_law_cell", "_law_great", "_law_mixed"]
abbrev P_dice : List Str := ["_law_script", "_law_at"]
theorem sc_dice : FnScope N_dice P_dice (defScope s_dice) := ⟨rfl, rfl, rfl, by decide +kernel, rfl, by decide +kernel, by decide +kernel⟩

abbrev s_roll : Stmt := topS 29
abbrev N_roll : List Str := ["_law_dice_here", "_law_total", "_law_found", "_law_one", "_law_two"]
abbrev P_roll : List Str := ["_law_dice_here", "_law_total"]
theorem sc_roll : FnScope N_roll P_roll (defScope s_roll) := ⟨rfl, rfl, rfl, by decide +kernel, rfl, by decide +kernel, by decide +kernel⟩

abbrev s_one_of : Stmt := topS 30
abbrev N_one_of : List Str := ["_law_dice_here", "_law_items"]
abbrev P_one_of : List Str := ["_law_dice_here", "_law_items"]
theorem sc_one_of : FnScope N_one_of P_one_of (defScope s_one_of) := ⟨rfl, rfl, rfl, by decide +kernel, rfl, by decide +kernel, by decide +kernel⟩

abbrev s_signs : Stmt := topS 31
abbrev N_signs : List Str := ["_law_dice_here", "_law_much", "_law_turn"]
abbrev P_signs : List Str := ["_law_dice_here", "_law_much"]
theorem sc_signs : FnScope N_signs P_signs (defScope s_signs) := ⟨rfl, rfl, rfl, by decide +kernel, rfl, by decide +kernel, by decide +kernel⟩

abbrev s_part : Stmt := topS 32
abbrev N_part : List Str := ["_law_dice_here", "_law_common"]
abbrev P_part : List Str := ["_law_dice_here"]
theorem sc_part : FnScope N_part P_part (defScope s_part) := ⟨rfl, rfl, rfl, by decide +kernel, rfl, by decide +kernel, by decide +kernel⟩

abbrev s_lparts : Stmt := topS 33
abbrev N_lparts : List Str := ["_law_dice_here", "_law_much", "_law_turn"]
abbrev P_lparts : List Str := ["_law_dice_here", "_law_much"]
theorem sc_lparts : FnScope N_lparts P_lparts (defScope s_lparts) := ⟨rfl, rfl, rfl, by decide +kernel, rfl, by decide +kernel, by decide +kernel⟩

section
variable {P : Program} {w : World} {K : PySem.W.Frag} {mg : Str → Option Value} {base : Heap} {f C : Addr} {fd : FuncData}
theorem ok_dice (Z : Zs mg) (D : Df K mg "_law_dice" s_dice P_dice f fd) : FnOk P w K mg base CX0 1 f fd P_dice (spDice K) := by
  refine D.F.ok sc_dice (fun vs H Q E h => ?_) (fun cdv A outer s H vs Q E hr h => ?_)
  · obtain ⟨a, ns, k, rfl, _⟩ := h
    rfl
  · obtain ⟨a, ns, k, rfl, hS, h63, hk, q⟩ := h
    have nd := sc_dice.nd
    refine ⟨_,
    (pss_cons
    (ps_set (i := 2) nd rfl (Or.inl rfl) (pe_ifExp (pt_cmpR op_lt (pv 1) (pe_callB call_lenL (by rfl) Z.z_len (by decide +kernel) (pa_cons (pv 0) pa_nil)) (nomark _)) (pe_ix ix_list (pv 0) (pv 1) (fun _ _ => rfl)) (pe_op op_add (pe_op op_mul pe_int (pv 1)) pe_int)))
    (pss_cons
    (ps_set (i := 3) nd rfl (Or.inl rfl) (pe_op op_mod (pe_callTy call_intI (by rfl) Z.z_int (by decide +kernel) (pa_cons (pe_callB call_abs (by rfl) Z.z_abs (by decide +kernel) (pa_cons (pv 2) pa_nil)) pa_nil)) (pe_op op_powW (pe_op op_powW pe_int pe_int) pe_int)))
    (pss_cons
    (ps_set (i := 4) nd rfl (Or.inl rfl) (pe_op op_add (pe_op op_add (pe_op op_add (pe_op op_mul (pe_op op_mod (pe_callTy call_intI (by rfl) Z.z_int (by decide +kernel) (pa_cons (pv 3) pa_nil)) pe_int) pe_int) (pe_op op_mul pe_int (pv 1))) (pe_op op_mul pe_int (pe_callTy call_intB (by rfl) Z.z_int (by decide +kernel) (pa_cons (pe_cmpR op_lt (pv 2) pe_int (nomark _)) pa_nil)))) pe_int))
    (pss_one
    (ps_ret (pe_lst (pa_cons (pe_callB (call_max2 rfl) (by rfl) Z.z_max (by decide +kernel) (pa_cons pe_int (pa_cons (pe_op op_sub (pv 3) (pe_op op_powW pe_int pe_int)) pa_nil))) (pa_cons (pe_op op_mod (pe_callTy call_intI (by rfl) Z.z_int (by decide +kernel) (pa_cons (pv 4) pa_nil)) pe_int) (pa_cons pe_int pa_nil))))))))), ?_⟩
    refine asgS (fun v H1 => H1 = H ∧ ∃ x : Int, v = .int x) (fun Q' q' => ?_) (fun v H' hv => ?_)
    · refine ⟨.int k, rfl, .ref a, rfl, a, _, rfl, hS, _, _, rfl, rfl, _, rfl, ite2 (fun e => ?_) (fun e => ?_)⟩
      · have e1 := of_decide_eq_true e
        rw [List.length_map] at e1
        have e2 : k < ns.length := by omega
        refine ⟨_, rfl, _, rfl, a, _, _, .int ns[k], rfl, rfl, hS, atI_nat ?_, q' _ _ ⟨rfl, _, rfl⟩⟩
        rw [List.getElem?_map, List.getElem?_eq_getElem e2]
        rfl
      · exact ⟨_, rfl, _, _, rfl, rfl, .inl ⟨by decide, by decide⟩, _, _, rfl, rfl, q' _ _ ⟨rfl, _, rfl⟩⟩
    · obtain ⟨rfl, x, rfl⟩ := hv
      have p60 : CPw 10 60 := ⟨by decide, by decide +kernel⟩
      have p600 : CPw ((10 : Int) ^ (60 : Int).toNat) 10 := ⟨by decide, by decide +kernel⟩
      have pos : (0 : Int) < ((10 : Int) ^ (60 : Int).toNat) ^ (10 : Int).toNat := by decide +kernel
      refine asgS (fun v H1 => H1 = H' ∧ ∃ gr : Int, v = .int gr ∧ 0 ≤ gr ∧ gr.natAbs < 2 ^ 2000) (fun Q' q' => ?_) (fun v H1 hv => ?_)
      · refine ⟨_, rfl, _, rfl, _, rfl, _, _, rfl, rfl, p60, _, _, rfl, rfl, p600, _, _, rfl, rfl, pos, q' _ _ ⟨rfl, _, rfl, great_ok _⟩⟩
      obtain ⟨rfl, gr, rfl, g0, gB⟩ := hv
      have cm : ∀ y : Int, CMul (y % 2147483399) 60013 := fun y => .inr ⟨by decide, by decide⟩
      refine ⟨_, rfl, _, rfl, _, _, rfl, rfl, by change (0 : Int) < _; decide, _, _, rfl, rfl, cm _, _, rfl, _, _, rfl, rfl, .inl ⟨by decide, by decide⟩, _, _, rfl, rfl, _, rfl, _, _, rfl, rfl, _, rfl, _, _, rfl, rfl, .inl ⟨by decide, by decide⟩, _, _, rfl, rfl, _, _, rfl, rfl, ?_⟩
      refine ⟨_, rfl, _, _, rfl, rfl, ⟨by decide, by decide +kernel⟩, _, _, rfl, rfl, _, _, rfl, _, rfl, _, rfl, _, _, rfl, rfl, by change (0 : Int) < _; decide, ?_⟩
      refine ⟨by show 3 ≤ sizeLine; decide, fun p hp => q _ p (same_new hp) hp ⟨_, _, _, upd_same, ?_⟩⟩
      refine ⟨?_, ?_, Int.emod_nonneg _ (by decide), Int.lt_trans (Int.emod_lt_of_pos _ (by decide)) (by decide), Int.le_refl _⟩
      · split <;> omega
      · refine less_ok g0 gB (by split <;> omega) ?_
        have t : (0 : Int) ≤ 10 ^ (18 : Int).toNat := by decide +kernel
        split <;> omega

theorem ok_roll (Z : Zs mg) (D : Df K mg "_law_roll" s_roll P_roll f fd) : FnOk P w K mg base CX0 1 f fd P_roll spRoll := by
  refine D.F.ok sc_roll (fun vs H Q E h => ?_) (fun cdv A outer s H vs Q E hr h => ?_)
  · obtain ⟨d, n, rfl, _⟩ := h
    rfl
  · obtain ⟨d, n, rfl, ⟨a, b, c, hd, B⟩, n0, n1, q⟩ := h
    have nd := sc_roll.nd
    refine ⟨_,
    (pss_cons
    (ps_if (pt_cmpR op_gt (pe_ix ix_list (pv 0) pe_int (fun _ _ => rfl)) pe_int (nomark _))
      (pss_cons
      (ps_set (i := 2) nd rfl (Or.inl rfl) (pe_op op_mod (pe_callTy call_intI (by rfl) Z.z_int (by decide +kernel) (pa_cons (pe_ix ix_list (pv 0) pe_int (fun _ _ => rfl)) pa_nil)) (pv 1)))
      (pss_cons
      (ps_asg (pe_op op_fdivW (pe_ix ix_list (pv 0) pe_int (fun _ _ => rfl)) (pv 1)) (pg_sub (pv 0) pe_int set_list))
      (pss_one
      (ps_ret (pv 2)))))
      pss_nil)
    (pss_cons
    (ps_asg (pe_op op_add (pe_ix ix_list (pv 0) pe_int (fun _ _ => rfl)) pe_int) (pg_sub (pv 0) pe_int set_list))
    (pss_cons
    (ps_set (i := 3) nd rfl (Or.inl rfl) (pe_op op_mod (pe_callTy call_intI (by rfl) Z.z_int (by decide +kernel) (pa_cons (pe_op op_add (pe_ix ix_list (pv 0) pe_int (fun _ _ => rfl)) (pe_op op_mul pe_int (pe_ix ix_list (pv 0) pe_int (fun _ _ => rfl)))) pa_nil)) pe_int))
    (pss_cons
    (ps_set (i := 4) nd rfl (Or.inl rfl) (pe_op op_add (pe_op op_mul (pe_op op_mod (pe_callTy call_intI (by rfl) Z.z_int (by decide +kernel) (pa_cons (pe_op op_mul (pv 3) (pv 3)) pa_nil)) pe_int) (pv 3)) (pe_op op_mul pe_int (pe_ix ix_list (pv 0) pe_int (fun _ _ => rfl)))))
    (pss_cons
    (ps_set (i := 4) nd rfl (Or.inl rfl) (pe_op op_mod (pe_callTy call_intI (by rfl) Z.z_int (by decide +kernel) (pa_cons (pv 4) pa_nil)) pe_int))
    (pss_one
    (ps_ret (pe_op op_mod (pe_callTy call_intI (by rfl) Z.z_int (by decide +kernel) (pa_cons (pe_op op_fdiv (pv 4) pe_int) pa_nil)) (pv 1))))))))), ?_⟩
    have nB : n.natAbs < 2 ^ 200 := by
      have e : (2 : Int) ^ 200 = ((2 ^ 200 : Nat) : Int) := by decide +kernel
      rw [e] at n1
      generalize (2 ^ 200 : Nat) = m at *
      omega
    refine ⟨_, rfl, d, _, 0, _, rfl, rfl, .of hd, rfl, a, 0, rfl, rfl, _, rfl, ite2 (fun e => ?_) (fun e => ?_)⟩
    · refine ⟨_, rfl, d, _, 0, _, rfl, rfl, .of hd, rfl, _, rfl, _, rfl, _, _, rfl, rfl, n0, ?_⟩
      refine ⟨_, rfl, d, _, 0, _, rfl, rfl, .of hd, rfl, _, rfl, _, _, rfl, rfl, wide_div n0 nB (by decide) (by decide), _, rfl, d, _, 0, 0, rfl, rfl, hd, rfl, ?_⟩
      refine ⟨_, rfl, q _ _ ((Chg.refl d H).upd) ⟨_, _, _, upd_same, ?_⟩ (Int.emod_nonneg _ (by omega)) (Int.emod_lt_of_pos _ n0)⟩
      have h1 : a / n ≤ a := Int.ediv_le_self _ B.a0
      have h2 : 0 ≤ a / n := Int.ediv_nonneg B.a0 (by omega)
      exact ⟨h2, less_ok B.a0 B.aB h2 h1, B.b0, B.b1, B.c0⟩
    · refine ⟨_, rfl, d, _, 2, _, rfl, rfl, .of hd, rfl, _, _, rfl, rfl, _, rfl, d, _, 2, 2, rfl, rfl, hd, rfl, ?_⟩
      have hd1 : (upd H d (.lst [.int a, .int b, .int (c + 1)])) d = some (.lst [.int a, .int b, .int (c + 1)]) := upd_same
      dsimp only
      refine asgS (fun v H' => H' = upd H d (.lst [.int a, .int b, .int (c + 1)]) ∧ ∃ x : Int, v = .int x ∧ 0 ≤ x ∧ x < 2305843009213693951) (fun Q' q' => ?_) (fun v H' hv => ?_)
      · refine ⟨_, rfl, d, _, 1, _, rfl, rfl, .of hd1, rfl, _, rfl, d, _, 2, _, rfl, rfl, .of hd1, rfl, _, _, rfl, rfl, .inl ⟨by decide, by decide⟩, _, _, rfl, rfl, _, rfl, _, _, rfl, rfl, by change (0 : Int) < _; decide, q' _ _ ⟨rfl, _, rfl, Int.emod_nonneg _ (by decide), Int.emod_lt_of_pos _ (by decide)⟩⟩
      obtain ⟨rfl, x, rfl, x0, x1⟩ := hv
      have y0 := Int.emod_nonneg (x * x) (show (2305843009213693921 : Int) ≠ 0 by decide)
      have y1 := Int.emod_lt_of_pos (x * x) (show (0 : Int) < 2305843009213693921 by decide)
      refine ⟨_, rfl, _, rfl, _, _, rfl, rfl, .inl ⟨by omega, by omega⟩, _, rfl, _, _, rfl, rfl, by change (0 : Int) < _; decide, _, rfl, _, _, rfl, rfl, .inl ⟨by omega, by omega⟩, _, rfl, d, _, 2, _, rfl, rfl, .of hd1, rfl, _, _, rfl, rfl, .inl ⟨by decide, by decide⟩, _, _, rfl, rfl, ?_⟩
      refine ⟨_, rfl, _, rfl, _, _, rfl, rfl, by change (0 : Int) < _; decide, ?_⟩
      refine ⟨_, rfl, _, _, rfl, rfl, ⟨by decide, by decide⟩, _, rfl, _, rfl, _, _, rfl, rfl, n0, ?_⟩
      refine q _ _ ((Chg.refl d H).upd) ⟨_, _, _, hd1, ?_⟩ (Int.emod_nonneg _ (by omega)) (Int.emod_lt_of_pos _ n0)
      have c1 := B.c0
      exact ⟨B.a0, B.aB, B.b0, B.b1, by omega⟩

theorem ok_oneL (Z : Zs mg) (D : Df K mg "_law_one_of" s_one_of P_one_of f fd) {fr : Addr} {fdr : FuncData} (D_roll : Cl P w K mg base "_law_roll" 1 fr fdr P_roll spRoll) : FnOk P w K mg base CX0 2 f fd P_one_of (spOneL K) := by
  refine D.F.ok sc_one_of (fun vs H Q E h => ?_) (fun cdv A outer s H vs Q E hr h => ?_)
  · obtain ⟨d, a, xs, rfl, _⟩ := h
    rfl
  · obtain ⟨d, a, xs, rfl, hD, ne, hS, h0, h1, q⟩ := h
    have nd := sc_one_of.nd
    refine ⟨_,
    (pss_one
    (ps_ret (pe_ix ix_list (pv 1) (pe_call D_roll.ok (hr.mono (by decide)) (by rfl) D_roll.g D_roll.kp D_roll.b .nil pass0 (pa_cons (pv 0) (pa_cons (pe_callB call_lenL (by rfl) Z.z_len (by decide +kernel) (pa_cons (pv 1) pa_nil)) pa_nil))) (fun _ _ => rfl)))), ?_⟩
    refine ⟨_, rfl, _, rfl, _, rfl, a, xs, rfl, hS, d, xs.length, rfl, hD, by omega, by omega, fun H' r c D' r0 r1 => ?_⟩
    have hr' : r.toNat < xs.length := by omega
    refine ⟨a, xs, r, xs[r.toNat], rfl, rfl, c.seq ne hS, ?_, q _ _ c D' (List.getElem_mem hr')⟩
    exact at_nat r0 (List.getElem?_eq_getElem hr')

theorem str_ext {a b : Str} (h : a.cps.toList = b.cps.toList) : a = b := by
  obtain ⟨a⟩ := a
  obtain ⟨b⟩ := b
  exact congrArg Str.mk (Array.toList_inj.mp h)
def spSigns : Sp := fun vs H Q _ => ∃ (d : Addr) (m : Nat), vs = [.ref d, .int m] ∧ Dice H d ∧ m ≤ 3 ∧ ∀ H' l, Chg d H H' → Dice H' d → l.length ≤ m → Q (.str (sT l)) H'
theorem ok_signs (Z : Zs mg) (D : Df K mg "_law_signs" s_signs P_signs f fd) {f1 f2 : Addr} {d1 d2 : FuncData} (D_roll : Cl P w K mg base "_law_roll" 1 f1 d1 P_roll spRoll) (D_oneL : Cl P w K mg base "_law_one_of" 2 f2 d2 P_one_of (spOneL K)) :
    FnOk P w K mg base CX0 3 f fd P_signs spSigns := by
  refine D.F.ok sc_signs (fun vs H Q E h => ?_) (fun cdv A outer s H vs Q E hr h => ?_)
  · obtain ⟨d, m, rfl, _⟩ := h
    rfl
  · obtain ⟨d, m, rfl, hD, hm, q⟩ := h
    have nd := sc_signs.nd
    refine ⟨_,
    (pss_one
    (ps_ret (pe_join pe_str (pe_lc (own := [("_law_turn", 2)]) (g := gName 2) (tt := tYes) rfl nd (pi_range1 (by rfl) Z.z_range (pa_cons (pe_call D_roll.ok (hr.mono (by decide)) (by rfl) D_roll.g D_roll.kp D_roll.b .nil pass0 (pa_cons (pv 0) (pa_cons (pe_op op_add (pv 1) pe_int) pa_nil))) pa_nil)) (blkOk_by (N := N_signs) (sc := defScope s_signs) (by decide +kernel)) (fun _ _ _ _ _ => (pg_name (i := 2) nd rfl (Or.inl rfl))) (fun _ _ _ _ _ => pts_nil) (fun _ _ _ _ _ => (pe_call D_oneL.ok (hr.mono (by decide)) (by rfl) D_oneL.g D_oneL.kp D_oneL.b .nil pass0 (pa_cons (pv 0) (pa_cons (pe_lst (pa_cons pe_str (pa_cons pe_str (pa_cons pe_str pa_nil)))) pa_nil)))))))), ?_⟩
    refine ⟨⟨_, rfl⟩, ?_⟩
    refine ⟨_, rfl, _, rfl, _, _, rfl, rfl, d, m + 1, rfl, hD, by omega, by omega, fun H1 r c1 D1 r0 r1 => ?_⟩
    refine ⟨r, rfl, by omega, by omega, fun D2 nD => ?_⟩
    have ne := dice_ne D1 nD
    refine lc_range (lo := 0) (n := r.toNat) (fun i H2 => Chg d H H2 ∧ Dice H2 d ∧ ∃ l : List Bool, H2 D2 = some (.lst ((l.map fun b => (⟨#[sgn b]⟩ : Str)).map V.str)) ∧ l.length = i)
      ⟨c1.new nD, D1.new nD, [], upd_same, rfl⟩ (fun i H2 hi hP => ?_) (fun H2 hP => ?_)
    · obtain ⟨c2, D2', l, hy, hl⟩ := hP
      refine ⟨rfl, _, rfl, by show 3 ≤ sizeLine; decide, fun p hp => ?_⟩
      have hpD : p ≠ D2 := fun e => by rw [e, hy] at hp; cases hp
      refine ⟨d, p, _, rfl, D2'.new hp, (dice_ne D2' hp).symm, .of upd_same, by decide, by decide, fun H3 x ch D3 mem => ?_⟩
      obtain ⟨b, rfl⟩ : ∃ b : Bool, x = .str ⟨#[sgn b]⟩ := by
        simp only [List.mem_cons, List.not_mem_nil, or_false] at mem
        rcases mem with h | h | h
        · exact ⟨true, h⟩
        · exact ⟨true, h⟩
        · exact ⟨false, h⟩
      have e3 : H3 D2 = some (.lst ((l.map fun b => (⟨#[sgn b]⟩ : Str)).map V.str)) := ch _ _ ne.symm (same_new hp _ _ hy)
      refine ⟨_, e3, by rw [List.length_map, List.length_map]; exact small1000 (by omega), ?_⟩
      refine ⟨fun x o nx e => ?_, ?_, l ++ [b], ?_, ?_⟩
      · rw [upd_ne (ne_of_none (c1 _ _ nx e) nD)]
        exact ((c2.trans (.of (same_new hp))).trans ch) _ _ nx e
      · obtain ⟨a, b, c', ed, B⟩ := D3
        exact ⟨a, b, c', by rw [upd_ne ne]; exact ed, B⟩
      · rw [upd_same, List.map_append, List.map_append]
        rfl
      · rw [List.length_append, hl]
        rfl
    · obtain ⟨c2, D2', l, hy, hl⟩ := hP
      have e0 : (Str.ofString "" : Str) = Str.empty := rfl
      have hsum : ((l.map fun b => (⟨#[sgn b]⟩ : Str)).map (·.length)).sum = l.length := by
        clear hy hl
        induction l with
        | nil => rfl
        | cons b r ih =>
          rw [List.map_cons, List.map_cons, List.sum_cons, ih, List.length_cons]
          show 1 + r.length = _
          omega
      have ej : Txt.join Str.empty (l.map fun b => (⟨#[sgn b]⟩ : Str)) = sT l := by
        refine str_ext ?_
        rw [txt_join]
        show _ = ((l.map sgn).toArray).toList
        rw [List.flatMap_map]
        clear hy hl hsum
        induction l with
        | nil => rfl
        | cons b r ih =>
          rw [List.flatMap_cons, ih]
          rfl
      refine ⟨Str.empty, D2, _, e0 ▸ rfl, rfl, .inl (.of hy), ?_, ?_⟩
      · rw [hsum, List.length_map]
        show l.length + l.length * 0 ≤ 16777216
        omega
      · rw [ej]
        exact q H2 l c2 D2' (by omega)

def spPart : Sp := fun vs H Q _ => ∃ d : Addr, vs = [.ref d] ∧ Dice H d ∧ ∀ H' p, Chg d H H' → Dice H' d → Ok p → Q (.str p.text) H'
theorem commons : ∀ x ∈ ([.str "all", .str "all", .str "..+", .str "..++", .str "+..", .str "+..+", .str "..+++", .str "..", .str "+..++", .str "..-+"] : List V), ∃ p : Part, Ok p ∧ x = .str p.text := by
  intro x hx
  simp only [List.mem_cons, List.not_mem_nil, or_false] at hx
  rcases hx with h | h | h | h | h | h | h | h | h | h <;> subst h
  · exact ⟨.all, trivial, rfl⟩
  · exact ⟨.all, trivial, rfl⟩
  · exact ⟨.pat [] [true], ⟨by decide, by decide⟩, by rw [show (Part.pat [] [true]).text = Str.ofString "..+" by decide +kernel]⟩
  · exact ⟨.pat [] [true, true], ⟨by decide, by decide⟩, by rw [show (Part.pat [] [true, true]).text = Str.ofString "..++" by decide +kernel]⟩
  · exact ⟨.pat [true] [], ⟨by decide, by decide⟩, by rw [show (Part.pat [true] []).text = Str.ofString "+.." by decide +kernel]⟩
  · exact ⟨.pat [true] [true], ⟨by decide, by decide⟩, by rw [show (Part.pat [true] [true]).text = Str.ofString "+..+" by decide +kernel]⟩
  · exact ⟨.pat [] [true, true, true], ⟨by decide, by decide⟩, by rw [show (Part.pat [] [true, true, true]).text = Str.ofString "..+++" by decide +kernel]⟩
  · exact ⟨.pat [] [], ⟨by decide, by decide⟩, by rw [show (Part.pat [] []).text = Str.ofString ".." by decide +kernel]⟩
  · exact ⟨.pat [true] [true, true], ⟨by decide, by decide⟩, by rw [show (Part.pat [true] [true, true]).text = Str.ofString "+..++" by decide +kernel]⟩
  · exact ⟨.pat [] [false, true], ⟨by decide, by decide⟩, by rw [show (Part.pat [] [false, true]).text = Str.ofString "..-+" by decide +kernel]⟩
theorem ok_part (Z : Zs mg) (D : Df K mg "_law_part" s_part P_part f fd) {f1 f2 f3 : Addr} {d1 d2 d3 : FuncData} (D_roll : Cl P w K mg base "_law_roll" 1 f1 d1 P_roll spRoll) (D_oneL : Cl P w K mg base "_law_one_of" 2 f2 d2 P_one_of (spOneL K))
    (D_signs : Cl P w K mg base "_law_signs" 3 f3 d3 P_signs spSigns) : FnOk P w K mg base CX0 4 f fd P_part spPart := by
  refine D.F.ok sc_part (fun vs H Q E h => ?_) (fun cdv A outer s H vs Q E hr h => ?_)
  · obtain ⟨d, rfl, _⟩ := h
    rfl
  · obtain ⟨d, rfl, hD, q⟩ := h
    have nd := sc_part.nd
    refine ⟨_,
    (pss_cons
    (ps_set (i := 1) nd rfl (Or.inl rfl) (pe_lst (pa_cons pe_str (pa_cons pe_str (pa_cons pe_str (pa_cons pe_str (pa_cons pe_str (pa_cons pe_str (pa_cons pe_str (pa_cons pe_str (pa_cons pe_str (pa_cons pe_str pa_nil))))))))))))
    (pss_cons
    (ps_if (pt_cmpR op_gt (pe_call D_roll.ok (hr.mono (by decide)) (by rfl) D_roll.g D_roll.kp D_roll.b .nil pass0 (pa_cons (pv 0) (pa_cons pe_int pa_nil))) pe_int (nomark _))
      (pss_one
      (ps_ret (pe_call D_oneL.ok (hr.mono (by decide)) (by rfl) D_oneL.g D_oneL.kp D_oneL.b .nil pass0 (pa_cons (pv 0) (pa_cons (pv 1) pa_nil)))))
      pss_nil)
    (pss_one
    (ps_ret (pe_op op_add_str (pe_op op_add_str (pe_call D_signs.ok (hr.mono (by decide)) (by rfl) D_signs.g D_signs.kp D_signs.b .nil pass0 (pa_cons (pv 0) (pa_cons pe_int pa_nil))) pe_str) (pe_call D_signs.ok (hr.mono (by decide)) (by rfl) D_signs.g D_signs.kp D_signs.b .nil pass0 (pa_cons (pv 0) (pa_cons pe_int pa_nil)))))))), ?_⟩
    refine ⟨by show 10 ≤ sizeLine; decide, fun p hp => ?_⟩
    have s1 := same_new (o := .lst ([.str "all", .str "all", .str "..+", .str "..++", .str "+..", .str "+..+", .str "..+++", .str "..", .str "+..++", .str "..-+"] : List V)) hp
    have hpl : (upd H p (.lst ([.str "all", .str "all", .str "..+", .str "..++", .str "+..", .str "+..+", .str "..+++", .str "..", .str "+..++", .str "..-+"] : List V))) p = some _ := upd_same
    have D1 := hD.keep s1
    have npd : p ≠ d := (dice_ne hD hp).symm
    refine ⟨_, rfl, d, 3, rfl, D1, by decide, by decide, fun H2 r c2 D2 r0 r1 => ?_⟩
    refine ⟨_, _, rfl, rfl, _, rfl, ?_⟩
    by_cases h : (0 : Int) < r
    · refine ifT (decide_eq_true h) ⟨_, rfl, _, rfl, d, p, _, rfl, D2, npd, .of (c2 _ _ npd hpl), by decide, by decide, fun H3 x c3 D3 mem => ?_⟩
      obtain ⟨pt, hpt, rfl⟩ := commons x mem
      exact q H3 pt (((Chg.of s1).trans c2).trans c3) D3 hpt
    · refine ifF (decide_eq_false h) ?_
      dsimp only [tNext]
      refine ⟨_, rfl, d, 2, rfl, D2, by decide, fun H3 l1 c3 D3 hl1 => ?_⟩
      have e2 : (Str.ofString "..").length = 2 := by decide +kernel
      refine ⟨sT l1, _, rfl, rfl, by rw [sT_len, e2]; exact sz1000 (by omega), _, rfl, d, 3, rfl, D3, by decide, fun H4 l2 c4 D4 hl2 => ?_⟩
      refine ⟨_, sT l2, rfl, rfl, ?_, q H4 (.pat l1 l2) ((((Chg.of s1).trans c2).trans c3).trans c4) D4 ⟨hl1, hl2⟩⟩
      rw [← str_len, app_cps, List.length_append, str_len, str_len, sT_len, sT_len, e2]
      exact sz1000 (by omega)

def spLParts : Sp := fun vs H Q _ => ∃ (d : Addr) (m : Nat), vs = [.ref d, .int m] ∧ Dice H d ∧ 1 ≤ m ∧ m ≤ 4 ∧ ∀ H' a ps, Chg d H H' → Dice H' d → H a = none → H' a = some (.lst (pV ps)) → (∀ p ∈ ps, Ok p) → ps.length ≤ m → Q (.ref a) H'
theorem ok_lparts (Z : Zs mg) (D : Df K mg "_law_parts" s_lparts P_lparts f fd) {f2 f3 : Addr} {d2 d3 : FuncData} (D_oneL : Cl P w K mg base "_law_one_of" 2 f2 d2 P_one_of (spOneL K))
    (D_part : Cl P w K mg base "_law_part" 4 f3 d3 P_part spPart) : FnOk P w K mg base CX0 5 f fd P_lparts spLParts := by
  refine D.F.ok sc_lparts (fun vs H Q E h => ?_) (fun cdv A outer s H vs Q E hr h => ?_)
  · obtain ⟨d, m, rfl, _⟩ := h
    rfl
  · obtain ⟨d, m, rfl, hD, hm1, hm, q⟩ := h
    have nd := sc_lparts.nd
    refine ⟨_,
    (pss_one
    (ps_ret (pe_lc (own := [("_law_turn", 2)]) (g := gName 2) (tt := tYes) rfl nd (pi_range1 (by rfl) Z.z_range (pa_cons (pe_call D_oneL.ok (hr.mono (by decide)) (by rfl) D_oneL.g D_oneL.kp D_oneL.b .nil pass0 (pa_cons (pv 0) (pa_cons (pe_lst (pa_cons pe_int (pa_cons pe_int (pa_cons pe_int (pa_cons pe_int (pa_cons (pe_callB (call_min2 rfl) (by rfl) Z.z_min (by decide +kernel) (pa_cons pe_int (pa_cons (pv 1) pa_nil))) (pa_cons (pv 1) pa_nil))))))) pa_nil))) pa_nil)) (blkOk_by (N := N_lparts) (sc := defScope s_lparts) (by decide +kernel)) (fun _ _ _ _ _ => (pg_name (i := 2) nd rfl (Or.inl rfl))) (fun _ _ _ _ _ => pts_nil) (fun _ _ _ _ _ => (pe_call D_part.ok (hr.mono (by decide)) (by rfl) D_part.g D_part.kp D_part.b .nil pass0 (pa_cons (pv 0) pa_nil)))))), ?_⟩
    refine ⟨_, rfl, _, rfl, _, _, rfl, _, rfl, by show 6 ≤ sizeLine; decide, fun p hp => ?_⟩
    have s1 := fun o => same_new (o := o) hp
    have npd : p ≠ d := (dice_ne hD hp).symm
    refine ⟨d, p, _, rfl, hD.keep (s1 _), npd, .of upd_same, by show 0 < 6; decide, by show 6 < 1000; decide, fun H1 x c1 D1 mem => ?_⟩
    obtain ⟨k, hk, rfl⟩ : ∃ k : Nat, k ≤ m ∧ x = .int k := by
      simp only [List.mem_cons, List.not_mem_nil, or_false] at mem
      rcases mem with h | h | h | h | h | h
      · exact ⟨0, by omega, h⟩
      · exact ⟨1, hm1, h⟩
      · exact ⟨1, hm1, h⟩
      · exact ⟨1, hm1, h⟩
      · refine ⟨min 2 m, by omega, h.trans (congrArg V.int ?_)⟩
        split <;> omega
      · exact ⟨m, by omega, h⟩
    have c1' : Chg d H H1 := (Chg.of (s1 _)).trans c1
    refine ⟨k, rfl, by omega, by omega, fun D2 nD => ?_⟩
    have ne := dice_ne D1 nD
    refine lc_range (lo := 0) (n := (k : Int).toNat) (fun i H2 => Chg d H H2 ∧ Dice H2 d ∧ ∃ ps : List Part, H2 D2 = some (.lst (pV ps)) ∧ ps.length = i ∧ ∀ p ∈ ps, Ok p)
      ⟨c1'.new nD, D1.new nD, [], upd_same, rfl, fun _ h => by cases h⟩ (fun i H2 hi hP => ?_) (fun H2 hP => ?_)
    · obtain ⟨c2, D2', ps, hy, hl, hok⟩ := hP
      refine ⟨rfl, _, rfl, d, rfl, D2', fun H3 pt ch D3 hpt => ?_⟩
      have e3 : H3 D2 = some (.lst (pV ps)) := ch _ _ ne.symm hy
      refine ⟨_, e3, by rw [pV_len]; exact small1000 (by omega), ?_⟩
      refine ⟨fun x o nx e => ?_, ?_, ps ++ [pt], ?_, ?_, ?_⟩
      · rw [upd_ne (ne_of_none (c1' _ _ nx e) nD)]
        exact (c2.trans ch) _ _ nx e
      · obtain ⟨a, b, c', ed, B⟩ := D3
        exact ⟨a, b, c', by rw [upd_ne ne]; exact ed, B⟩
      · rw [upd_same]
        unfold pV
        rw [List.map_append]
        rfl
      · rw [List.length_append, hl]
        rfl
      · intro y hy'
        rcases List.mem_append.mp hy' with hy' | hy'
        · exact hok y hy'
        · rw [List.mem_singleton.mp hy']
          exact hpt
    · obtain ⟨c2, D2', ps, hy, hl, hok⟩ := hP
      have nH : H D2 = none := by
        cases e : H D2 with
        | none => rfl
        | some o => exact absurd (c1' _ _ ne.symm e) (by rw [nD]; exact fun z => nomatch z)
      exact q H2 D2 ps c2 D2' nH hy hok (by omega)

end
end K05
set_option Elab.async false
set_option linter.all false
set_option maxRecDepth 100000
set_option maxHeartbeats 8000000
namespace K05
open PySem PySem.Spec PyProof.Rows L2 Ly Cut

abbrev s_met : Stmt := topS 35
abbrev N_met : List Str := ["_law_call", "e"]
abbrev P_met : List Str := ["_law_call"]
theorem sc_met : FnScope N_met P_met (defScope s_met) := ⟨rfl, rfl, rfl, by decide +kernel, rfl, by decide +kernel, by decide +kernel⟩

section
variable {X : Cx}
/-- repr of a datum -/
def rReprV : List V → Hp → VK → Prop := fun vs H Q => ∃ (x : V) (d : PyData), vs = [x] ∧ Wv H d x ∧ Q (.str d.shown) H
theorem call_reprV (hq : Quiet X.A) (hu : X.A.units + 64 < cLine) : CallR X (.builtin "repr") rReprV := by
  intro pins s σ H xs us Q I r h
  obtain ⟨x, d, rfl, hd, q⟩ := h
  obtain ⟨u, rfl, r1⟩ := vals1 r
  obtain ⟨⟨k1, k2⟩, as, ra, na⟩ := hd.reads I r1
  obtain ⟨hb, hdp⟩ := hd.small
  have sz : d.shown.length ≤ sizeLine := by
    have z := PyData.shown_le_bulk 1921 (by decide) d k2
    have e : (1921 + 2) * d.bulk ≤ 1923 * 8000 := Nat.mul_le_mul_left _ (Nat.le_trans hb (by decide))
    rw [sizeLine_eq]
    omega
  have goal : ∀ a, u = .ref a → wpAny (model X.prog X.w) X.A (call (.builtin "repr") [u]) (EP X pins σ Q) X.xe s := by
    rintro a rfl
    exact repr_of_reads' ra k1 na hq (by omega) (fun _ _ e => e) (fun h' t tk hk => ⟨.str d.shown, H, I.kept hk, ⟨_, rfl⟩, q⟩) sz
  rcases hd with h | ⟨a, ds, xs, rfl, rfl, _⟩ | ⟨a, ds, xs, rfl, rfl, _⟩ | ⟨a, rfl, rfl, _⟩ | ⟨a, y, i, rfl, rfl, _⟩
  · cases h with
    | non =>
      cases r1
      exact PySem.P.repr_of_none ⟨.str _, H, I.tok _, ⟨_, rfl⟩, q⟩
    | bl b =>
      cases r1
      exact PySem.P.repr_of_bool ⟨.str _, H, I.tok _, ⟨_, rfl⟩, q⟩
    | int i hi =>
      obtain ⟨t, rfl⟩ := r1
      exact PySem.P.repr_of_int hi ⟨.str _, H, I.tok _, ⟨_, rfl⟩, q⟩
    | str y _ _ =>
      obtain ⟨t, rfl⟩ := r1
      exact PySem.P.repr_of_str ⟨.str _, H, I.tok _, ⟨_, rfl⟩, q⟩ sz
  · exact goal a r1
  · exact goal a r1
  · exact goal a r1
  · exact goal a r1
theorem flShort : ∀ {ds : List PyData} {xs : List V}, Paired Fl ds xs → PyData.leavesShortAll 1921 ds = true
  | [], _, _ => rfl
  | d :: ds, _, h => by
    cases h with
    | cons h1 h2 => simp only [PyData.leavesShortAll, h1.ok.2.1, flShort h2, Bool.and_self]
theorem Wv.short {H : Hp} {d : PyData} {v : V} (h : Wv H d v) : d.shown.length ≤ 964000 := by
  have hb := h.small.1
  have k : d.leavesShort 1921 = true := by
    rcases h with h | ⟨a, ds, xs, rfl, rfl, _, r, _⟩ | ⟨a, ds, xs, rfl, rfl, _, r, _⟩ | ⟨a, rfl, rfl, _⟩ | ⟨a, y, i, rfl, rfl, _, hy, _, hi⟩
    · exact h.ok.2.1
    · exact flShort r
    · exact flShort r
    · rfl
    · have e1 := (Fl.str y hy (by assumption)).ok.2.1
      have e2 := (Fl.int i hi).ok.2.1
      simp only [PyData.leavesShort, PyData.leavesShortKv, Bool.and_true, Bool.and_eq_true] at e1 e2 ⊢
      exact ⟨e1, e2⟩
  have z := PyData.shown_le_bulk 1921 (by decide) d k
  have e : (1921 + 2) * d.bulk ≤ 1923 * 500 := Nat.mul_le_mul_left _ hb
  omega
theorem numShort {H : Hp} {d : PyData} {v : V} (h : Wv H d v) : ("number " : Str).length + d.shown.length ≤ sizeLine := by
  have z := h.short
  have e : ("number " : Str).length = 7 := by decide +kernel
  rw [sizeLine_eq, e]
  omega
theorem takes_len {W : WX} (t : Takes X W) : Takes X (fun k e σ H => σ.length = X.N.length → W k e σ H) := fun u s' ⟨a, B, sI, pins, σ, H, cls, d, e, I, nb, up, sky, na, os, ag, w⟩ => t u s' ⟨a, B, sI, pins, σ, H, cls, d, e, I, nb, up, sky, na, os, ag, w I.len⟩
theorem pss_given {C : Prop} {b : List Stmt} {t : TS} (h : C → PSs X b t) : PSs X b (fun D σ H => C ∧ t D σ H) := ⟨fun pins s σ H D I ⟨c, q⟩ => (h c).run pins s σ H D I q⟩
end
/-- what the written part must say of the errors that are told -/
structure Mt (K : PySem.W.Frag) (mg : Str → Option Value) (CC CO CN CM CL : Addr) : Prop where
  gC : mg "InvalidCutter" = some (.ref CC)
  gO : mg "InvalidOperation" = some (.ref CO)
  gN : mg "InvalidNumber" = some (.ref CN)
  gM : mg "TooMany" = some (.ref CM)
  gL : mg "LetterError" = some (.ref CL)
  gV : mg "ValueError" = none
  gi : mg "isinstance" = none
  gr : mg "repr" = none
  xC : ExcC K CC
  xO : ExcC K CO
  xN : XfC K CN
  hN : PySem.W.findIn K (.ref CN) "value" = some none
  cc : PySem.W.exmOne K (.ref CC) (.ref CC) = some true
  oc : PySem.W.exmOne K (.ref CO) (.ref CC) = some false
  oo : PySem.W.exmOne K (.ref CO) (.ref CO) = some true
  nc : PySem.W.exmOne K (.ref CN) (.ref CC) = some false
  no : PySem.W.exmOne K (.ref CN) (.ref CO) = some false
  nn : PySem.W.exmOne K (.ref CN) (.ref CN) = some true
  kL : PySem.W.kitOne K (.ref CC) (.ref CL) = some true
  kO : PySem.W.kitOne K (.ref CC) (.ref CO) = some false
  kV : PySem.W.kitOne K (.ref CO) (.type "ValueError") = some true
/-- which error ends it, with what it keeps -/
def EMet (CC CO CN : Addr) (Q : VK) : XK := fun k e H => (k = .ref CC ∧ e = none ∧ Q (.str "cutter") H) ∨ (k = .ref CO ∧ e = none ∧ Q (.str "operation") H) ∨
  (k = .ref CN ∧ ∃ (dd : Addr) (d : PyData) (v : V), e = some dd ∧ H dd = some (.xd [("value", v)]) ∧ Wv H d v ∧ Q (.str ("number " ++ d.shown)) H)
def TMet (CC CO CN : Addr) : (XK → Hp → VK → Prop) → Hp → VK → Prop := fun tl H Q => tl (EMet CC CO CN Q) H (fun _ H' => Q (.str "fine") H')
section
variable {X : Cx}
theorem met_gives {g : Addr} {cdg : Value} {q : Str} {CC CO CN CM CL : Addr} (M : Mt X.K X.mg CC CO CN CM CL) (hq : Quiet X.A) (hr : Room 2 X.A) :
    LamX.GivesTo X N_met "_law_met" (defScope s_met) g cdg (defBody s_met) "_law_call" q (TMet CC CO CN) := by
  intro f c' s H Q tl act hc h
  have hu : X.A.units + 128 < cLine := by
    have := hr.un
    omega
  refine ⟨_, pss_cons (ps_try_asM (Wout := fun _ _ _ _ => False) rfl rfl (show N_met.Nodup by decide +kernel) LamX.takes0 (fun W pn xe tk _ => (?B : PSs _ _ ((fun W D σ H => ∃ Ech : XK, (∀ cls d (σ' : L2.St) H', σ'.length = 2 → Ech cls d H' → W cls d σ' H') ∧ σ[0]? = some (some (.ref f)) ∧ H c' = some (LamX.CodeO c' q) ∧ tl Ech H (fun _ H' => D.nx σ H')) W)))
    (.cons (i := 1) rfl rfl ⟨rfl, rfl, .inl M.gC⟩ (fun a oe k e pn hz hf => pss_given (C := k = .ref CC ∧ e = none) fun hc => pss_one (ps_ret (pe_ifExp (PW.pt (pw_and (pt_val (pe_callB (call_isE M.xC (by rw [← hc.1, ← hc.2]; exact hz) hf) (by rfl) M.gi (by decide +kernel) (pa_cons (pv 1) (pa_cons (pe_glob (v := .ref CL) rfl M.gL rfl) pa_nil)))) (pw_and1 (pt_not (pt_val (pe_callB (call_isE M.xC (by rw [← hc.1, ← hc.2]; exact hz) hf) (by rfl) M.gi (by decide +kernel) (pa_cons (pv 1) (pa_cons (pe_glob (v := .ref CO) rfl M.gO rfl) pa_nil)))))))) pe_str pe_str)))
    (.cons (i := 1) rfl rfl ⟨rfl, rfl, .inl M.gO⟩ (fun a oe k e pn hz hf => pss_given (C := k = .ref CO ∧ e = none) fun hc => pss_one (ps_ret (pe_ifExp (pt_val (pe_callB (call_isE M.xO (by rw [← hc.1, ← hc.2]; exact hz) hf) (by rfl) M.gi (by decide +kernel) (pa_cons (pv 1) (pa_cons (pe_bltn (v := .ty "ValueError") (by rfl) M.gV (by decide +kernel) rfl) pa_nil)))) pe_str pe_str)))
    (.cons (i := 1) rfl rfl ⟨rfl, rfl, .inl M.gN⟩ (fun a oe k e pn hz hf => pss_one (ps_ret (pe_op op_add_str pe_str (pe_callB (call_reprV hq (by show X.A.units + _ + 64 < cLine; omega)) (by rfl) M.gr (by decide +kernel) (pa_cons (pe_xf M.xN M.hN hz hf (pv 1)) pa_nil)))))
    (.cons (i := 1) rfl rfl ⟨rfl, rfl, .inl M.gM⟩ (fun a oe k e pn hz hf => pss_one ps_never) .nil))))) (pss_one (ps_ret pe_str)), ?G⟩
  case B =>
    refine ⟨fun pins s' σ H' D I h' => ?_⟩
    obtain ⟨Ech, hW, h1, h2, h3⟩ := h'
    exact (pss_one (ps_expr (act _ pn xe Ech _ _ (takes_len tk) fun cls d σ' H' he hl => hW cls d σ' H' hl he))).run pins s' σ H' D I ⟨h1, h2, h3⟩
  case G =>
    refine ⟨EMet CC CO CN Q, fun k e σ' H' hl he => ?_, rfl, hc, h⟩
    have h1 : ∀ v : V, (σ'.set 1 (some v))[1]? = some (some v) := fun v => by rw [List.getElem?_set_self (by omega)]
    rcases he with ⟨rfl, rfl, q⟩ | ⟨rfl, rfl, q⟩ | ⟨rfl, dd, d, v, rfl, hd, hv, q⟩
    · refine ⟨true, M.cc, fun _ a na => ⟨⟨rfl, rfl⟩, ?_⟩, (fun z => nomatch z)⟩
      refine ⟨_, h1 _, .ref CL, _, true, rfl, fun u r => (show u = _ from r), M.kL, true, rfl, ?_⟩
      refine ⟨_, h1 _, .ref CO, _, false, rfl, fun u r => (show u = _ from r), M.kO, false, rfl, ?_⟩
      exact q
    · refine ⟨false, M.oc, (fun z => nomatch z), fun _ => ⟨true, M.oo, fun _ a na => ⟨⟨rfl, rfl⟩, ?_⟩, (fun z => nomatch z)⟩⟩
      refine ⟨_, h1 _, .ty "ValueError", _, true, rfl, fun u r => (show u = _ from r), M.kV, true, rfl, ?_⟩
      exact q
    · refine ⟨false, M.nc, (fun z => nomatch z), fun _ => ⟨false, M.no, (fun z => nomatch z), fun _ => ⟨true, M.nn, fun _ a na => ?_, (fun z => nomatch z)⟩⟩⟩
      refine ⟨_, h1 _, rfl, rfl, dd, _, v, rfl, hd, rfl, ?_⟩
      exact ⟨v, d, rfl, hv, _, _, rfl, rfl, numShort hv, q⟩
end
end K05
set_option Elab.async false
set_option linter.all false
set_option maxRecDepth 100000
set_option maxHeartbeats 8000000
namespace K05
open PySem PySem.Spec PyProof.Rows L2 Ly Cut

abbrev s_nopart : Stmt := topS 36
abbrev N_nopart : List Str := ["_law_dice_here", "_law_odd"]
abbrev P_nopart : List Str := ["_law_dice_here"]
theorem sc_nopart : FnScope N_nopart P_nopart (defScope s_nopart) := ⟨rfl, rfl, rfl, by decide +kernel, rfl, by decide +kernel, by decide +kernel⟩

def odds1 : List Str := ["", "+", "-", "+++..", "..++++", "+..+..", "...", "....", ".", "a..", "..a", "ALL", "All", " all", "all "]
def odds2 : List Str := ["+ ..", "all..", "..all", "+.. ", "+..\n", "+-", "..+ +", "0..", "+..+.", "+.+", "all,all"]
theorem odds_ok : ((odds1 ++ odds2 ++ [("+.. > ..+" : Str)]).all fun z => K05.Odd z) = true := by decide +kernel
section
variable {P : Program} {w : World} {K : PySem.W.Frag} {mg : Str → Option Value} {base : Heap} {f C : Addr} {fd : FuncData}
/-- a value that is no part of a cutter, and stays none -/
def Bad (C d : Addr) (H : Hp) (v : V) : Prop := (∃ z : Str, v = .str z ∧ K05.Odd z = true) ∨ v = .non ∨ (∃ b, v = .bl b) ∨ (∃ i, v = .int i) ∨
  ∃ a, v = .ref a ∧ a ≠ d ∧ ((∃ xs, H a = some (.tup xs)) ∨ (∃ xs, H a = some (.lst xs)) ∨ (∃ kvs, H a = some (.dK kvs)) ∨ ∃ ps, CutAt C H a ps)
theorem Bad.chg {C d : Addr} {H H' : Hp} {v : V} {xs : List V} (c : Chg d H H') (hd : H d = some (.lst xs)) (h : Bad C d H v) : Bad C d H' v := by
  rcases h with h | h | h | h | ⟨a, e, n, h⟩
  · exact .inl h
  · exact .inr (.inl h)
  · exact .inr (.inr (.inl h))
  · exact .inr (.inr (.inr (.inl h)))
  · refine .inr (.inr (.inr (.inr ⟨a, e, n, ?_⟩)))
    rcases h with ⟨ys, h⟩ | ⟨ys, h⟩ | ⟨ys, h⟩ | ⟨ps, h⟩
    · exact .inl ⟨ys, c _ _ n h⟩
    · exact .inr (.inl ⟨ys, c _ _ n h⟩)
    · exact .inr (.inr (.inl ⟨ys, c _ _ n h⟩))
    · exact .inr (.inr (.inr ⟨ps, h.chg c hd⟩))
theorem Bad.same {C d : Addr} {H H' : Hp} {v : V} (c : Same H H') (h : Bad C d H v) : Bad C d H' v := by
  rcases h with h | h | h | h | ⟨a, e, n, h⟩
  · exact .inl h
  · exact .inr (.inl h)
  · exact .inr (.inr (.inl h))
  · exact .inr (.inr (.inr (.inl h)))
  · refine .inr (.inr (.inr (.inr ⟨a, e, n, ?_⟩)))
    rcases h with ⟨ys, h⟩ | ⟨ys, h⟩ | ⟨ys, h⟩ | ⟨ps, h⟩
    · exact .inl ⟨ys, c _ _ h⟩
    · exact .inr (.inl ⟨ys, c _ _ h⟩)
    · exact .inr (.inr (.inl ⟨ys, c _ _ h⟩))
    · exact .inr (.inr (.inr ⟨ps, h.same c⟩))
theorem Bad.is {K : PySem.W.Frag} {C d : Addr} {H : Hp} {v : V} (ck : CK K C) (hs : PySem.W.kitOne K (.ref C) (.type "str") = some false) (h : Bad C d H v) : IsIt K H v false := by
  refine .inr ⟨rfl, ?_⟩
  rcases h with h | rfl | ⟨b, rfl⟩ | ⟨i, rfl⟩ | ⟨a, rfl, n, h⟩
  · exact .inl h
  · exact .inr ⟨_, .base .non, kit_ty (by decide +kernel)⟩
  · exact .inr ⟨_, .base (.bl b), kit_ty (by decide +kernel)⟩
  · exact .inr ⟨_, .base (.int i), kit_ty (by decide +kernel)⟩
  · rcases h with ⟨ys, h⟩ | ⟨ys, h⟩ | ⟨ys, h⟩ | ⟨ps, h⟩
    · exact .inr ⟨_, .base (.tup h), kit_ty (by decide +kernel)⟩
    · exact .inr ⟨_, .base (.lst h), kit_ty (by decide +kernel)⟩
    · exact .inr ⟨_, .base (.dK h), kit_ty (by decide +kernel)⟩
    · obtain ⟨dx, _, _, _, hx, _⟩ := h.ex
      exact .inr ⟨_, ck.ty hx, hs⟩
def spNoPart (C : Addr) : Sp := fun vs H Q _ => ∃ d : Addr, vs = [.ref d] ∧ Dice H d ∧ ∀ H' v, Chg d H H' → Dice H' d → Bad C d H' v → Q v H'
theorem ok_nopart (Z : Zs mg) (D : Df K mg "_law_no_part" s_nopart P_nopart f fd) (hC : mg "Cutter" = some (.ref C)) {fi : Addr} (MC : Mk K C fi) (FI : FnR P w K mg base CX0 5 fi (spInit C)) {f2 : Addr} {d2 : FuncData} (D_oneL : Cl P w K mg base "_law_one_of" 2 f2 d2 P_one_of (spOneL K)) :
    FnOk P w K mg base CX0 7 f fd P_nopart (spNoPart C) := by
  refine D.F.ok sc_nopart (fun vs H Q E h => ?_) (fun cdv A outer s H vs Q E hr h => ?_)
  · obtain ⟨d, rfl, _⟩ := h
    rfl
  · obtain ⟨d, rfl, hD, q⟩ := h
    have nd := sc_nopart.nd
    refine ⟨_,
    (pss_cons
    (ps_set (i := 1) nd rfl (Or.inl rfl) (pe_lst (pa_cons pe_str (pa_cons pe_str (pa_cons pe_str (pa_cons pe_str (pa_cons pe_str (pa_cons pe_str (pa_cons pe_str (pa_cons pe_str (pa_cons pe_str (pa_cons pe_str (pa_cons pe_str (pa_cons pe_str (pa_cons pe_str (pa_cons pe_str (pa_cons pe_str pa_nil)))))))))))))))))
    (pss_cons
    (ps_set (i := 1) nd rfl (Or.inl rfl) (pe_op op_cat (pv 1) (pe_lst (pa_cons pe_str (pa_cons pe_str (pa_cons pe_str (pa_cons pe_str (pa_cons pe_str (pa_cons pe_str (pa_cons pe_str (pa_cons pe_str (pa_cons pe_str (pa_cons pe_str (pa_cons pe_str pa_nil))))))))))))))
    (pss_cons
    (ps_expr (pe_bm PySem.F.plainAttrs_list PySem.F.slot_list_append PySem.F.type_list_append mt_append (pv 1) (pa_cons pe_str pa_nil)))
    (pss_cons
    (ps_set (i := 1) nd rfl (Or.inl rfl) (pe_op op_cat (pv 1) (pe_lst (pa_cons pe_non (pa_cons pe_int (pa_cons pe_bl (pa_cons pe_int (pa_cons (pe_tup pa_nil) (pa_cons (pe_tup (pa_cons pe_str pa_nil)) (pa_cons (pe_lst (pa_cons pe_str pa_nil)) (pa_cons pe_dnewK (pa_cons (pe_disp (pps_cons pe_str pe_int pps_nil) (by rfl) (by rfl) (fun z => by cases z) (by decide)) (pa_cons (StX.pe_makeR MC FI (hr.mono (by decide)) rfl hC pass0 (pa_cons pe_str pa_nil)) (pa_cons (pe_tup (pa_cons pe_str (pa_cons pe_str pa_nil))) pa_nil))))))))))))))
    (pss_one
    (ps_ret (pe_call D_oneL.ok (hr.mono (by decide)) (by rfl) D_oneL.g D_oneL.kp D_oneL.b .nil pass0 (pa_cons (pv 0) (pa_cons (pv 1) pa_nil))))))))), ?_⟩
    refine asgS (fun v H' => ∃ p, v = .ref p ∧ Same H H' ∧ H p = none ∧ H' p = some (.lst (odds1.map V.str))) (fun Q' k => ⟨by show 15 ≤ sizeLine; decide, fun p1 n1 => k _ _ ⟨p1, rfl, same_new n1, n1, upd_same⟩⟩) (fun v H1 hP => ?_)
    obtain ⟨p1, rfl, s1, n1, g1⟩ := hP
    refine asgS (fun v H' => ∃ p, v = .ref p ∧ Same H H' ∧ H p = none ∧ H' p = some (.lst ((odds1 ++ odds2).map V.str))) (fun Q' k => ?_) (fun v H2 hP => ?_)
    · exact ⟨_, rfl, by show 11 ≤ sizeLine; decide, fun e1 m1 => ⟨p1, e1, _, _, rfl, rfl, same_new m1 _ _ g1, upd_same, by show 26 ≤ sizeLine; decide, fun p2 n2 => k _ _ ⟨p2, rfl, s1.trans ((same_new m1).trans (same_new n2)), (s1.trans (same_new m1)).free n2, upd_same⟩⟩⟩
    obtain ⟨p2, rfl, s2, n2, g2⟩ := hP
    refine ⟨_, rfl, .inl ⟨rfl, _, .of g2⟩, p2, _, _, rfl, rfl, g2, by show 26 < sizeLine; decide, ?_⟩
    have s3 := same_set (o := .lst ((odds1 ++ odds2).map V.str ++ [V.str "+.. > ..+"])) s2 n2
    have g3 : (upd H2 p2 (.lst ((odds1 ++ odds2).map V.str ++ [V.str "+.. > ..+"]))) p2 = some (HO.lst ((odds1 ++ odds2).map V.str ++ [V.str "+.. > ..+"])) := upd_same
    generalize upd H2 p2 (.lst ((odds1 ++ odds2).map V.str ++ [V.str "+.. > ..+"])) = H3 at s3 g3
    dsimp only
    have Dd := hD.keep s3
    refine asgS (fun v H' => ∃ p xs, v = .ref p ∧ Same H H' ∧ H p = none ∧ H' p = some (.lst xs) ∧ (∀ y ∈ xs, Bad C d H' y) ∧ xs.length = 38) (fun Q' k => ?_) (fun v H4 hP => ?_)
    · refine ⟨_, rfl, by decide, fun t0 m0 => ?_⟩
      have a1 := same_new (o := .tup []) m0
      have b0 : (upd H3 t0 (.tup [])) t0 = some (HO.tup []) := upd_same
      have u0 := dice_ne Dd m0
      generalize upd H3 t0 (.tup []) = G1 at a1 b0 ⊢
      refine ⟨by decide, fun t1 m1 => ?_⟩
      have a2 := same_new (o := .tup [V.str "all"]) m1
      have b1 : (upd G1 t1 (.tup [V.str "all"])) t1 = some (HO.tup [V.str "all"]) := upd_same
      have u1 := dice_ne (Dd.keep a1) m1
      generalize upd G1 t1 (.tup [V.str "all"]) = G2 at a2 b1 ⊢
      have c2 := a1.trans a2
      refine ⟨by decide, fun t2 m2 => ?_⟩
      have a3 := same_new (o := .lst [V.str "all"]) m2
      have b2 : (upd G2 t2 (.lst [V.str "all"])) t2 = some (HO.lst [V.str "all"]) := upd_same
      have u2 := dice_ne (Dd.keep c2) m2
      generalize upd G2 t2 (.lst [V.str "all"]) = G3 at a3 b2 ⊢
      have c3 := c2.trans a3
      intro t3 m3
      have a4 := same_new (o := .dK []) m3
      have b3 : (upd G3 t3 (.dK [])) t3 = some (HO.dK []) := upd_same
      have u3 := dice_ne (Dd.keep c3) m3
      generalize upd G3 t3 (.dK []) = G4 at a4 b3 ⊢
      have c4 := c3.trans a4
      intro t4 m4
      refine ⟨upd_same, [(.inr "all", .int 1)], rfl, by decide, ?_⟩
      have a5 : Same G4 (upd (upd G4 t4 (.dK [])) t4 (.dK (mergeK [] [(.inr "all", .int 1)]))) := same_set (same_new m4) m4
      have b4 : (upd (upd G4 t4 (.dK [])) t4 (.dK (mergeK [] [(.inr "all", .int 1)]))) t4 = some (HO.dK (mergeK [] [(.inr "all", .int 1)])) := upd_same
      have u4 := dice_ne (Dd.keep c4) m4
      generalize upd (upd G4 t4 (.dK [])) t4 (.dK (mergeK [] [(.inr "all", .int 1)])) = G5 at a5 b4 ⊢
      have c5 := c4.trans a5
      intro x dx nx ndx hne
      have u5 := dice_ne (Dd.keep c5) nx
      refine ⟨x, dx, [Part.all], rfl, upd_same, fun p hp => by cases List.mem_singleton.mp hp; exact True.intro, by decide, fun G6 ch cx => ⟨rfl, ?_⟩⟩
      have a6 : Same G5 G6 := fun b o e => by
        refine ch b o (ne_of_none e nx) ?_
        rw [upd_ne (ne_of_none e nx), upd_ne (ne_of_none e ndx)]
        exact e
      have c6 := c5.trans a6
      refine ⟨by decide, fun t6 m6 => ?_⟩
      have a7 := same_new (o := .tup [V.str "+", V.str "+"]) m6
      have b6 : (upd G6 t6 (.tup [V.str "+", V.str "+"])) t6 = some (HO.tup [V.str "+", V.str "+"]) := upd_same
      have u6 := dice_ne (Dd.keep c6) m6
      generalize upd G6 t6 (.tup [V.str "+", V.str "+"]) = G7 at a7 b6 ⊢
      have c7 := c6.trans a7
      refine ⟨by show 11 ≤ sizeLine; decide, fun e2 m7 => ⟨p2, e2, _, _, rfl, rfl, same_new m7 _ _ (c7 _ _ g3), upd_same, by show 38 ≤ sizeLine; decide, fun p3 n3 => k _ _ ⟨p3, _, rfl, ?_, ?_, upd_same, ?_, rfl⟩⟩⟩
      · exact s3.trans (c7.trans ((same_new m7).trans (same_new n3)))
      · exact (s3.trans (c7.trans (same_new m7))).free n3
      · have fin := (same_new (o := .lst [V.non, V.int 0, V.bl true, V.int 1, .ref t0, .ref t1, .ref t2, .ref t3, .ref t4, .ref x, .ref t6]) m7).trans (same_new (o := .lst ((odds1 ++ odds2).map V.str ++ [V.str "+.. > ..+"] ++ [V.non, V.int 0, V.bl true, V.int 1, .ref t0, .ref t1, .ref t2, .ref t3, .ref t4, .ref x, .ref t6])) n3)
        refine fun y hy => Bad.same fin ?_
        rcases List.mem_append.mp hy with hy | hy
        · obtain ⟨z, hz, rfl⟩ : ∃ z ∈ (odds1 ++ odds2 ++ [("+.. > ..+" : Str)]), y = V.str z := by
            rcases List.mem_append.mp hy with hy | hy
            · obtain ⟨z, hz, rfl⟩ := List.mem_map.mp hy
              exact ⟨z, List.mem_append_left _ hz, rfl⟩
            · exact ⟨_, List.mem_append_right _ List.mem_cons_self, List.mem_singleton.mp hy⟩
          exact .inl ⟨z, rfl, List.all_eq_true.mp odds_ok z hz⟩
        · have w (a : Addr) (n : d ≠ a) (h : (∃ xs, G7 a = some (.tup xs)) ∨ (∃ xs, G7 a = some (.lst xs)) ∨ (∃ kvs, G7 a = some (.dK kvs)) ∨ ∃ ps, CutAt C G7 a ps) : Bad C d G7 (.ref a) := .inr (.inr (.inr (.inr ⟨a, rfl, n.symm, h⟩)))
          simp only [List.mem_cons, List.not_mem_nil, or_false] at hy
          rcases hy with rfl | rfl | rfl | rfl | rfl | rfl | rfl | rfl | rfl | rfl | rfl
          · exact .inr (.inl rfl)
          · exact .inr (.inr (.inr (.inl ⟨_, rfl⟩)))
          · exact .inr (.inr (.inl ⟨_, rfl⟩))
          · exact .inr (.inr (.inr (.inl ⟨_, rfl⟩)))
          · exact w _ u0 (.inl ⟨_, (a2.trans (a3.trans (a4.trans (a5.trans (a6.trans a7))))) _ _ b0⟩)
          · exact w _ u1 (.inl ⟨_, (a3.trans (a4.trans (a5.trans (a6.trans a7)))) _ _ b1⟩)
          · exact w _ u2 (.inr (.inl ⟨_, (a4.trans (a5.trans (a6.trans a7))) _ _ b2⟩))
          · exact w _ u3 (.inr (.inr (.inl ⟨_, (a5.trans (a6.trans a7)) _ _ b3⟩)))
          · exact w _ u4 (.inr (.inr (.inl ⟨_, (a6.trans a7) _ _ b4⟩)))
          · exact w _ u5 (.inr (.inr (.inr ⟨_, cx.same a7⟩)))
          · exact w _ u6 (.inl ⟨_, b6⟩)
    obtain ⟨p, xs, rfl, s4, n4, g4, bad, len⟩ := hP
    refine ⟨_, rfl, _, rfl, d, p, xs, rfl, hD.keep s4, (dice_ne hD n4).symm, .of g4, by omega, by omega, fun H5 y ch D5 hy => q H5 y (Chg.trans (.of s4) ch) D5 ?_⟩
    obtain ⟨a, b, c, hd, _⟩ := hD.keep s4
    exact (bad y hy).chg ch hd
end
end K05
set_option Elab.async false
set_option linter.all false
set_option maxRecDepth 100000
set_option maxHeartbeats 4000000
/-! own layer: the end of a law with tables of code objects, called where no repr is under way -/
namespace Ly
open PySem PySem.Spec PyProof.Rows L2
section
variable {P : Program} {w : World} {K : PySem.W.Frag} {mg mb : Str → Option Value} {CX : CXT} {k : Nat} {fa a : Addr} {sp : Sp} {s1 : Shared} {vs : List Value} {ns : List Int} {cs : List (Addr × Addr)}
/-- what is tracked at the law's call: empty tables, and the script if it stands in no written part -/
def OnlyT (cs : List (Addr × Addr)) (K : PySem.W.Frag) (a : Addr) (H : Hp) : Prop := ∀ b, H b = none ∨ (∃ p ∈ cs, b = p.2 ∧ H b = some (.tbl #[])) ∨ (b = a ∧ K.lookup a = none ∧ ∃ ob xs, H b = some (.frz ob (.lst xs)))
theorem lawT_core (KX : K.In s1.heap) (hns : s1.heap.Ns mainGlobals mg) (hb : s1.heap.Ns builtinsNs mb) (hbb : ∀ x : Str, x ≠ "__name__" → mb x = bootBuiltins x) (hlim : s1.heap.NoLimit) (hg : s1.gens = #[])
    (hT : ∀ p ∈ cs, s1.heap.get? p.2 = some { cls := .none, data := .fields #[] }) (nT : ∀ p ∈ cs, K.lookup p.2 = none) (hC : ∀ p ∈ cs, PySem.W.CodeHd s1.heap p.1 p.2)
    (hbm : ∃ (bm : Addr) (ob : Obj), mg "__builtins__" = some (.ref bm) ∧ bm ≠ builtinsNs ∧ s1.heap.get? bm = some ob ∧ ob.cls = .type "module" ∧ ob.dict = some builtinsNs ∧ ob.data = .plain)
    (ha : s1.heap.get? a = some { cls := .type "list", data := .seq vs.toArray }) (hr : Room k callerA) (F : ∀ base : Heap, K.In base → base.Ns mainGlobals mg → (∀ p ∈ cs, LamX.TabB base mg p.1 p.2) → FnG P w K mg base CX k fa sp)
    (hCX : ∀ H e s', CX [] H s1 (fun _ _ _ => False) e s' → False) {H : Hp} (hO : OnlyT cs K a H) (hH : ∀ p ∈ cs, H p.2 = some (.tbl #[])) (hok : HOk P w H s1.heap) (hsp : sp [.ref a] H (fun v _ => v = .bl true) fun _ _ _ => False) : LawGoal P w fa a s1 := by
  have plain : ∀ {b : Addr} {o : Obj}, s1.heap.get? b = some o → (∀ its n, o.data ≠ .seq its n) → o.data ≠ .fields #[] → H b = none := by
    intro b o e d1 d2
    rcases hO b with z | ⟨p, hp, rfl, _⟩ | ⟨rfl, _⟩
    · exact z
    · rw [hT p hp] at e
      cases e
      exact absurd rfl d2
    · rw [ha] at e
      cases e
      exact absurd rfl (d1 _ _)
  have nsB : ∀ {b : Addr} {m : Str → Option Value}, s1.heap.Ns b m → (hidT s1.heap H).Ns b m := fun {b m} h => by
    obtain ⟨o, es, ep, e, d, r⟩ := h
    exact ⟨o, es, ep, hidT_get e (plain e (fun its n z => by rw [d] at z; cases z) fun z => by rw [d] at z; cases z), d, r⟩
  have kB : K.In (hidT s1.heap H) := fun b o e => hidT_get (KX b o e) (by
    rcases hO b with z | ⟨p, hp, rfl, _⟩ | ⟨rfl, n, _⟩
    · exact z
    · rw [nT p hp] at e
      cases e
    · rw [n] at e
      cases e)
  have TB : ∀ p ∈ cs, LamX.TabB (hidT s1.heap H) mg p.1 p.2 := fun p hp => by
    have hP := hT p hp
    refine ⟨?_, ?_, fun z => ?_⟩
    · obtain ⟨o, us, file, tf, flags, tg, inF, text, tt, e1, r1, r2, r3, r4⟩ := hC p hp
      refine ⟨o, us, file, tf, flags, tg, inF, text, tt, hidT_get e1 (plain e1 (fun its n z => by rw [r2] at z; cases z) fun z => ?_), r1, r2, r3, r4⟩
      rw [r2] at z
      cases z
      cases r3
    · obtain ⟨bm, ob, b1, b2, b3, b4, b5, b6⟩ := hbm
      refine ⟨bm, ob, b1, b2, fun q => ?_, fun q => ?_, hidT_get b3 (plain b3 (fun its n z => by rw [b6] at z; cases z) fun z => by rw [b6] at z; cases z), b4, b5, b6⟩
      · obtain ⟨o, es, ep, e, hd, _⟩ := hns
        rw [q, e] at b3
        cases b3
        rw [hd] at b6
        cases b6
      · rw [q, hP] at b3
        cases b3
        cases b6
    · obtain ⟨o, es, ep, e, hd, _⟩ := hns
      rw [z, hP] at e
      cases e
      cases hd
  obtain ⟨mc, l1, l2⟩ := hlim
  have e0 : Env0 P w K mg (hidT s1.heap H) callerA [] s1 H := {
    frames := rfl
    mod := ⟨kB, nsB hns, ⟨mb, nsB hb, hbb⟩, ⟨mc, nsB l1, l2⟩⟩
    bs := fun b o e => of_hidT e
    bsz := Nat.le_of_eq (hidT_size _ _)
    funs := trivial
    frf := fun b hb' => by cases hb'
    hok := hok
    bare := .of_eq hg }
  refine codeAny_mono (F _ kB (nsB hns) TB callerA [] s1 H [.ref a] [.ref a] _ _ hr rfl e0 (.cons rfl .nil) hsp) fun r s' h => ?_
  match r, h with
  | .error e, h => exact (hCX H e s' h).elim
  | .ok .next, h => exact False.elim h
  | .ok .brk, h => exact False.elim h
  | .ok .cont, h => exact False.elim h
  | .ok (.ret u), h =>
    obtain ⟨v, H', os, bare, un, hok', r', q⟩ := h
    have q' : v = .bl true := q
    subst q'
    obtain rfl : u = Value.bool true := r'
    have grown : ∀ p ∈ cs, ∃ more : Array Value, s'.heap.get? p.2 = some { cls := .none, data := .fields more } := fun p hp => by
      obtain ⟨more, z⟩ := un.tbls p.2 #[] (hH p hp)
      exact ⟨_, hok' p.2 _ z⟩
    have rest : ∀ b o, s1.heap.get? b = some o → (∃ p ∈ cs, b = p.2) ∨ s'.heap.get? b = some o := fun b o e => by
      rcases hO b with z | ⟨p, hp, hb, _⟩ | ⟨_, _, ob, xs, z⟩
      · exact .inr (un.keep b o e z (fun z => by cases z) (fun z => by cases z))
      · exact .inl ⟨p, hp, hb⟩
      · obtain ⟨e1, _⟩ := hok b _ z
        obtain ⟨e2, _⟩ := hok' b _ (un.frzs b ob _ z)
        rw [e] at e1
        cases e1
        exact .inr e2
    refine ⟨rfl, ⟨fun b o e => ?_, fun b o e => ?_⟩, os, bare⟩
    · rcases rest b o e with ⟨p, hp, rfl⟩ | z
      · obtain ⟨more, hm⟩ := grown p hp
        have hP := hT p hp
        rw [hP] at e
        cases e
        exact .inr (.inl ⟨((hC p hp).tab hP).isCodeTable, rfl, #[], more, rfl, by rw [Array.empty_append]; exact hm⟩)
      · exact .inl z
    · rcases rest b o e with ⟨p, hp, rfl⟩ | z
      · obtain ⟨more, hm⟩ := grown p hp
        exact ⟨_, hm⟩
      · exact ⟨o, z⟩
theorem lawT (KX : K.In s1.heap) (hns : s1.heap.Ns mainGlobals mg) (hb : s1.heap.Ns builtinsNs mb) (hbb : ∀ x : Str, x ≠ "__name__" → mb x = bootBuiltins x) (hlim : s1.heap.NoLimit) (hg : s1.gens = #[])
    (hT : ∀ p ∈ cs, s1.heap.get? p.2 = some { cls := .none, data := .fields #[] }) (nT : ∀ p ∈ cs, K.lookup p.2 = none) (hC : ∀ p ∈ cs, PySem.W.CodeHd s1.heap p.1 p.2)
    (hbm : ∃ (bm : Addr) (ob : Obj), mg "__builtins__" = some (.ref bm) ∧ bm ≠ builtinsNs ∧ s1.heap.get? bm = some ob ∧ ob.cls = .type "module" ∧ ob.dict = some builtinsNs ∧ ob.data = .plain)
    (ha : s1.heap.get? a = some { cls := .type "list", data := .seq vs.toArray }) (hi : IntsAre vs ns) (hl : ns.length ≤ sizeLine) (hr : Room k callerA) (F : ∀ base : Heap, K.In base → base.Ns mainGlobals mg → (∀ p ∈ cs, LamX.TabB base mg p.1 p.2) → FnG P w K mg base CX k fa sp)
    (hsp : ∀ H : Hp, (∀ p ∈ cs, H p.2 = some (.tbl #[])) → SqL K H a (ns.map V.int) → sp [.ref a] H (fun v _ => v = .bl true) fun _ _ _ => False) (hCX : ∀ H e s', CX [] H s1 (fun _ _ _ => False) e s' → False) : LawGoal P w fa a s1 := by
  classical
  have rv := vals_ints hi
  have lv := hi.length
  have aT : ∀ p ∈ cs, p.2 ≠ a := fun p hp z => by
    have q := hT p hp
    rw [z, ha] at q
    cases q
  let H0 : Hp := fun b => if ∃ p ∈ cs, b = p.2 then some (.tbl #[]) else none
  have t0 : ∀ p ∈ cs, H0 p.2 = some (.tbl #[]) := fun p hp => if_pos ⟨p, hp, rfl⟩
  have o0 : ∀ b, H0 b = none ∨ ∃ p ∈ cs, b = p.2 ∧ H0 b = some (.tbl #[]) := fun b => by
    by_cases h : ∃ p ∈ cs, b = p.2
    · obtain ⟨p, hp, e⟩ := h
      exact .inr ⟨p, hp, e, if_pos ⟨p, hp, e⟩⟩
    · exact .inl (if_neg h)
  have ok0 : ∀ b u, H0 b = some u → ObjOk P w H0 s1.heap b u := fun b u z => by
    rcases o0 b with q | ⟨p, hp, rfl, q⟩
    · rw [q] at z
      cases z
    · rw [q] at z
      cases z
      exact hT p hp
  cases hk : K.lookup a with
  | some o =>
    have e := KX a o hk
    rw [ha] at e
    cases e
    refine lawT_core KX hns hb hbb hlim hg hT nT hC hbm ha hr F hCX (H := H0) (fun b => (o0 b).imp id .inl) t0 ok0 (hsp _ t0 (.inr ⟨_, vs.toArray, _, hk, rfl, rfl, rfl, by rw [List.size_toArray, lv]; exact hl, by simpa using rv⟩))
  | none =>
    have t1 : ∀ p ∈ cs, (upd H0 a (.frz { cls := .type "list", data := .seq vs.toArray } (.lst (ns.map V.int)))) p.2 = some (.tbl #[]) := fun p hp => by
      rw [upd_ne (aT p hp)]
      exact t0 p hp
    refine lawT_core KX hns hb hbb hlim hg hT nT hC hbm ha hr F hCX (H := upd H0 a (.frz { cls := .type "list", data := .seq vs.toArray } (.lst (ns.map V.int)))) (fun b => ?_) t1 (fun b u z => ?_) (hsp _ t1 (.inl (.inr ⟨_, upd_same⟩)))
    · by_cases h : b = a
      · exact .inr (.inr ⟨h, hk, _, _, by rw [h]; exact upd_same⟩)
      · rw [upd_ne h]
        exact (o0 b).imp id .inl
    · by_cases h : b = a
      · subst h
        rw [upd_same] at z
        cases z
        exact ⟨ha, by rw [List.length_map]; exact hl, vs, _, rv, ha⟩
      · rw [upd_ne h] at z
        rcases o0 b with q | ⟨p, hp, rfl, q⟩
        · rw [q] at z
          cases z
        · rw [q] at z
          cases z
          exact hT p hp
end
/-- the end of a law: where the head's heap stands, which tables, which promise -/
theorem walk_ofT {l : PySem.W.OpenLaw} {n k : Nat} {q : Program} {loose : List Str} {XP : (Str → Option Value) → Heap → Prop} {YP : World → Heap → Prop} {d : DefRec}
    (hn : l.most = some n) (hn2 : n ≤ sizeLine) (hdf : d.params.defaults = []) (hr : Room k callerA)
    (F : ∀ (w : World) (mg : Str → Option Value) (fa : Addr) (h : Heap), YP w h → h.Ns mainGlobals mg → mg d.name = some (.ref fa) → ∃ (K : PySem.W.Frag) (cs : List (Addr × Addr)) (sp : Sp), K.In h ∧ (∀ p ∈ cs, h.get? p.2 = some { cls := .none, data := .fields #[] }) ∧ (∀ p ∈ cs, K.lookup p.2 = none) ∧ (∀ p ∈ cs, PySem.W.CodeHd h p.1 p.2) ∧
      (∀ (H : Hp) (a : Addr) (ns : List Int), ns.length ≤ n → (∀ p ∈ cs, H p.2 = some (.tbl #[])) → SqL K H a (ns.map V.int) → sp [.ref a] H (fun v _ => v = .bl true) fun _ _ _ => False) ∧
      ∀ base : Heap, K.In base → base.Ns mainGlobals mg → (∀ p ∈ cs, LamX.TabB base mg p.1 p.2) → FnG l.prog w K mg base CX0 k fa sp) :
    PySem.W.WalkO q loose XP YP l.row.toRowW d [] (fun f vs => PySem.call f vs) :=
  Att.attach_call hn hdf fun w _ _ mg _ fa _ _ _ _ a vs ns G Y ho hd hcd hmg hobj hints hlen hg => by
    obtain ⟨K, cs, sp, KX, hT, nT, hC, hsp, hF⟩ := F w mg fa _ Y G.T.g hmg
    exact lawT KX G.T.g G.T.b G.T.builtins G.T.nolimit hg hT nT hC G.T.bmain hobj hints (Nat.le_trans hlen hn2) hr hF (fun H hH hS => hsp H a ns hlen hH hS) fun _ _ _ z => z
/-- the code object of a def -/
def codeVal (K : PySem.W.Frag) (f : Addr) : Option Value := match K.lookup f with
  | some o => match o.data with
    | .func fd => some fd.code
    | _ => none
  | none => none
section
variable {P : Program} {w : World} {K : PySem.W.Frag} {mg : Str → Option Value} {base : Heap} {CX : CXT} {k : Nat}
/-- a def's body, walked where no repr is under way, its code object known -/
theorem fnG_ofC {x qual : Str} {st : Stmt} {f : Addr} {c : Value} {fd : FuncData} {N ps : List Str} {sp : Sp} (F : Fun K x qual st f fd) (hc : codeVal K f = some c) (S : FnScope N ps (defScope st)) (b : Binds K fd ps []) (len : ∀ vs H Q E, sp vs H Q E → vs.length = ps.length)
    (hbody : ∀ (A : Around) (outer : List Env) (s : Shared) (H : Hp) (vs : List V) (Q : VK) (E : XK), Room k (A.deeper (envOfC qual (defScope st) s.heap.objs.size f c)) → Quiet (A.deeper (envOfC qual (defScope st) s.heap.objs.size f c)) →
      sp vs H Q E → ∃ t, PSs (cxOf CX P w K mg base N qual (defScope st) f c A outer s H E).nox (defBody st) t ∧ t { nx := fun _ H' => Q .non H', rt := Q } (start N vs) H) :
    FnG P w K mg base CX (k + 1) f sp := by
  obtain ⟨oc, od, kV, doc, pm, an, cdv, ct, osl, rfl, lk, hcd⟩ := F.ex
  have ec : cdv = c := by
    unfold codeVal at hc
    rw [lk] at hc
    exact Option.some.inj hc
  subst ec
  intro A outer s H us vs Q E hr hq e0 r hsp
  have hl := len vs H Q E hsp
  have hl2 : (us ++ ([] : List Value)).length = ps.length := by
    rw [List.append_nil, ← r.length]
    exact hl
  have hb := b s us (e0.mod.kin.keeps fun b o e => (e0.bs b o e).1) hl2
  rw [List.append_nil] at hb
  refine StX.run_bnd (G := fun xs H2 => xs = vs ∧ H2 = H) lk hcd S hr e0 (fun A' Ex Q' h => hb _ A' Ex Q' (h s H vs us e0 .refl rfl (fun _ _ z => z) r hl ⟨rfl, rfl⟩)) fun s2 H2 xs g hr' => ?_
  obtain ⟨rfl, rfl⟩ := g
  obtain ⟨t, h, q⟩ := hbody A outer s2 H2 xs Q E hr' hq hsp
  exact ⟨t, h.nox, q⟩
end
end Ly

set_option Elab.async false
set_option linter.all false
set_option maxRecDepth 100000
set_option maxHeartbeats 8000000
namespace K05
open PySem PySem.Spec PyProof.Rows L2 Ly Cut

section
variable {X : Cx} {g c P : Addr} {fd : FuncData} {k : Nat} {CC CO CN CM CL : Addr} {T : List (Addr × Str)} {params : Arguments} {body : Expr} {scope : Scope} {p lpos pos : Pos} {t : XK → TE}
/-- _law_met(lambda: body) -/
theorem pe_met (D : Df X.K X.mg "_law_met" s_met P_met g fd) (M : Mt X.K X.mg CC CO CN CM CL) (hq : Quiet X.A) (hg : Gl X "_law_met") (TB : LamX.TabB X.base X.mg c P) (hcode : X.env.code = .ref c)
    {qn : Str} (hql : X.env.qual = qn) (hmT : (P, qn ++ "<lambda>") ∈ T) (hu : ∀ p ∈ T, p.1 = P → p.2 = qn ++ "<lambda>") (hr : Room (k + 2) X.A) (L : LamX.LamS X.env.scope scope) (hdef : defaultsOf params X.env = ([], []))
    (hbind : ∀ (q : Str) (cl : List (Str × Addr)) (pm cv ctv : Value), bindArgs (PySem.W.kla_fn "<lambda>" q params body scope cl pm cv ctv) ⟨[], []⟩ = pure [])
    (hbody : ∀ (A : Around) (outer : List Env) (s : Shared) (H : Hp) (E : XK) (f c' : Addr), Room k (A.deeper (LamX.lamEnv X scope s.heap.objs.size f c')) → PE (LamX.lamCx X A outer s H E scope f c') body (t E)) :
    PE X (.Call (.Name "_law_met" p) [.Lambda params body scope lpos] [] pos) (LamX.tLam T (TMet CC CO CN) t) := by
  subst hql
  obtain ⟨oc, od, kV, doc, pm, an, cdv, ct, osl, rfl, lk, hcd⟩ := D.F.ex
  exact LamX.pe_lamcall hg D.g D.F.kp lk hcd D.b sc_met rfl (.inl rfl) (met_gives M hq (hr.mono (by omega))) TB hcode hmT hu hr L hdef hbind hbody
end
def rTupOf (K : PySem.W.Frag) : List V → Hp → VK → Prop := fun xs H Q => ∃ p ys, xs = [V.ref p] ∧ ((SqL K H p ys ∧ ∀ l, H l = none → Q (V.ref l) (upd H l (HO.tup ys))) ∨ SqT K H p ys ∧ Q (V.ref p) H)
theorem tupOfK {X : Cx} {K : PySem.W.Frag} (h : X.K = K) : CallR X (.type "tuple") (rTupOf K) := h ▸ call_tuple_of
theorem slLK {X : Cx} {K : PySem.W.Frag} (h : X.K = K) : SlR X (rSlL K) := h ▸ sl_list
/-- all but the dice and the tables stays -/
def Chn (d : Addr) (H H' : Hp) : Prop := ∀ b o, b ≠ d → H b = some o → (∀ ps, o ≠ .tbl ps) → H' b = some o
section
variable {d : Addr} {H H1 H2 : Hp}
theorem Chn.refl : Chn d H H := fun _ _ _ h _ => h
theorem Chn.trans (a : Chn d H H1) (b : Chn d H1 H2) : Chn d H H2 := fun x o n h t => b x o n (a x o n h t) t
theorem Chn.of (c : Chg d H H1) : Chn d H H1 := fun x o n h _ => c x o n h
theorem Chn.ext (c : LamX.ExtN H H1) : Chn d H H1 := fun x o _ h t => c x o h t
theorem Chn.same (c : Same H H1) : Chn d H H1 := fun x o _ h _ => c x o h
theorem Chn.at_ {a : Addr} {o : HO} (c : Chn d H H1) (n : a ≠ d) (h : H a = some o) (t : ∀ ps, o ≠ .tbl ps) : H1 a = some o := c a o n h t
theorem Dice.ext (c : LamX.ExtN H H1) (h : Dice H d) : Dice H1 d := by
  obtain ⟨x, y, z, e, r⟩ := h
  exact ⟨x, y, z, c _ _ e (fun ps z => by cases z), r⟩
theorem tabs_chg {T : List (Addr × Str)} (c : Chg d H H1) (hd : Dice H d) (t : LamX.Tabs T H) : LamX.Tabs T H1 := fun p hp => by
  obtain ⟨ps, h1, h2, h3⟩ := t p hp
  obtain ⟨x, y, z, e, _⟩ := hd
  have ne : ∀ {a : Addr} {o : HO}, H a = some o → (∀ xs, o ≠ .lst xs) → a ≠ d := fun h n q => by
    rw [q, e] at h
    exact n _ (Option.some.inj h).symm
  refine ⟨ps, c _ _ (ne h1 (fun xs q => by cases q)) h1, h2, fun pos cv hc => ?_⟩
  obtain ⟨a, e1, e2⟩ := h3 pos cv hc
  exact ⟨a, e1, c _ _ (ne e2 (fun xs q => by unfold LamX.CodeO at q; cases q)) e2⟩
theorem CutAt.chn {C x : Addr} {xs : List V} {ps : List Part} (c : CutAt C H x ps) (s : Chn d H H1) (hd : H d = some (.lst xs)) : CutAt C H1 x ps := by
  have go : ∀ {b : Addr} {o : HO}, (∀ xs, o ≠ .lst xs) → (∀ ps, o ≠ .tbl ps) → H b = some o → H1 b = some o := fun {b o} n t h => s b o (fun e => n xs (by rw [e, hd] at h; exact (Option.some.inj h).symm)) h t
  obtain ⟨dx, p, t, ts, h1, h2, h3, hl, h4⟩ := c.ex
  refine ⟨c.ok, c.le, dx, p, t, ts, go (fun _ z => by cases z) (fun _ z => by cases z) h1, go (fun _ z => by cases z) (fun _ z => by cases z) h2, go (fun _ z => by cases z) (fun _ z => by cases z) h3, hl, fun i hi => ?_⟩
  obtain ⟨q, e, hq⟩ := h4 i hi
  exact ⟨q, e, go (fun _ z => by cases z) (fun _ z => by cases z) hq⟩
theorem Bad.chn {C : Addr} {v : V} {xs : List V} (c : Chn d H H1) (hd : H d = some (.lst xs)) (h : Bad C d H v) : Bad C d H1 v := by
  rcases h with h | h | h | h | ⟨a, e, n, h⟩
  · exact .inl h
  · exact .inr (.inl h)
  · exact .inr (.inr (.inl h))
  · exact .inr (.inr (.inr (.inl h)))
  · refine .inr (.inr (.inr (.inr ⟨a, e, n, ?_⟩)))
    rcases h with ⟨ys, h⟩ | ⟨ys, h⟩ | ⟨ys, h⟩ | ⟨ps, h⟩
    · exact .inl ⟨ys, c _ _ n h (fun _ z => by cases z)⟩
    · exact .inr (.inl ⟨ys, c _ _ n h (fun _ z => by cases z)⟩)
    · exact .inr (.inr (.inl ⟨ys, c _ _ n h (fun _ z => by cases z)⟩))
    · exact .inr (.inr (.inr ⟨ps, K05.CutAt.chn h c hd⟩))
/-- a part, or none -/
def PartOr (C d : Addr) (H : Hp) (x : V) : Prop := (∃ p : Part, x = .str p.text ∧ Ok p) ∨ Bad C d H x
theorem badP_of {K : PySem.W.Frag} {C : Addr} {xs : List V} (ck : CK K C) (hs : PySem.W.kitOne K (.ref C) (.type "str") = some false) (hl : xs.length ≤ 100) (h : ∀ x ∈ xs, PartOr C d H x) (hb : 4 < xs.length ∨ ∃ x ∈ xs, Bad C d H x) : BadP K H xs := by
  classical
  refine ⟨xs.map fun x => decide (¬ Bad C d H x), List.length_map _, hl, fun i x b hx hb' H' s => ?_, hb.imp id fun ⟨x, hx, e⟩ => List.mem_map.mpr ⟨x, hx, decide_eq_false fun n => n e⟩⟩
  rw [List.getElem?_map, hx] at hb'
  have eb : b = decide (¬ Bad C d H x) := (Option.some.inj hb').symm
  by_cases e : Bad C d H x
  · rw [eb, decide_eq_false fun n => n e]
    exact (e.same s).is ck hs
  · rw [eb, decide_eq_true e]
    exact .inl ⟨rfl, (h x (List.mem_of_getElem? hx)).resolve_right e⟩
theorem cutV_mem {xs : List V} {lo hi : Option Int} {y : V} (h : y ∈ cutV xs lo hi) : y ∈ xs := List.mem_of_mem_drop (List.mem_of_mem_take h)
theorem sIx_in (n d t : Nat) (h : t ≤ n) : HT.sIx n d (some (t : Int)) = t := by
  rw [HT.sIx_nat]
  exact Nat.min_eq_left h
theorem cutV_to {xs : List V} {t : Nat} (h : t ≤ xs.length) : cutV xs none (some (t : Int)) = xs.take t := by
  unfold cutV
  rw [sIx_in _ _ _ h]
  rfl
end
end K05
set_option Elab.async false
set_option linter.all false
set_option maxRecDepth 100000
set_option maxHeartbeats 8000000
namespace K05
open PySem PySem.Spec PyProof.Rows L2 Ly Cut

set_option maxHeartbeats 400000
abbrev s_made : Stmt := topS 37
abbrev N_made : List Str := ["_law_dice_here", "_law_parts_here", "_law_bad", "_law_turn", "_law_at", "_law_row", "_law_told", "_law_odd"]
abbrev P_made : List Str := ["_law_dice_here"]
theorem sc_made : FnScope N_made P_made (defScope s_made) := ⟨rfl, rfl, rfl, by decide +kernel, rfl, by decide +kernel, by decide +kernel⟩

/-- what is known of the cutters and their errors -/
structure Yc (P : Program) (w : World) (K : PySem.W.Frag) (mg : Str → Option Value) (base : Heap) (C CC CO CN CM CL fi fo pm : Addr) (mc : Value) : Prop where
  hC : mg "Cutter" = some (.ref C)
  ck : CK K C
  ks : PySem.W.kitOne K (.ref C) (.type "str") = some false
  kt : PySem.W.kitOne K (.ref C) (.type "tuple") = some false
  MC : Mk K C fi
  FI : FnR P w K mg base CX0 5 fi (spInit C)
  FIX : FnR P w K mg base (L2.CX P w) 5 fi (spInitX K CC)
  cr : ClX.CRead K C mc
  cm : ClX.CMet K C mc "of" pm fo
  FO : FnR P w K mg base CX0 7 fo (spCutOf C)
  FOX : FnR P w K mg base (L2.CX P w) 7 fo (spOfX K C CC)
  M : Mt K mg CC CO CN CM CL
/-- the list of what was told so far, all of it "cutter" -/
def Lv (d tl : Addr) (T : List (Addr × Str)) (H0 H' : Hp) (n : Nat) : Prop := Chn d H0 H' ∧ Dice H' d ∧ LamX.Tabs T H' ∧ H' tl = some (.lst (List.replicate n (V.str "cutter")))
theorem tabs_lst {T : List (Addr × Str)} {H : Hp} {l : Addr} {xs ys : List V} (hl : H l = some (.lst xs)) (t : LamX.Tabs T H) : LamX.Tabs T (upd H l (.lst ys)) := fun p hp => by
  obtain ⟨ps, h1, h2, h3⟩ := t p hp
  have ne : ∀ {a : Addr} {o : HO}, H a = some o → (∀ xs, o ≠ .lst xs) → a ≠ l := fun h n q => by
    rw [q, hl] at h
    exact n _ (Option.some.inj h).symm
  refine ⟨ps, by rw [upd_ne (ne h1 (fun xs q => by cases q))]; exact h1, h2, fun pos cv hc => ?_⟩
  obtain ⟨a, e1, e2⟩ := h3 pos cv hc
  exact ⟨a, e1, by rw [upd_ne (ne e2 (fun xs q => by unfold LamX.CodeO at q; cases q))]; exact e2⟩
theorem lv_step {K : PySem.W.Frag} {CC CO CN d tl : Addr} {T : List (Addr × Str)} {H0 H' : Hp} {n : Nat} {i : Nat} {te : XK → TE} {D : Ends} {σ : L2.St} (nt : ∀ b o, H0 b = some o → (∀ ps, o ≠ .tbl ps) → b ≠ tl) (nd : tl ≠ d) (hs : σ[i]? = some (some (.ref tl))) (hn : n ≤ 100) (hL : Lv d tl T H0 H' n)
    (h : ∀ (H1 : Hp) (E : XK) (Q : VK), LamX.ExtN H' H1 → Dice H1 d → LamX.Tabs T H1 → (∀ H2, Chg d H1 H2 → Dice H2 d → E (.ref CC) none H2) → te E σ H1 Q) (k : ∀ H2, Lv d tl T H0 H2 (n + 1) → D.nx σ H2) :
    tDrop (tBM K "list" rAppend (tVar i) (tCons (LamX.tLam T (TMet CC CO CN) te) tNil)) D σ H' := by
  obtain ⟨c, hD, hT, hl⟩ := hL
  refine ⟨_, hs, .inl ⟨rfl, _, .of hl⟩, hT, fun H1 e1 T1 => h H1 _ _ e1 (K05.Dice.ext e1 hD) T1 fun H2 c2 D2 => .inl ⟨rfl, rfl, ?_⟩⟩
  have h2 : H2 tl = some (.lst (List.replicate n (V.str "cutter"))) := c2 _ _ nd (e1 _ _ hl (fun _ z => by cases z))
  refine ⟨tl, _, _, rfl, rfl, h2, by rw [List.length_replicate]; exact small1000 (by omega), k _ ⟨fun b o n1 e t => ?_, ?_, tabs_lst h2 (tabs_chg c2 (K05.Dice.ext e1 hD) T1), ?_⟩⟩
  · rw [upd_ne (nt b o e t)]
    exact (c.trans ((Chn.ext e1).trans (.of c2))) b o n1 e t
  · obtain ⟨x, y, z, e, r⟩ := D2
    exact ⟨x, y, z, by rw [upd_ne (Ne.symm nd)]; exact e, r⟩
  · rw [upd_same, ← List.replicate_succ']
theorem Lv.chg {d tl : Addr} {T : List (Addr × Str)} {H0 H H' : Hp} {n : Nat} (nd : tl ≠ d) (h : Lv d tl T H0 H n) (c : Chg d H H') (hD : Dice H' d) : Lv d tl T H0 H' n := ⟨h.1.trans (.of c), hD, tabs_chg c h.2.1 h.2.2.1, c _ _ nd h.2.2.2⟩
/-- a cutter of values that are none is not made -/
theorem mk_bad {K : PySem.W.Frag} {C CC d : Addr} {H1 : Hp} {xs : List V} {Q : VK} {E : XK} (hD : Dice H1 d) (hb : BadP K H1 xs) (k : ∀ H2, Chg d H1 H2 → Dice H2 d → E (.ref CC) none H2) (x dx : Addr) (nx : H1 x = none) (ndx : H1 dx = none) : spInitX K CC (V.ref x :: xs) (upd (upd H1 dx (.own x)) x (.ins C dx [])) Q E := by
  have s1 : Same H1 (upd (upd H1 dx (.own x)) x (.ins C dx [])) := fun b o e => by
    rw [upd_ne (ne_of_none e nx), upd_ne (ne_of_none e ndx)]
    exact e
  exact ⟨x, xs, rfl, hb.same s1, fun H2 s2 => k H2 (.of (s1.trans s2)) (hD.keep (s1.trans s2))⟩
/-- a value that is no tuple, and stays none -/
def NoTup (C d : Addr) (H : Hp) (v : V) : Prop := (∃ z, v = .str z) ∨ v = .non ∨ (∃ b, v = .bl b) ∨ (∃ i, v = .int i) ∨ ∃ a, v = .ref a ∧ a ≠ d ∧ ((∃ xs, H a = some (.lst xs)) ∨ (∃ kvs, H a = some (.dK kvs)) ∨ ∃ ps, CutAt C H a ps)
theorem NoTup.chn {C d : Addr} {H H1 : Hp} {v : V} {xs : List V} (c : Chn d H H1) (hd : H d = some (.lst xs)) (h : NoTup C d H v) : NoTup C d H1 v := by
  rcases h with h | h | h | h | ⟨a, e, n, h⟩
  · exact .inl h
  · exact .inr (.inl h)
  · exact .inr (.inr (.inl h))
  · exact .inr (.inr (.inr (.inl h)))
  · refine .inr (.inr (.inr (.inr ⟨a, e, n, ?_⟩)))
    rcases h with ⟨ys, h⟩ | ⟨ys, h⟩ | ⟨ps, h⟩
    · exact .inl ⟨ys, c _ _ n h (fun _ z => by cases z)⟩
    · exact .inr (.inl ⟨ys, c _ _ n h (fun _ z => by cases z)⟩)
    · exact .inr (.inr ⟨ps, K05.CutAt.chn h c hd⟩)
theorem NoTup.is {K : PySem.W.Frag} {C d : Addr} {H : Hp} {v : V} (ck : CK K C) (hs : PySem.W.kitOne K (.ref C) (.type "tuple") = some false) (h : NoTup C d H v) : ∃ t : Value, TyX K H v t ∧ PySem.W.kitOne K t (.type "tuple") = some false := by
  rcases h with ⟨z, rfl⟩ | rfl | ⟨b, rfl⟩ | ⟨i, rfl⟩ | ⟨a, rfl, n, h⟩
  · exact ⟨_, .base (.str z), kit_ty (by decide +kernel)⟩
  · exact ⟨_, .base .non, kit_ty (by decide +kernel)⟩
  · exact ⟨_, .base (.bl b), kit_ty (by decide +kernel)⟩
  · exact ⟨_, .base (.int i), kit_ty (by decide +kernel)⟩
  · rcases h with ⟨ys, h⟩ | ⟨ys, h⟩ | ⟨ps, h⟩
    · exact ⟨_, .base (.lst h), kit_ty (by decide +kernel)⟩
    · exact ⟨_, .base (.dK h), kit_ty (by decide +kernel)⟩
    · obtain ⟨dx, _, _, _, hx, _⟩ := h.ex
      exact ⟨_, ck.ty hx, hs⟩
def spMade (T : List (Addr × Str)) : Sp := fun vs H Q _ => ∃ d : Addr, vs = [.ref d] ∧ Dice H d ∧ LamX.Tabs T H ∧ ∀ H', Chn d H H' → Dice H' d → LamX.Tabs T H' → Q (.bl true) H'
section
variable {P : Program} {w : World} {K : PySem.W.Frag} {mg : Str → Option Value} {base : Heap} {f C CC CO CN CM CL fi fo pm : Addr} {mc : Value} {fd : FuncData}
theorem ok_made {T : List (Addr × Str)} {c Pt : Addr} (Z : Zs mg) (D : Df K mg "_law_made_right" s_made P_made f fd) (Y : Yc P w K mg base C CC CO CN CM CL fi fo pm mc) {f1 f2 f3 f4 f5 : Addr} {d1 d2 d3 d4 d5 : FuncData}
    (D_roll : Cl P w K mg base "_law_roll" 1 f1 d1 P_roll spRoll) (D_oneL : Cl P w K mg base "_law_one_of" 2 f2 d2 P_one_of (spOneL K)) (D_part : Cl P w K mg base "_law_part" 4 f3 d3 P_part spPart) (D_nopart : Cl P w K mg base "_law_no_part" 7 f4 d4 P_nopart (spNoPart C))
    (D_met : Df K mg "_law_met" s_met P_met f5 d5) (TB : LamX.TabB base mg c Pt) (hcd : codeVal K f = some (.ref c)) {qn : Str} (hqn : ("_law_made_right" : Str) ++ ".<locals>." = qn) (hm1 : (Pt, qn ++ "<lambda>") ∈ T) (hu1 : ∀ p ∈ T, p.1 = Pt → p.2 = qn ++ "<lambda>") :
    FnG P w K mg base CX0 12 f (spMade T) := by
  refine fnG_ofC D.F hcd sc_made D.b (fun vs H Q E h => ?_) (fun A outer s H vs Q E hr hq h => ?_)
  · obtain ⟨d, rfl, _⟩ := h
    rfl
  · obtain ⟨d, rfl, hD, hT, q⟩ := h
    have nd := sc_made.nd
    have hu : (A.deeper (envOfC "_law_made_right" (defScope s_made) s.heap.objs.size f (.ref c))).units + 64 < cLine := by
      have := hr.un
      omega
    have hcode : (Value.ref c) = .ref c := rfl
    refine ⟨_,
    (pss_cons
    (ps_asg (pe_tup (pa_cons (pe_lc (own := [("_law_turn", 3)]) (g := gName 3) (tt := tYes) rfl nd (pi_range1 (by rfl) Z.z_range (pa_cons pe_int pa_nil)) (blkOk_by (N := N_made) (sc := defScope s_made) (by decide +kernel)) (fun _ _ _ _ _ => (pg_name (i := 3) nd rfl (Or.inl rfl))) (fun _ _ _ _ _ => pts_nil) (fun _ _ _ _ _ => (pe_call D_part.ok (hr.mono (by decide)) (by rfl) D_part.g D_part.kp D_part.b .nil pass0 (pa_cons (pv 0) pa_nil)))) (pa_cons (pe_call D_nopart.ok (hr.mono (by decide)) (by rfl) D_nopart.g D_nopart.kp D_nopart.b .nil pass0 (pa_cons (pv 0) pa_nil)) pa_nil))) (pg_tup rfl (pgs_cons (pg_name (i := 1) nd rfl (Or.inr rfl)) (pgs_cons (pg_name (i := 2) nd rfl (Or.inr rfl)) pgs_nil))))
    (pss_cons
    (ps_set (i := 4) nd rfl (Or.inl rfl) (pe_call D_roll.ok (hr.mono (by decide)) (by rfl) D_roll.g D_roll.kp D_roll.b .nil pass0 (pa_cons (pv 0) (pa_cons pe_int pa_nil))))
    (pss_cons
    (ps_set (i := 5) nd rfl (Or.inr rfl) (pe_callTy call_tuple_of (by rfl) Z.z_tuple (by decide +kernel) (pa_cons (pe_op op_cat (pe_op op_cat (pe_slice sl_list (pv 1) po_none (po_some (pv 4))) (pe_lst (pa_cons (pv 2) pa_nil))) (pe_slice sl_list (pv 1) (po_some (pv 4)) po_none)) pa_nil)))
    (pss_cons
    (ps_set (i := 6) nd rfl (Or.inl rfl) (pe_lst (pa_cons (pe_met (k := 9) (T := T) (P := Pt) (c := c) (qn := qn) D_met Y.M (by exact hq) (by rfl) (by exact TB) (by exact hcode) (by exact hqn) (by exact hm1) (by exact hu1) (hr.mono (by decide)) (by exact LamX.lamS_by (sc := defScope s_made) (by decide +kernel)) (by rfl) (fun _ _ _ _ _ => rfl) (fun A outer s H E f c2 hr2 => (StX.pe_makeR Y.MC Y.FIX (hr2.mono (by decide)) rfl Y.hC (passes_call (takes_of rfl rfl rfl rfl) (fun _ _ _ _ h => h)) (pa_cons (pv 2) pa_nil)))) pa_nil)))
    (pss_cons
    (ps_expr (pe_bm PySem.F.plainAttrs_list PySem.F.slot_list_append PySem.F.type_list_append mt_append (pv 6) (pa_cons (pe_met (k := 9) (T := T) (P := Pt) (c := c) (qn := qn) D_met Y.M (by exact hq) (by rfl) (by exact TB) (by exact hcode) (by exact hqn) (by exact hm1) (by exact hu1) (hr.mono (by decide)) (by exact LamX.lamS_by (sc := defScope s_made) (by decide +kernel)) (by rfl) (fun _ _ _ _ _ => rfl) (fun A outer s H E f c2 hr2 => (StX.pe_makeR Y.MC Y.FIX (hr2.mono (by decide)) rfl Y.hC (passes_call (takes_of rfl rfl rfl rfl) (fun _ _ _ _ h => h)) (pa_cons (pe_ix (ixL (K := K) rfl) (pv 1) pe_int (fun _ _ => rfl)) (pa_cons (pv 2) pa_nil))))) pa_nil)))
    (pss_cons
    (ps_expr (pe_bm PySem.F.plainAttrs_list PySem.F.slot_list_append PySem.F.type_list_append mt_append (pv 6) (pa_cons (pe_met (k := 9) (T := T) (P := Pt) (c := c) (qn := qn) D_met Y.M (by exact hq) (by rfl) (by exact TB) (by exact hcode) (by exact hqn) (by exact hm1) (by exact hu1) (hr.mono (by decide)) (by exact LamX.lamS_by (sc := defScope s_made) (by decide +kernel)) (by rfl) (fun _ _ _ _ _ => rfl) (fun A outer s H E f c2 hr2 => (ClX.pe_cmeth (pe_glob (v := .ref C) rfl Y.hC rfl) Y.cr Y.cm Y.FOX (hr2.mono (by decide)) (passes_call (takes_of rfl rfl rfl rfl) (fun _ _ _ _ h => h)) (pa_cons (pv 5) pa_nil)))) pa_nil)))
    (pss_cons
    (ps_expr (pe_bm PySem.F.plainAttrs_list PySem.F.slot_list_append PySem.F.type_list_append mt_append (pv 6) (pa_cons (pe_met (k := 9) (T := T) (P := Pt) (c := c) (qn := qn) D_met Y.M (by exact hq) (by rfl) (by exact TB) (by exact hcode) (by exact hqn) (by exact hm1) (by exact hu1) (hr.mono (by decide)) (by exact LamX.lamS_by (sc := defScope s_made) (by decide +kernel)) (by rfl) (fun _ _ _ _ _ => rfl) (fun A outer s H E f c2 hr2 => (StX.pe_makeR Y.MC Y.FIX (hr2.mono (by decide)) rfl Y.hC (passes_call (takes_of rfl rfl rfl rfl) (fun _ _ _ _ h => h)) (pa_cons (pv 2) (pa_cons (pe_ix (ixL (K := K) rfl) (pv 1) pe_int (fun _ _ => rfl)) (pa_cons (pe_call D_nopart.ok (hr2.mono (by decide)) (by rfl) D_nopart.g D_nopart.kp D_nopart.b .nil pass0 (pa_cons (pv 0) pa_nil)) pa_nil)))))) pa_nil)))
    (pss_cons
    (ps_expr (pe_bm PySem.F.plainAttrs_list PySem.F.slot_list_append PySem.F.type_list_append mt_append (pv 6) (pa_cons (pe_met (k := 9) (T := T) (P := Pt) (c := c) (qn := qn) D_met Y.M (by exact hq) (by rfl) (by exact TB) (by exact hcode) (by exact hqn) (by exact hm1) (by exact hu1) (hr.mono (by decide)) (by exact LamX.lamS_by (sc := defScope s_made) (by decide +kernel)) (by rfl) (fun _ _ _ _ _ => rfl) (fun A outer s H E f c2 hr2 => (ClX.pe_cmeth (pe_glob (v := .ref C) rfl Y.hC rfl) Y.cr Y.cm Y.FOX (hr2.mono (by decide)) (passes_call (takes_of rfl rfl rfl rfl) (fun _ _ _ _ h => h)) (pa_cons (pe_callTy (tupOfK (K := K) rfl) (by rfl) Z.z_tuple (by decide +kernel) (pa_cons (pe_op op_cat (pv 1) (pe_slice (slLK (K := K) rfl) (pv 1) po_none (po_some pe_int))) pa_nil)) pa_nil)))) pa_nil)))
    (pss_cons
    (ps_expr (pe_bm PySem.F.plainAttrs_list PySem.F.slot_list_append PySem.F.type_list_append mt_append (pv 6) (pa_cons (pe_met (k := 9) (T := T) (P := Pt) (c := c) (qn := qn) D_met Y.M (by exact hq) (by rfl) (by exact TB) (by exact hcode) (by exact hqn) (by exact hm1) (by exact hu1) (hr.mono (by decide)) (by exact LamX.lamS_by (sc := defScope s_made) (by decide +kernel)) (by rfl) (fun _ _ _ _ _ => rfl) (fun A outer s H E f c2 hr2 => (StX.pe_makeR Y.MC Y.FIX (hr2.mono (by decide)) rfl Y.hC (passes_call (takes_of rfl rfl rfl rfl) (fun _ _ _ _ h => h)) (pa_cons (pe_ix (ixL (K := K) rfl) (pv 1) pe_int (fun _ _ => rfl)) (pa_cons (pe_ix (ixL (K := K) rfl) (pv 1) pe_int (fun _ _ => rfl)) (pa_cons (pe_ix (ixL (K := K) rfl) (pv 1) pe_int (fun _ _ => rfl)) (pa_cons pe_str (pa_cons pe_str pa_nil)))))))) pa_nil)))
    (pss_cons
    (ps_set (i := 7) nd rfl (Or.inr rfl) (pe_call D_oneL.ok (hr.mono (by decide)) (by rfl) D_oneL.g D_oneL.kp D_oneL.b .nil pass0 (pa_cons (pv 0) (pa_cons (pe_lst (pa_cons pe_non (pa_cons pe_int (pa_cons pe_str (pa_cons pe_str (pa_cons (pe_callTy call_list_of (by rfl) Z.z_list (by decide +kernel) (pa_cons (pv 1) pa_nil)) (pa_cons (pe_ix ix_list (pv 1) pe_int (fun _ _ => rfl)) (pa_cons pe_dnewK (pa_cons pe_bl (pa_cons (StX.pe_makeR Y.MC Y.FI (hr.mono (by decide)) rfl Y.hC pass0 (pa_cons pe_str pa_nil)) (pa_cons (pe_disp (pps_cons pe_str pe_int pps_nil) (by rfl) (by rfl) (fun z => by cases z) (by decide)) pa_nil))))))))))) pa_nil))))
    (pss_cons
    (ps_expr (pe_bm PySem.F.plainAttrs_list PySem.F.slot_list_append PySem.F.type_list_append mt_append (pv 6) (pa_cons (pe_met (k := 9) (T := T) (P := Pt) (c := c) (qn := qn) D_met Y.M (by exact hq) (by rfl) (by exact TB) (by exact hcode) (by exact hqn) (by exact hm1) (by exact hu1) (hr.mono (by decide)) (by exact LamX.lamS_by (sc := defScope s_made) (by decide +kernel)) (by rfl) (fun _ _ _ _ _ => rfl) (fun A outer s H E f c2 hr2 => (ClX.pe_cmeth (pe_glob (v := .ref C) rfl Y.hC rfl) Y.cr Y.cm Y.FOX (hr2.mono (by decide)) (passes_call (takes_of rfl rfl rfl rfl) (fun _ _ _ _ h => h)) (pa_cons (pv 7) pa_nil)))) pa_nil)))
    (pss_one
    (ps_ret (pe_and (pe_cmpR (op_eqD hu) (pv 6) (pe_op op_rep (pe_lst (pa_cons pe_str pa_nil)) pe_int) (nomark _)) (pe_one (pe_cmpR op_eq (pe_met (k := 9) (T := T) (P := Pt) (c := c) (qn := qn) D_met Y.M (by exact hq) (by rfl) (by exact TB) (by exact hcode) (by exact hqn) (by exact hm1) (by exact hu1) (hr.mono (by decide)) (by exact LamX.lamS_by (sc := defScope s_made) (by decide +kernel)) (by rfl) (fun _ _ _ _ _ => rfl) (fun A outer s H E f c2 hr2 => (ClX.pe_cmeth (pe_glob (v := .ref C) rfl Y.hC rfl) Y.cr Y.cm Y.FO (hr2.mono (by decide)) pass0 (pa_cons (pe_callTy (tupOfK (K := K) rfl) (by rfl) Z.z_tuple (by decide +kernel) (pa_cons (pe_op op_cat (pv 1) (pe_lst (pa_cons pe_str pa_nil))) pa_nil)) pa_nil)))) pe_str (nomark _))))))))))))))))), ?_⟩
    refine ⟨3, rfl, by omega, by omega, fun D2 nD => ?_⟩
    have ne := dice_ne hD nD
    refine lc_range (lo := 0) (n := 3) (fun i H2 => Chg d H H2 ∧ Dice H2 d ∧ ∃ ps : List Part, H2 D2 = some (.lst (pV ps)) ∧ ps.length = i ∧ ∀ p ∈ ps, Ok p)
      ⟨(Chg.refl d H).new nD, hD.new nD, [], upd_same, rfl, fun _ h => by cases h⟩ (fun i H2 hi hP => ?_) (fun H2 hP => ?_)
    · obtain ⟨c2, D2', ps, hy, hl, hok⟩ := hP
      refine ⟨rfl, _, rfl, d, rfl, D2', fun H3 pt ch D3 hpt => ?_⟩
      have e3 : H3 D2 = some (.lst (pV ps)) := ch _ _ ne.symm hy
      refine ⟨_, e3, by rw [pV_len]; exact small1000 (by omega), ?_⟩
      refine ⟨fun x o nx e => ?_, ?_, ps ++ [pt], ?_, ?_, ?_⟩
      · rw [upd_ne (ne_of_none e nD)]
        exact (c2.trans ch) _ _ nx e
      · obtain ⟨a, b, c', ed, B⟩ := D3
        exact ⟨a, b, c', by rw [upd_ne ne]; exact ed, B⟩
      · rw [upd_same]
        unfold pV
        rw [List.map_append]
        rfl
      · rw [List.length_append, hl]
        rfl
      · intro y hy'
        rcases List.mem_append.mp hy' with hy' | hy'
        · exact hok y hy'
        · rw [List.mem_singleton.mp hy']
          exact hpt
    obtain ⟨c2, D2', ps, hy, hl, hok⟩ := hP
    refine ⟨_, rfl, d, rfl, D2', fun H3 bad c3 D3 hbad => ⟨by show 2 ≤ sizeLine; decide, fun tp ntp => ⟨tp, _, rfl, .of upd_same, rfl, _, _, rfl, _, _, rfl, rfl, ?_⟩⟩⟩
    obtain ⟨q1, q2, q3, rfl⟩ : ∃ q1 q2 q3, ps = [q1, q2, q3] := by
      match ps, hl with
      | [a, b, c], _ => exact ⟨a, b, c, rfl⟩
    generalize hps : [q1, q2, q3] = ps at *
    have s4 := same_new (o := .tup [V.ref D2, bad]) ntp
    have c4 : Chg d H (upd H3 tp (.tup [V.ref D2, bad])) := c2.trans (c3.trans (.of s4))
    have D4 := D3.keep s4
    have hy4 : (upd H3 tp (.tup [V.ref D2, bad])) D2 = some (.lst (pV ps)) := s4 _ _ (c3 _ _ ne.symm hy)
    have bad4 := hbad.same s4
    generalize upd H3 tp (.tup [V.ref D2, bad]) = H4 at s4 c4 D4 hy4 bad4 ⊢
    dsimp only
    have T4 := tabs_chg c4 hD hT
    refine asgS (fun v H' => ∃ r : Nat, v = .int r ∧ r < 4 ∧ Chg d H4 H' ∧ Dice H' d) (fun Q' k => ⟨_, rfl, d, 4, rfl, D4, by omega, by decide, fun H' r c D' r0 r1 => k _ _ ⟨r.toNat, by rw [Int.toNat_of_nonneg r0], by omega, c, D'⟩⟩) (fun v H5 hP => ?_)
    obtain ⟨r, rfl, hr4, c5, D5⟩ := hP
    have hy5 := c5 _ _ ne.symm hy4
    obtain ⟨da, db, dc, hd4, _⟩ := id D4
    have bad5 := bad4.chg c5 hd4
    have T5 := tabs_chg c5 D4 T4
    refine asgS (fun v H' => ∃ rw ys, v = .ref rw ∧ H' rw = some (.tup ys) ∧ ys.length ≤ 100 ∧ (∀ y ∈ ys, y = bad ∨ y ∈ pV ps) ∧ bad ∈ ys ∧ Same H5 H') (fun Q' k => ?_) (fun v H6 hP => ?_)
    · refine ⟨_, rfl, _, rfl, r, rfl, D2, _, rfl, .of hy5, fun p1 n1 => ?_⟩
      have a1 := same_new (o := .lst (cutV (pV ps) none (some (r : Int)))) n1
      have g1 : (upd H5 p1 (.lst (cutV (pV ps) none (some (r : Int))))) p1 = some (.lst (cutV (pV ps) none (some (r : Int)))) := upd_same
      generalize upd H5 p1 (.lst (cutV (pV ps) none (some (r : Int)))) = G1 at a1 g1 ⊢
      refine ⟨_, rfl, by show 1 ≤ sizeLine; decide, fun p2 n2 => ⟨p1, p2, _, _, rfl, rfl, same_new n2 _ _ g1, upd_same, ?_, fun p3 n3 => ?_⟩⟩
      · have := cutV_length (pV ps) none (some (r : Int))
        rw [pV_len, hl] at this
        exact Nat.le_of_lt (small1000 (by show _ + 1 ≤ 1000; omega))
      have a2 := (same_new (o := .lst [bad]) n2).trans (same_new (o := .lst (cutV (pV ps) none (some (r : Int)) ++ [bad])) n3)
      have g3 : (upd (upd G1 p2 (.lst [bad])) p3 (.lst (cutV (pV ps) none (some (r : Int)) ++ [bad]))) p3 = some (.lst (cutV (pV ps) none (some (r : Int)) ++ [bad])) := upd_same
      generalize upd (upd G1 p2 (.lst [bad])) p3 (.lst (cutV (pV ps) none (some (r : Int)) ++ [bad])) = G3 at a2 g3 ⊢
      refine ⟨_, rfl, _, rfl, r, rfl, D2, _, rfl, .of (a2 _ _ (a1 _ _ hy5)), fun p4 n4 => ⟨p3, p4, _, _, rfl, rfl, same_new n4 _ _ g3, upd_same, ?_, fun p5 n5 => ⟨p5, _, rfl, .inl ⟨.of upd_same, fun rw nrw => k _ _ ⟨rw, _, rfl, upd_same, ?_, fun y hy => ?_, ?_, ?_⟩⟩⟩⟩⟩
      · have h1 := cutV_length (pV ps) none (some (r : Int))
        have h2 := cutV_length (pV ps) (some (r : Int)) none
        rw [pV_len, hl] at h1 h2
        rw [List.length_append, List.length_singleton]
        exact Nat.le_of_lt (small1000 (by omega))
      · have h1 := cutV_length (pV ps) none (some (r : Int))
        have h2 := cutV_length (pV ps) (some (r : Int)) none
        rw [pV_len, hl] at h1 h2
        rw [List.length_append, List.length_append, List.length_singleton]
        omega
      · rcases List.mem_append.mp hy with hy | hy
        · rcases List.mem_append.mp hy with hy | hy
          · exact .inr (cutV_mem hy)
          · exact .inl (List.mem_singleton.mp hy)
        · exact .inr (cutV_mem hy)
      · exact List.mem_append_left _ (List.mem_append_right _ List.mem_cons_self)
      · exact a1.trans (a2.trans ((same_new n4).trans ((same_new n5).trans (same_new nrw))))
    obtain ⟨rw, ys, rfl, hrw, hyl, hys, hbi, s6⟩ := hP
    have hy6 := s6 _ _ hy5
    have D6 := D5.keep s6
    have T6 := T5.ext s6
    have bad6 := bad5.same s6
    have nrd : rw ≠ d := fun z => by
      obtain ⟨x, y, z', e, _⟩ := D6
      rw [z, e] at hrw
      cases hrw
    obtain ⟨ea, eb, ec, hd6, _⟩ := id D6
    have c46 : Chg d H H6 := c4.trans (c5.trans (.of s6))
    have part : ∀ (H' : Hp) (y : V), y ∈ pV ps → PartOr C d H' y := fun H' y h => by
      obtain ⟨p, hp, rfl⟩ := List.mem_map.mp h
      exact .inl ⟨p, rfl, hok p hp⟩
    refine asgS (fun v H' => ∃ tl, v = .ref tl ∧ (∀ b o, H6 b = some o → (∀ ps, o ≠ .tbl ps) → b ≠ tl) ∧ tl ≠ d ∧ Lv d tl T H6 H' 1) (fun Q' k => ?_) (fun v H7 hP => ?_)
    · refine ⟨T6, fun H1 e1 T1 => ?_⟩
      have D1 := K05.Dice.ext e1 D6
      have b1 := bad6.chn (Chn.ext e1) hd6
      refine ⟨_, rfl, fun x dx nx ndx _ => mk_bad (d := d) D1 (badP_of Y.ck Y.ks (by show 1 ≤ 100; decide) (fun y hy => .inr (by rw [List.mem_singleton.mp hy]; exact b1)) (.inr ⟨_, List.mem_cons_self, b1⟩)) (fun H2 c2 D2' => .inl ⟨rfl, rfl, by show 1 ≤ sizeLine; decide, fun tl ntl => k _ _ ⟨tl, rfl, fun b o e t => ?_, ?_, fun b o n1 e t => ?_, ?_, ?_, upd_same⟩⟩) x dx nx ndx⟩
      · intro z
        by_cases n : b = d
        · exact dice_ne D2' ntl (by rw [← n]; exact z)
        · have q := c2 b o n (e1 b o e t)
          rw [z, ntl] at q
          cases q
      · exact (dice_ne D2' ntl).symm
      · by_cases z : b = tl
        · have q := c2 b o n1 (e1 b o e t)
          rw [z, ntl] at q
          cases q
        · rw [upd_ne z]
          exact c2 _ _ n1 (e1 _ _ e t)
      · exact D2'.new ntl
      · exact (tabs_chg c2 D1 T1).ext (same_new ntl)
    obtain ⟨tl, rfl, ntl, ntd, hL⟩ := hP
    have nD2 : D2 ≠ d := ne.symm
    have lnt : ∀ {xs : List V} (qs : Array Value), HO.lst xs ≠ .tbl qs := fun _ z => by cases z
    have tnt : ∀ {xs : List V} (qs : Array Value), HO.tup xs ≠ .tbl qs := fun _ z => by cases z
    -- Cutter(parts[0], bad)
    refine lv_step ntl ntd rfl (by decide) hL (fun H1 E Q' e1 D1 T1 k => ?_) (fun H8 hL8 => ?_)
    · have cc : Chn d H6 H1 := hL.1.trans (.ext e1)
      have b1 := bad6.chn cc hd6
      have y1 := cc _ _ nD2 hy6 lnt
      refine ⟨_, rfl, D2, _, (0 : Nat), .str q1.text, rfl, rfl, .of y1, by rw [← hps]; exact atI_nat rfl, _, rfl, fun x dx nx ndx _ => mk_bad (d := d) D1 (badP_of Y.ck Y.ks (by show 2 ≤ 100; decide) (fun y hy => ?_) (.inr ⟨bad, by simp, b1⟩)) k x dx nx ndx⟩
      rcases List.mem_cons.mp hy with rfl | hy
      · exact part _ _ (by rw [← hps]; exact List.mem_cons_self)
      · rw [List.mem_singleton.mp hy]
        exact .inr b1
    -- Cutter.of(row)
    refine lv_step ntl ntd rfl (by decide) hL8 (fun H1 E Q' e1 D1 T1 k => ?_) (fun H9 hL9 => ?_)
    · have cc : Chn d H6 H1 := hL8.1.trans (.ext e1)
      have b1 := bad6.chn cc hd6
      refine ⟨rfl, _, rfl, .ref rw, rfl, .inr ⟨rw, ys, rfl, cc _ _ nrd hrw tnt, badP_of Y.ck Y.ks hyl (fun y hy => ?_) (.inr ⟨bad, hbi, b1⟩)⟩, fun H2 s2 => k H2 (.of s2) (D1.keep s2)⟩
      rcases hys y hy with rfl | h
      · exact .inr b1
      · exact part _ _ h
    -- Cutter(bad, parts[0], another)
    refine lv_step ntl ntd rfl (by decide) hL9 (fun H1 E Q' e1 D1 T1 k => ?_) (fun H10 hL10 => ?_)
    · have cc : Chn d H6 H1 := hL9.1.trans (.ext e1)
      have b1 := bad6.chn cc hd6
      have y1 := cc _ _ nD2 hy6 lnt
      refine ⟨_, rfl, _, rfl, D2, _, (0 : Nat), .str q1.text, rfl, rfl, .of y1, by rw [← hps]; exact atI_nat rfl, _, rfl, d, rfl, D1, fun H2 v c2 D2' hv x dx nx ndx _ => mk_bad (d := d) D2' (badP_of Y.ck Y.ks (by show 3 ≤ 100; decide) (fun y hy => ?_) (.inr ⟨v, by simp, hv⟩)) (fun H3 c3 D3 => k H3 (c2.trans c3) D3) x dx nx ndx⟩
      obtain ⟨_, _, _, hd1, _⟩ := id D1
      rcases List.mem_cons.mp hy with rfl | hy
      · exact .inr (b1.chg c2 hd1)
      · rcases List.mem_cons.mp hy with rfl | hy
        · exact part _ _ (by rw [← hps]; exact List.mem_cons_self)
        · rw [List.mem_singleton.mp hy]
          exact .inr hv
    -- Cutter.of(tuple(parts + parts[:2]))
    refine lv_step ntl ntd rfl (by decide) hL10 (fun H1 E Q' e1 D1 T1 k => ?_) (fun H11 hL11 => ?_)
    · have cc : Chn d H6 H1 := hL10.1.trans (.ext e1)
      have y1 := cc _ _ nD2 hy6 lnt
      refine ⟨rfl, _, rfl, _, rfl, (2 : Nat), rfl, D2, _, rfl, .of y1, fun p1 n1 => ⟨D2, p1, _, _, rfl, rfl, same_new n1 _ _ y1, upd_same, ?_, fun p2 n2 => ⟨p2, _, rfl, .inl ⟨.of upd_same, fun r2 nr2 => ⟨.ref r2, rfl, .inr ⟨r2, _, rfl, upd_same, badP_of (d := d) Y.ck Y.ks ?_ (fun y hy => ?_) (.inl ?_)⟩, fun H2 s2 => ?_⟩⟩⟩⟩⟩
      · rw [pV_len, ← hps, cutV_to (by rw [pV_len]; show 2 ≤ 3; decide)]
        show 3 + 2 ≤ sizeLine
        decide
      · rw [List.length_append, pV_len, ← hps, cutV_to (by rw [pV_len]; show 2 ≤ 3; decide)]
        show 3 + 2 ≤ 100
        decide
      · rcases List.mem_append.mp hy with hy | hy
        · exact part _ _ hy
        · exact part _ _ (cutV_mem hy)
      · rw [List.length_append, pV_len, ← hps, cutV_to (by rw [pV_len]; show 2 ≤ 3; decide)]
        show 4 < 3 + 2
        decide
      · have sx := (same_new n1).trans ((same_new n2).trans ((same_new nr2).trans s2))
        exact k H2 (.of sx) (D1.keep sx)
    -- five parts
    refine lv_step ntl ntd rfl (by decide) hL11 (fun H1 E Q' e1 D1 T1 k => ?_) (fun H12 hL12 => ?_)
    · have cc : Chn d H6 H1 := hL11.1.trans (.ext e1)
      have y1 := cc _ _ nD2 hy6 lnt
      refine ⟨_, rfl, D2, _, (0 : Nat), .str q1.text, rfl, rfl, .of y1, by rw [← hps]; exact atI_nat rfl, _, rfl, D2, _, (1 : Nat), .str q2.text, rfl, rfl, .of y1, by rw [← hps]; exact atI_nat rfl, _, rfl, D2, _, (2 : Nat), .str q3.text, rfl, rfl, .of y1, by rw [← hps]; exact atI_nat rfl,
        fun x dx nx ndx _ => mk_bad (d := d) D1 (badP_of (d := d) Y.ck Y.ks (by show 5 ≤ 100; decide) (fun y hy => ?_) (.inl (by show 4 < 5; decide))) k x dx nx ndx⟩
      have pa : PartOr C d H1 (.str "all") := .inl ⟨.all, rfl, True.intro⟩
      simp only [List.mem_cons, List.not_mem_nil, or_false] at hy
      rcases hy with rfl | rfl | rfl | rfl | rfl
      · exact part _ _ (by rw [← hps]; simp [pV])
      · exact part _ _ (by rw [← hps]; simp [pV])
      · exact part _ _ (by rw [← hps]; simp [pV])
      · exact pa
      · exact pa
    dsimp only
    refine asgS (fun v H' => NoTup C d H' v ∧ Lv d tl T H6 H' 6) (fun Q' k => ?_) (fun odd H13 hP => ?_)
    · have y12 := hL12.1 _ _ nD2 hy6 lnt
      have D12 := hL12.2.1
      refine ⟨_, rfl, _, rfl, D2, _, rfl, .inl (.of y12), fun l1 m1 => ?_⟩
      have a1 := same_new (o := .lst (pV ps)) m1
      have b1 : (upd H12 l1 (.lst (pV ps))) l1 = some (.lst (pV ps)) := upd_same
      have u1 := dice_ne D12 m1
      generalize upd H12 l1 (.lst (pV ps)) = G1 at a1 b1 ⊢
      refine ⟨_, rfl, D2, _, (0 : Nat), .str q1.text, rfl, rfl, .of (a1 _ _ y12), by rw [← hps]; exact atI_nat rfl, fun t3 m3 => ?_⟩
      have a2 := same_new (o := .dK []) m3
      have b3 : (upd G1 t3 (.dK [])) t3 = some (HO.dK []) := upd_same
      have u3 := dice_ne (D12.keep a1) m3
      generalize upd G1 t3 (.dK []) = G2 at a2 b3 ⊢
      have c2 := a1.trans a2
      intro x dx nx ndx hne
      have u5 := dice_ne (D12.keep c2) nx
      refine ⟨x, dx, [Part.all], rfl, upd_same, fun p hp => by cases List.mem_singleton.mp hp; exact True.intro, by decide, fun G3 ch cx => ⟨rfl, fun t4 m4 => ?_⟩⟩
      have a3 : Same G2 G3 := fun b o e => by
        refine ch b o (ne_of_none e nx) ?_
        rw [upd_ne (ne_of_none e nx), upd_ne (ne_of_none e ndx)]
        exact e
      have c3 := c2.trans a3
      refine ⟨upd_same, [(.inr "all", .int 1)], rfl, by decide, ?_⟩
      have a4 : Same G3 (upd (upd G3 t4 (.dK [])) t4 (.dK (mergeK [] [(.inr "all", .int 1)]))) := same_set (same_new m4) m4
      have b4 : (upd (upd G3 t4 (.dK [])) t4 (.dK (mergeK [] [(.inr "all", .int 1)]))) t4 = some (HO.dK (mergeK [] [(.inr "all", .int 1)])) := upd_same
      have u4 := dice_ne (D12.keep c3) m4
      generalize upd (upd G3 t4 (.dK [])) t4 (.dK (mergeK [] [(.inr "all", .int 1)])) = G4 at a4 b4 ⊢
      have c4 := c3.trans a4
      refine ⟨by show 10 ≤ sizeLine; decide, fun p np => ?_⟩
      have fin := c4.trans (same_new (o := .lst [V.non, .int 0, .str "all", .str "..", .ref l1, .str q1.text, .ref t3, .bl true, .ref x, .ref t4]) np)
      have af := same_new (o := .lst [V.non, .int 0, .str "all", .str "..", .ref l1, .str q1.text, .ref t3, .bl true, .ref x, .ref t4]) np
      refine ⟨d, p, _, rfl, D12.keep fin, (dice_ne (D12.keep c4) np).symm, .of upd_same, by show 0 < 10; decide, by show 10 < 1000; decide, fun H' v ch' D' mem => k v H' ⟨?_, hL12.chg ntd (Chg.trans (.of fin) ch') D'⟩⟩
      obtain ⟨_, _, _, hdd, _⟩ := D12.keep fin
      refine NoTup.chn (.of ch') hdd ?_
      have w (a : Addr) (n : d ≠ a) (h : (∃ xs, G4 a = some (.lst xs)) ∨ (∃ kvs, G4 a = some (.dK kvs)) ∨ ∃ ps, CutAt C G4 a ps) : NoTup C d (upd G4 p (.lst [V.non, .int 0, .str "all", .str "..", .ref l1, .str q1.text, .ref t3, .bl true, .ref x, .ref t4])) (.ref a) := by
        refine .inr (.inr (.inr (.inr ⟨a, rfl, n.symm, ?_⟩)))
        rcases h with ⟨ys, h⟩ | ⟨ys, h⟩ | ⟨ps, h⟩
        · exact .inl ⟨ys, af _ _ h⟩
        · exact .inr (.inl ⟨ys, af _ _ h⟩)
        · exact .inr (.inr ⟨ps, h.same af⟩)
      simp only [List.mem_cons, List.not_mem_nil, or_false] at mem
      rcases mem with rfl | rfl | rfl | rfl | rfl | rfl | rfl | rfl | rfl | rfl
      · exact .inr (.inl rfl)
      · exact .inr (.inr (.inr (.inl ⟨_, rfl⟩)))
      · exact .inl ⟨_, rfl⟩
      · exact .inl ⟨_, rfl⟩
      · exact w _ u1 (.inl ⟨_, (a2.trans (a3.trans a4)) _ _ b1⟩)
      · exact .inl ⟨_, rfl⟩
      · exact w _ u3 (.inr (.inl ⟨_, (a3.trans a4) _ _ b3⟩))
      · exact .inr (.inr (.inl ⟨_, rfl⟩))
      · exact w _ u5 (.inr (.inr ⟨_, cx.same a4⟩))
      · exact w _ u4 (.inr (.inl ⟨_, b4⟩))
    obtain ⟨hodd, hL13⟩ := hP
    -- Cutter.of(odd)
    refine lv_step ntl ntd rfl (by decide) hL13 (fun H1 E Q' e1 D1 T1 k => ?_) (fun H14 hL14 => ?_)
    · obtain ⟨_, _, _, hdd, _⟩ := id hL13.2.1
      exact ⟨rfl, _, rfl, odd, rfl, .inl ((hodd.chn (Chn.ext e1) hdd).is Y.ck Y.kt), fun H2 s2 => k H2 (.of s2) (D1.keep s2)⟩
    obtain ⟨cc, D14, T14, hl14⟩ := hL14
    refine ⟨_, rfl, by show 1 ≤ sizeLine; decide, fun l1 m1 => ⟨l1, 7, _, rfl, rfl, upd_same, by decide, by decide, by show 1 * 7 ≤ sizeLine; decide, fun l2 m2 => ?_⟩⟩
    have a1 := (same_new (o := .lst [V.str "cutter"]) m1).trans (same_new (o := .lst (List.replicate (7 : Int).toNat [V.str "cutter"]).flatten) m2)
    refine ⟨.list (List.replicate 7 (.str "cutter")), .list (List.replicate 7 (.str "cutter")), .lst (.of (a1 _ _ hl14)) ?_, .lst (.of upd_same) ?_, by decide +kernel, by decide +kernel, ?_⟩
    · exact .cons (.str _) (.cons (.str _) (.cons (.str _) (.cons (.str _) (.cons (.str _) (.cons (.str _) (.cons (.str _) .nil))))))
    · exact .cons (.str _) (.cons (.str _) (.cons (.str _) (.cons (.str _) (.cons (.str _) (.cons (.str _) (.cons (.str _) .nil))))))
    generalize upd (upd H14 l1 (.lst [V.str "cutter"])) l2 (.lst (List.replicate (7 : Int).toNat [V.str "cutter"]).flatten) = G at a1 ⊢
    have DG := D14.keep a1
    have TG := T14.ext a1
    have yG := a1 _ _ (cc _ _ nD2 hy6 lnt)
    have cG : Chn d H G := (Chn.of c46).trans (cc.trans (.same a1))
    refine ⟨_, rfl, ?_⟩
    rw [show (PyData.list (List.replicate 7 (PyData.str (Str.ofString "cutter")))).eqv (PyData.list (List.replicate 7 (PyData.str (Str.ofString "cutter")))) = true from by decide +kernel]
    refine ifT rfl ?_
    refine ⟨TG, fun H1 e1 T1 => ?_⟩
    have y1 := e1 _ _ yG lnt
    have D1 := K05.Dice.ext e1 DG
    refine ⟨rfl, _, rfl, by show 1 ≤ sizeLine; decide, fun p1 n1 => ⟨D2, p1, _, _, rfl, rfl, same_new n1 _ _ y1, upd_same, ?_, fun p2 n2 => ⟨p2, _, rfl, .inl ⟨.of upd_same, fun r2 nr2 => ⟨r2, ps ++ [.all], rfl, ?_, fun p hp => ?_, ?_, fun H2 x s2 nx cx => ?_⟩⟩⟩⟩⟩
    · rw [pV_len, hl]
      show 3 + 1 ≤ sizeLine
      decide
    · rw [upd_same]
      unfold pV
      rw [List.map_append]
      rfl
    · rcases List.mem_append.mp hp with hp | hp
      · exact hok p hp
      · rw [List.mem_singleton.mp hp]
        exact True.intro
    · rw [List.length_append, hl]
      decide
    have sx := (same_new n1).trans ((same_new n2).trans ((same_new nr2).trans s2))
    refine ⟨rfl, ?_⟩
    rw [decide_eq_true rfl]
    exact q H2 (cG.trans ((Chn.ext e1).trans (.same sx))) (D1.keep sx) (T1.ext sx)
end
end K05
set_option Elab.async false
set_option linter.all false
set_option maxRecDepth 100000
set_option maxHeartbeats 4000000
/-! own layer: x op y, x an instance whose class tells op, y of a built-in type (also one that stands in the heap) -/
namespace PySem.LO
open PySem PySem.W PySem.Calls PyProof.Rows
variable {prog : Program} {w : World} {A : Around} {E : Value → Shared → Prop} {s : Shared} {K : Frag} {x C L f : Addr} {h₀ : Heap} {m : Str → Option Value} {ox : Obj} {od : Option Obj} {T : String}
/-- what the written part must say of the type T, so that op asks the left one alone -/
structure Mild (K : Frag) (C : Addr) (op : Operator) (T : String) : Prop where
  l : (findIn K (.type T) (PySem.dunder op.info.2)).isSome = true
  r : (findIn K (.type T) (dunderR op.info.2)).isSome = true
  s : subIn K (.type T) (.ref C) = some false
theorem bin_any {op : Operator} {b : Value} {rc : Option Value} {Q : Value → Shared → Prop} (F : Fr h₀ L s.heap m) (X₀ : K.In h₀) (I : InstAt s.heap x ox C od) (hb : Looks (model prog w) s.heap (typeOf b) (.type T)) (hc : selfFirst K C = true)
    (hs : findIn K (.ref C) (PySem.dunder op.info.2) = some (some (.ref f))) (hf : isFn K (.ref f) = true) (hr : findIn K (.ref C) (dunderR op.info.2) = some rc) (hp : rc = none ∨ ∃ g : Addr, rc = some (.ref g)) (M : Mild K C op T)
    (h : wpAny (model prog w) A (call (.ref f) [.ref x, b]) (PySem.W.CmpBack Q) E s) : wpAny (model prog w) A (binaryOp op (.ref x) b) Q E s := by
  obtain ⟨fo, h1⟩ := Option.isSome_iff_exists.mp M.l
  obtain ⟨ro, h2⟩ := Option.isSome_iff_exists.mp M.r
  have hsub := M.s
  have X := X₀.keeps F.keep
  obtain ⟨cd, rest, hcd, hm⟩ := ksp_first hc
  obtain ⟨sym, nm, hi⟩ : ∃ sym nm, op.info = (sym, nm) := ⟨_, _, rfl⟩
  rw [hi] at hs hr h1 h2
  dsimp only at hs hr h1 h2
  have tried := ksp_try X I hs hf h
  obtain ⟨hh, g, d, tt, os⟩ := s
  have tx : Looks (model prog w) hh (typeOf (.ref x)) (.ref C) := I.type
  have tb : Looks (model prog w) hh (typeOf b) (.type T) := hb
  have fx : Looks (model prog w) hh (fillsNumberSlot (.ref C) nm) true := fills_K X hcd hm hs
  obtain ⟨right, fb⟩ : ∃ right, Looks (model prog w) hh (fillsNumberSlot (.type T) nm) right := ⟨_, ksp_fillsT X h1 h2⟩
  have sb : Looks (model prog w) hh (isSubtype (.type T) (.ref C)) false := looks_subIn X hsub
  have px : Looks (model prog w) hh (numberSlotInPython (.ref C) nm) true := ksp_inPy X hs hr hp
  have pb : Looks (model prog w) hh (numberSlotInPython (.type T) nm) false := Looks.of_pure rfl
  have lb : Looks (model prog w) hh (typeLookup (.type T) (dunderR nm)) ro := looks_findIn X h2
  have ne : (Value.ref C == Value.type T) = false := Bool.eq_false_iff.mpr fun q => by cases beq_iff_eq.mp q
  have fin : ∀ {r : Option Value} {s' : Shared}, (∃ v, r = some v ∧ Q v s') → ∃ v, r = some v ∧ Q v s' := id
  simp only [binaryOp, hi]
  refine wpAny_holding (wpAny_bind ?_)
  unfold binaryOp1
  refine wpAny_bind (tx.at (wpAny_bind (tb.at (wpAny_bind (fx.at ?_)))))
  simp only [ne, Bool.false_eq_true, if_false]
  cases right
  all_goals
    ksp_lk
    refine wpAny_mono tried (fun r s' z => ?_) fun _ _ e => e
    obtain ⟨v, rfl, q⟩ := fin z
    ksp_lk
    exact q
end PySem.LO
namespace Ly
open PySem PySem.Spec PyProof.Rows L2
section
variable {X : Cx} {CX : CXT} {k : Nat} {g C : Addr} {sp : Sp} {E : XK}
/-- an instance of the class at C, and any value of a built-in type -/
def rOpM (K : PySem.W.Frag) (C : Addr) (op : Operator) (sp : Sp) (E : XK) : R2 := fun x y H Q => ∃ a dx fs T, x = .ref a ∧ H a = some (.ins C dx fs) ∧ TyX K H y (.type T) ∧ PySem.LO.Mild K C op T ∧ sp [.ref a, y] H (fun v H' => (∃ p, v = .ref p) ∧ Q v H') E
theorem op_ownM {op : Operator} {rc : Option Value} (hs : PySem.W.findIn X.K (.ref C) (PySem.dunder op.info.2) = some (some (.ref g))) (hf : PySem.W.isFn X.K (.ref g) = true) (hc : PySem.W.selfFirst X.K C = true) (hrc : PySem.W.findIn X.K (.ref C) (dunderR op.info.2) = some rc) (hp : rc = none ∨ ∃ g : Addr, rc = some (.ref g))
    (F : FnR X.prog X.w X.K X.mg X.base CX k g sp) (hr : Room k X.A) (hx : Passes CX X E) : OpR X (binaryOp op) (rOpM X.K C op sp E) := by
  intro pins s σ H x y u v Q I rx ry h
  obtain ⟨a, dx, fs, T, rfl, ea, ty, M, q⟩ := h
  obtain rfl : u = Value.ref a := rx
  obtain ⟨ox, od, J⟩ := ins_inst I ea
  obtain ⟨Pk, Z, hP, _⟩ := kit_of I ry ty
  obtain ⟨m, hF⟩ := I.fr
  refine PySem.LO.bin_any hF I.ok.mod.kin J (Z.ty _ _ I.kIn hP) hc hs hf hrc hp M ?_
  refine wpAny_mono (run_fnRA (us := [.ref a, v]) (vs := [.ref a, y]) F hr rfl hx I (.cons rfl (.cons ry .nil)) q) (fun v s' z => ?_) fun _ _ z => z
  obtain ⟨w, H', I', rw_, ⟨p, rfl⟩, q'⟩ := z
  obtain rfl : v = Value.ref p := rw_
  exact ⟨.ref p, H', I', rfl, q'⟩
end
end Ly

set_option Elab.async false
set_option linter.all false
set_option maxRecDepth 100000
set_option maxHeartbeats 4000000
/-! what cutters tell, as data that repr and == see -/
namespace Cut
open PySem PySem.Spec PyProof.Rows L2 Ly
theorem log_small {i : Int} (h : i.natAbs < 2 ^ 1900) : i.natAbs.log2 < 1920 := by
  by_cases h0 : i.natAbs = 0
  · rw [h0]
    decide
  · exact Nat.lt_of_lt_of_le ((Nat.log2_lt h0).mpr h) (by decide)
theorem rpAll_iV {H : Hp} : ∀ l : List Nat, (∀ i ∈ l, i ≤ 2000) → RpAll H (l.map fun (i : Nat) => PyData.int (i : Int)) (iV l)
  | [], _ => rfl
  | i :: l, h => by
    refine ⟨.int i, iV l, rfl, ⟨rfl, log_small ?_⟩, rpAll_iV l fun j hj => h j (List.mem_cons_of_mem _ hj)⟩
    have h1 := h i List.mem_cons_self
    have h2 : (2000 : Nat) < 2 ^ 1900 := by decide +kernel
    rw [Int.natAbs_natCast]
    omega
theorem rp_iV {H : Hp} {q : Addr} {l : List Nat} (e : H q = some (.tup (iV l))) (h : ∀ i ∈ l, i ≤ 2000) : Rp H (dI l) (.ref q) := ⟨q, iV l, rfl, e, rpAll_iV l h⟩
theorem bulk_ints : ∀ l : List Nat, PyData.bulkAll (l.map fun (i : Nat) => PyData.int (i : Int)) = l.length
  | [] => rfl
  | i :: l => by
    show 0 + 1 + PyData.bulkAll (l.map fun (i : Nat) => PyData.int (i : Int)) = l.length + 1
    rw [bulk_ints l]
    omega
theorem bulk_dI (l : List Nat) : (dI l).bulk = l.length := bulk_ints l
theorem depth_dI (l : List Nat) : (dI l).depth = 1 := by
  show PyData.depthAll (l.map fun (i : Nat) => PyData.int (i : Int)) + 1 = 1
  rw [(shp_ints l).2]
/-- the parts as data -/
def dP (ps : List Part) : List PyData := ps.map fun p => PyData.str p.text
theorem rpAll_pV {H : Hp} : ∀ ps : List Part, (∀ p ∈ ps, Ok p) → RpAll H (dP ps) (pV ps)
  | [], _ => rfl
  | p :: ps, h => ⟨.str p.text, pV ps, rfl, ⟨rfl, text_cs (h p List.mem_cons_self)⟩, rpAll_pV ps fun q hq => h q (List.mem_cons_of_mem _ hq)⟩
theorem bulk_dP : ∀ ps : List Part, (∀ p ∈ ps, Ok p) → PyData.bulkAll (dP ps) ≤ 11 * ps.length
  | [], _ => Nat.le_refl _
  | p :: ps, h => by
    have h1 := text_len (h p List.mem_cons_self)
    have h2 := bulk_dP ps fun q hq => h q (List.mem_cons_of_mem _ hq)
    show p.text.cps.size + 1 + PyData.bulkAll (dP ps) ≤ 11 * (ps.length + 1)
    have h3 : p.text.cps.size ≤ 10 := h1
    omega
theorem depth_dP : ∀ ps : List Part, PyData.depthAll (dP ps) = 0
  | [] => rfl
  | p :: ps => by
    show max 0 (PyData.depthAll (dP ps)) = 0
    rw [depth_dP ps]
    rfl
theorem text_pt {p : Part} (h : Ok p) : p.text.cps.all (· < 0x110000) = true := by
  rw [← Array.all_toList, List.all_eq_true]
  intro c hc
  cases p with
  | all =>
    have : ∀ c ∈ (Part.text .all).cps.toList, decide (c < 0x110000) = true := by decide +kernel
    exact this c hc
  | pat f b =>
    rcases (pat_facts h).cs c hc with e | e | e <;> rw [e] <;> decide
theorem canLay_dP : ∀ ps : List Part, (∀ p ∈ ps, Ok p) → PyData.canLayAll0 (dP ps) = true
  | [], _ => rfl
  | p :: ps, h => by
    show (PyData.strOk p.text && PyData.canLayAll0 (dP ps)) = true
    rw [canLay_dP ps fun q hq => h q (List.mem_cons_of_mem _ hq), Bool.and_true]
    exact text_pt (h p List.mem_cons_self)
theorem shp_list {ds : List PyData} (h : PyData.canLayAll0 ds = true) (hd : PyData.depthAll ds = 0) : SeqAt.shaped (.list ds) = true := by
  show (PyData.canLayAll0 ds && decide (PyData.depthAll ds + 1 ≤ 64)) = true
  rw [h, hd]
  rfl
theorem dpAll_pV {K : PySem.W.Frag} {H : Hp} : ∀ ps : List Part, DpAll K H (pV ps) (dP ps)
  | [] => .nil
  | p :: ps => .cons (.str _) (dpAll_pV ps)
theorem eqv_empty (ds : List PyData) : PyData.eqv (.list ds) (.list []) = ds.isEmpty := by cases ds <;> rfl
/-! ### texts of cutters -/
theorem join_len (sep : Str) : ∀ xs : List Str, (Str.join sep xs).length ≤ (xs.map fun x => x.length + sep.length).sum
  | [] => Nat.zero_le _
  | [x] => by
    show x.length ≤ x.length + sep.length + 0
    omega
  | x :: y :: r => by
    have h := join_len sep (y :: r)
    show (x ++ sep ++ Str.join sep (y :: r) : Str).length ≤ _
    rw [← str_len, app_cps, app_cps, List.length_append, List.length_append, str_len, str_len, str_len, List.map_cons, List.sum_cons]
    omega
theorem join_mem (sep : Str) : ∀ (xs : List Str) (c : Nat), c ∈ (Str.join sep xs).cps.toList → c ∈ sep.cps.toList ∨ ∃ x ∈ xs, c ∈ x.cps.toList
  | [], c, h => absurd (show c ∈ ([] : List Nat) from h) List.not_mem_nil
  | [x], c, h => .inr ⟨x, List.mem_cons_self, h⟩
  | x :: y :: r, c, h => by
    have h' : c ∈ (x ++ sep ++ Str.join sep (y :: r) : Str).cps.toList := h
    rw [app_cps, app_cps, List.mem_append, List.mem_append] at h'
    rcases h' with (h' | h') | h'
    · exact .inr ⟨x, List.mem_cons_self, h'⟩
    · exact .inl h'
    · rcases join_mem sep (y :: r) c h' with h' | ⟨z, hz, h'⟩
      · exact .inl h'
      · exact .inr ⟨z, List.mem_cons_of_mem _ hz, h'⟩
theorem cutText_cs {ps : List Part} (h : ∀ p ∈ ps, Ok p) : ∀ c ∈ (cutText ps).cps.toList, c < 16 ^ 8 := by
  intro c hc
  unfold cutText at hc
  by_cases e : ps = []
  · rw [if_pos e] at hc
    have : ∀ c ∈ (Str.ofString "all").cps.toList, c < 16 ^ 8 := by decide +kernel
    exact this c hc
  · rw [if_neg e, show Txt.join " > " (ps.map Part.text) = Str.join " > " (ps.map Part.text) from StrLaws.glued_eq_join _ _] at hc
    rcases join_mem _ _ _ hc with hc | ⟨x, hx, hc⟩
    · have : ∀ c ∈ (Str.ofString " > ").cps.toList, c < 16 ^ 8 := by decide +kernel
      exact this c hc
    · obtain ⟨p, hp, rfl⟩ := List.mem_map.mp hx
      exact text_cs (h p hp) c hc
theorem cutText_len {ps : List Part} (h : ∀ p ∈ ps, Ok p) (hl : ps.length ≤ 4) : (cutText ps).length ≤ 60 := by
  unfold cutText
  by_cases e : ps = []
  · rw [if_pos e]
    decide +kernel
  · rw [if_neg e, show Txt.join " > " (ps.map Part.text) = Str.join " > " (ps.map Part.text) from StrLaws.glued_eq_join _ _]
    refine Nat.le_trans (join_len _ _) ?_
    have e3 : (Str.ofString " > ").length = 3 := by decide +kernel
    have hb : ∀ l : List Part, (∀ p ∈ l, Ok p) → ((l.map Part.text).map fun x => x.length + 3).sum ≤ 13 * l.length := by
      intro l
      induction l with
      | nil => intro _; exact Nat.le_refl _
      | cons a l ih =>
        intro h
        have h1 := text_len (h a List.mem_cons_self)
        have h2 := ih fun p hp => h p (List.mem_cons_of_mem _ hp)
        rw [List.map_cons, List.map_cons, List.sum_cons, List.length_cons]
        omega
    have := hb ps h
    show ((ps.map Part.text).map fun x => x.length + (Str.ofString " > ").length).sum ≤ 60
    rw [e3]
    omega
theorem join_size {ps : List Part} (h : ∀ p ∈ ps, Ok p) (hl : ps.length ≤ 4) : ((ps.map Part.text).map fun x => x.length).sum + (ps.map Part.text).length * (Str.ofString " > ").length ≤ 16777216 := by
  have hb : ∀ l : List Part, (∀ p ∈ l, Ok p) → ((l.map Part.text).map fun x => x.length).sum ≤ 10 * l.length := by
    intro l
    induction l with
    | nil => intro _; exact Nat.le_refl _
    | cons a l ih =>
      intro h
      have h1 := text_len (h a List.mem_cons_self)
      have h2 := ih fun p hp => h p (List.mem_cons_of_mem _ hp)
      rw [List.map_cons, List.map_cons, List.sum_cons, List.length_cons]
      omega
  have h1 := hb ps h
  have e3 : (Str.ofString " > ").length = 3 := by decide +kernel
  rw [List.length_map, e3]
  omega
/-! ### rows of small data -/
theorem rpAll_append {H : Hp} : ∀ {ds : List PyData} {xs : List V} {es : List PyData} {ys : List V}, RpAll H ds xs → RpAll H es ys → RpAll H (ds ++ es) (xs ++ ys)
  | [], xs, es, ys, h, k => by
    have h' : xs = [] := h
    subst h'
    exact k
  | d :: ds, xs, es, ys, h, k => by
    obtain ⟨x, r, rfl, h1, h2⟩ := (show ∃ x r, xs = x :: r ∧ Rp H d x ∧ RpAll H ds r from h)
    exact ⟨x, r ++ ys, rfl, h1, rpAll_append h2 k⟩
theorem rpAll_len {H : Hp} : ∀ {ds : List PyData} {xs : List V}, RpAll H ds xs → ds.length = xs.length
  | [], xs, h => by
    have h' : xs = [] := h
    subst h'
    rfl
  | d :: ds, xs, h => by
    obtain ⟨x, r, rfl, h1, h2⟩ := (show ∃ x r, xs = x :: r ∧ Rp H d x ∧ RpAll H ds r from h)
    rw [List.length_cons, List.length_cons, rpAll_len h2]
theorem rpAll_get {H : Hp} : ∀ {ds : List PyData} {xs : List V} (i : Nat), RpAll H ds xs → (∃ d x, ds[i]? = some d ∧ xs[i]? = some x ∧ Rp H d x) ∨ (ds[i]? = none ∧ xs[i]? = none)
  | [], xs, i, h => by
    have h' : xs = [] := h
    subst h'
    exact .inr ⟨rfl, rfl⟩
  | d :: ds, xs, i, h => by
    obtain ⟨x, r, rfl, h1, h2⟩ := (show ∃ x r, xs = x :: r ∧ Rp H d x ∧ RpAll H ds r from h)
    cases i with
    | zero => exact .inl ⟨d, x, rfl, rfl, h1⟩
    | succ i => exact rpAll_get i h2
theorem rpAll_sel {H : Hp} {ds : List PyData} {xs : List V} (h : RpAll H ds xs) : ∀ l : List Nat, RpAll H (l.filterMap fun i => ds[i]?) (l.filterMap fun i => xs[i]?)
  | [] => rfl
  | i :: l => by
    rw [List.filterMap_cons, List.filterMap_cons]
    rcases rpAll_get i h with ⟨d, x, e1, e2, h1⟩ | ⟨e1, e2⟩
    · rw [e1, e2]
      exact ⟨x, _, rfl, h1, rpAll_sel h l⟩
    · rw [e1, e2]
      exact rpAll_sel h l
theorem rpAll_run {H : Hp} {ds : List PyData} {xs : List V} (ps : List Part) (h : RpAll H ds xs) : RpAll H (run ps ds) (run ps xs) := by
  rw [run_get, run_get, rpAll_len h]
  exact rpAll_sel h _
/-- small data -/
def Sm (ds : List PyData) : Prop := ∀ e ∈ ds, e.bulk ≤ 3 ∧ e.depth ≤ 1
theorem Sm.bulk : ∀ {ds : List PyData}, Sm ds → PyData.bulkAll ds ≤ 4 * ds.length
  | [], _ => Nat.le_refl _
  | d :: ds, h => by
    have h1 := (h d List.mem_cons_self).1
    have h2 := Sm.bulk fun e he => h e (List.mem_cons_of_mem _ he)
    show d.bulk + 1 + PyData.bulkAll ds ≤ 4 * (ds.length + 1)
    omega
theorem Sm.depth : ∀ {ds : List PyData}, Sm ds → PyData.depthAll ds ≤ 1
  | [], _ => Nat.zero_le _
  | d :: ds, h => by
    have h1 := (h d List.mem_cons_self).2
    have h2 := Sm.depth fun e he => h e (List.mem_cons_of_mem _ he)
    show max d.depth (PyData.depthAll ds) ≤ 1
    omega
theorem Sm.run {ds : List PyData} (h : Sm ds) (ps : List Part) : Sm (run ps ds) := fun e he => h e (run_sub ps ds e he)
/-- a row of small data, whatever the dice do -/
def RowD (d : Addr) (H : Hp) (xs : List V) (ds : List PyData) : Prop := Sm ds ∧ ∀ H', Chg d H H' → RpAll H' ds xs
theorem RowD.mono {d : Addr} {H H1 : Hp} {xs : List V} {ds : List PyData} (h : RowD d H xs ds) (c : Chg d H H1) : RowD d H1 xs ds := ⟨h.1, fun H' c' => h.2 H' (c.trans c')⟩
theorem RowD.snoc {d : Addr} {H : Hp} {xs : List V} {ds : List PyData} {x : V} {e : PyData} (h : RowD d H xs ds) (hb : e.bulk ≤ 3) (hd : e.depth ≤ 1) (k : ∀ H', Chg d H H' → Rp H' e x) : RowD d H (xs ++ [x]) (ds ++ [e]) := by
  refine ⟨fun y hy => ?_, fun H' c => rpAll_append (h.2 H' c) ⟨x, [], rfl, k H' c, rfl⟩⟩
  rcases List.mem_append.mp hy with hy | hy
  · exact h.1 y hy
  · rw [List.mem_singleton.mp hy]
    exact ⟨hb, hd⟩
/-- .. and whatever the list does in which the row is gathered -/
def Chg2 (d L : Addr) (H H' : Hp) : Prop := ∀ b o, b ≠ d → b ≠ L → H b = some o → H' b = some o
theorem Chg2.trans {d L : Addr} {H H1 H2 : Hp} (a : Chg2 d L H H1) (b : Chg2 d L H1 H2) : Chg2 d L H H2 := fun x o n m h => b x o n m (a x o n m h)
theorem Chg2.of {d L : Addr} {H H' : Hp} (c : Chg d H H') : Chg2 d L H H' := fun x o n _ h => c x o n h
theorem Chg2.upd {d L : Addr} {H H' : Hp} {o : HO} (c : Chg2 d L H H') : Chg2 d L H (L2.upd H' L o) := fun x u n m h => by
  rw [upd_ne m]
  exact c x u n m h
def RowL (d L : Addr) (H : Hp) (xs : List V) (ds : List PyData) : Prop := Sm ds ∧ ∀ H', Chg2 d L H H' → RpAll H' ds xs
theorem RowL.row {d L : Addr} {H : Hp} {xs : List V} {ds : List PyData} (h : RowL d L H xs ds) : RowD d H xs ds := ⟨h.1, fun H' c => h.2 H' (.of c)⟩
theorem RowL.mono {d L : Addr} {H H1 : Hp} {xs : List V} {ds : List PyData} (h : RowL d L H xs ds) (c : Chg2 d L H H1) : RowL d L H1 xs ds := ⟨h.1, fun H' c' => h.2 H' (c.trans c')⟩
theorem RowL.snoc {d L : Addr} {H : Hp} {xs : List V} {ds : List PyData} {x : V} {e : PyData} (h : RowL d L H xs ds) (hb : e.bulk ≤ 3) (hd : e.depth ≤ 1) (k : ∀ H', Chg2 d L H H' → Rp H' e x) : RowL d L H (xs ++ [x]) (ds ++ [e]) := by
  refine ⟨fun y hy => ?_, fun H' c => rpAll_append (h.2 H' c) ⟨x, [], rfl, k H' c, rfl⟩⟩
  rcases List.mem_append.mp hy with hy | hy
  · exact h.1 y hy
  · rw [List.mem_singleton.mp hy]
    exact ⟨hb, hd⟩
/-- the parts that are not all -/
theorem noAll (ps : List Part) : (ps.filter fun p => !decide (p = .all)).isEmpty = keepsAll ps := by
  induction ps with
  | nil => rfl
  | cons p ps ih =>
    show _ = (decide (p = .all) && keepsAll ps)
    rw [List.filter_cons]
    by_cases h : p = .all
    · rw [decide_eq_true h, Bool.true_and, ← ih]
      rfl
    · rw [decide_eq_false h, Bool.false_and]
      rfl
theorem places_zero (ps : List Part) : places ps 0 = [] := List.eq_nil_of_length_eq_zero (Nat.le_zero.mp (places_len ps 0))
theorem places_one (ps : List Part) : places ps 1 = [] ∨ places ps 1 = [0] := by
  have hl := places_len ps 1
  have hlt := fun i (h : i ∈ places ps 1) => places_lt h
  generalize places ps 1 = l at hl hlt
  match l, hl, hlt with
  | [], _, _ => exact .inl rfl
  | [i], _, hlt =>
    have := hlt i List.mem_cons_self
    have e : i = 0 := by omega
    subst e
    exact .inr rfl
  | _ :: _ :: _, hl, _ =>
    simp only [List.length_cons] at hl
    omega
end Cut

set_option Elab.async false
set_option linter.all false
set_option maxRecDepth 100000
set_option maxHeartbeats 8000000
namespace K05
open PySem PySem.Spec PyProof.Rows L2 Ly Cut

set_option maxHeartbeats 400000
abbrev s_asked : Stmt := topS 38
abbrev N_asked : List Str := ["_law_dice_here", "_law_parts_here", "_law_cutter", "_law_odd", "_law_told", "_law_row", "_law_many"]
abbrev P_asked : List Str := ["_law_dice_here"]
theorem sc_asked : FnScope N_asked P_asked (defScope s_asked) := ⟨rfl, rfl, rfl, by decide +kernel, rfl, by decide +kernel, by decide +kernel⟩

section
theorem opMK {X : Cx} {K : PySem.W.Frag} {CX : CXT} {k : Nat} {g C : Addr} {sp : Sp} {E : XK} {op : Operator} {rc : Option Value} (hK : X.K = K) (hs : PySem.W.findIn K (.ref C) (PySem.dunder op.info.2) = some (some (.ref g))) (hf : PySem.W.isFn K (.ref g) = true) (hc : PySem.W.selfFirst K C = true) (hrc : PySem.W.findIn K (.ref C) (dunderR op.info.2) = some rc) (hp : rc = none ∨ ∃ g : Addr, rc = some (.ref g))
    (F : FnR X.prog X.w X.K X.mg X.base CX k g sp) (hr : Room k X.A) (hx : Passes CX X E) : OpR X (binaryOp op) (rOpM K C op sp E) := by
  subst hK
  exact op_ownM hs hf hc hrc hp F hr hx
/-- f(e, ..), f an expression that gives an instance of C: said without the context -/
def tCallI (C : Addr) (sp : Sp) (E : XK) (tf : TE) (t : TA) : TE := fun σ H Q => tf σ H fun y H1 => ∃ a, y = V.ref a ∧ t σ H1 fun vs H2 => ((∃ dx vs, SlX.Slt H2 a C dx vs) ∨ ∃ dx fs, H2 a = some (.ins C dx fs)) ∧ sp (V.ref a :: vs) H2 Q E
theorem pe_callI {X : Cx} {CX : CXT} {k : Nat} {g C : Addr} {sp : Sp} {E : XK} {fe e : Expr} {es : List Expr} {tf : TE} {t : TA} {pos : Pos} (hf : PE X fe tf) (c : StX.CallO X.K C g) (F : FnR X.prog X.w X.K X.mg X.base CX k g sp) (hr : Room k X.A) (hx : Passes CX X E) (ha : PA X (e :: es) t)
    (ht : eval (.Call fe (e :: es) [] pos) X.env = (do callWith pos (← eval fe X.env) [] (backTo pos (starEach (e :: es) X.env)) (backToKw pos (keywordEach [] X.env))) := by rfl)
    (he : starEach (e :: es) X.env = (false, eval e X.env) :: starEach es X.env := by rfl) (hpl : (backTo pos (starEach es X.env)).any (·.1) = false := by rfl) : PE X (.Call fe (e :: es) [] pos) (tCallI C sp E tf t) := StX.pe_callO hf c F hr hx ha ht he hpl
/-- a value that is no cutter where a cutter is asked -/
def spWrong (K : PySem.W.Frag) (C CI : Addr) : Sp := fun vs H _ E => ∃ (x : Addr) (v : V) (t : Value), vs = [.ref x, v] ∧ TyX K H v t ∧ PySem.W.kitOne K t (.ref C) = some false ∧ E (.ref CI) none H
/-- what is known of the cutters' methods -/
structure Ya (P : Program) (w : World) (K : PySem.W.Frag) (mg : Str → Option Value) (base : Heap) (C CC CO CN : Addr) (fW fP fN fc fR pQ fQ : Addr) (dW dP dN dQ : FuncData) (rc : Option Value) : Prop where
  meW : Meth K C "is_within" fW
  okW : FnOk P w K mg base (L2.CX P w) 2 fW dW P_within (spWrong K C CC)
  bW : Binds K dW P_within []
  meP : Meth K C "parting" fP
  okP : FnOk P w K mg base (L2.CX P w) 2 fP dP P_parting (spWrong K C CC)
  bP : Binds K dP P_parting []
  meN : Meth K C "places" fN
  okN : FnOk P w K mg base (L2.CX P w) 5 fN dN P_places (spPlacesX K CN)
  bN : Binds K dN P_places []
  cO : StX.CallO K C fc
  FC : FnR P w K mg base CX0 4 fc (spCutCall C)
  FCX : FnR P w K mg base (L2.CX P w) 5 fc (spCallX K CO)
  hs : PySem.W.findIn K (.ref C) (PySem.dunder Operator.RShift.info.2) = some (some (.ref fR))
  hf : PySem.W.isFn K (.ref fR) = true
  hc : PySem.W.selfFirst K C = true
  hrc : PySem.W.findIn K (.ref C) (dunderR Operator.RShift.info.2) = some rc
  hp : rc = none ∨ ∃ g : Addr, rc = some (.ref g)
  FR : FnR P w K mg base (L2.CX P w) 2 fR (spWrong K C CC)
  pr : PropOf K C "parts" pQ fQ
  okQ : FnOk P w K mg base CX0 1 fQ dQ P_parts (spParts C)
  bQ : Binds K dQ P_parts []
  mild : ∀ T ∈ ["str", "NoneType", "bool", "int", "list", "dict", "tuple"], PySem.LO.Mild K C .RShift T ∧ PySem.W.kitOne K (.type T) (.ref C) = some false
theorem eqv_self : ∀ ds : List PyData, (∀ d ∈ ds, PyData.eqv d d = true) → PyData.eqvAll ds ds = true
  | [], _ => rfl
  | d :: ds, h => by
    show (PyData.eqv d d && PyData.eqvAll ds ds) = true
    rw [h d List.mem_cons_self, eqv_self ds fun x hx => h x (List.mem_cons_of_mem _ hx)]
    rfl
theorem shp_tupP {ps : List Part} (h : ∀ p ∈ ps, Ok p) : SeqAt.shaped (.tuple (dP ps)) = true := by
  show (PyData.canLayAll0 (dP ps) && decide (PyData.depthAll (dP ps) + 1 ≤ 64)) = true
  rw [canLay_dP ps h, depth_dP]
  rfl
theorem eqv_dP (ps : List Part) : PyData.eqv (.tuple (dP ps)) (.tuple (dP ps)) = true := by
  refine eqv_self _ fun d hd => ?_
  obtain ⟨p, _, rfl⟩ := List.mem_map.mp hd
  show (p.text == p.text) = true
  exact beq_self_eq_true _
/-- a row that is none, and stays none -/
def NoRow (C d : Addr) (H : Hp) (v : V) : Prop := NoTup C d H v ∨ ∃ a xs, v = .ref a ∧ a ≠ d ∧ H a = some (.tup xs) ∧ 1000 < xs.length
theorem NoRow.chn {C d : Addr} {H H1 : Hp} {v : V} {xs : List V} (c : Chn d H H1) (hd : H d = some (.lst xs)) (h : NoRow C d H v) : NoRow C d H1 v := by
  rcases h with h | ⟨a, ys, e, n, h, l⟩
  · exact .inl (h.chn c hd)
  · exact .inr ⟨a, ys, e, n, c _ _ n h (fun _ z => by cases z), l⟩
/-- a value that is no number of places, and stays none -/
def NumOdd (d : Addr) (H : Hp) (v : V) : Prop := v = .non ∨ (∃ b, v = .bl b) ∨ (∃ i, v = .int i ∧ i.natAbs.log2 < 1920 ∧ ¬ (0 ≤ i ∧ i ≤ 1000)) ∨ v = .str "1" ∨ ∃ a, v = .ref a ∧ a ≠ d ∧ (H a = some (.tup [.int 1]) ∨ H a = some (.lst [.int 1]) ∨ H a = some (.dK []))
theorem NumOdd.chn {d : Addr} {H H1 : Hp} {v : V} (c : Chn d H H1) (h : NumOdd d H v) : NumOdd d H1 v := by
  rcases h with h | h | h | h | ⟨a, e, n, h⟩
  · exact .inl h
  · exact .inr (.inl h)
  · exact .inr (.inr (.inl h))
  · exact .inr (.inr (.inr (.inl h)))
  · refine .inr (.inr (.inr (.inr ⟨a, e, n, ?_⟩)))
    rcases h with h | h | h
    · exact .inl (c _ _ n h (fun _ z => by cases z))
    · exact .inr (.inl (c _ _ n h (fun _ z => by cases z)))
    · exact .inr (.inr (c _ _ n h (fun _ z => by cases z)))
theorem NumOdd.is {K : PySem.W.Frag} {d : Addr} {H : Hp} {v : V} (h : NumOdd d H v) : ∃ dt : PyData, Wv H dt v ∧ ((∃ (t : String) (b1 b2 : Bool), Ly.TyB K H v t ∧ kitB t "int" = some b1 ∧ (b1 = true → kitB t "bool" = some b2) ∧ (b1 && !b2) = false) ∨ ∃ i : Int, v = .int i ∧ ¬ (0 ≤ i ∧ i ≤ 1000)) := by
  have one : Paired Fl [PyData.int 1] [V.int 1] := .cons (.int 1 (by decide +kernel)) .nil
  rcases h with rfl | ⟨b, rfl⟩ | ⟨i, rfl, h1, h2⟩ | rfl | ⟨a, rfl, n, h⟩
  · exact ⟨.none, .inl .non, .inl ⟨"NoneType", false, false, .base .non, by decide +kernel, (fun z => nomatch z), rfl⟩⟩
  · exact ⟨.bool b, .inl (.bl b), .inl ⟨"bool", true, true, .base (.bl b), by decide +kernel, fun _ => by decide +kernel, rfl⟩⟩
  · exact ⟨.int i, .inl (.int i h1), .inr ⟨i, rfl, h2⟩⟩
  · exact ⟨.str "1", .inl (.str "1" (by decide +kernel) (by decide +kernel)), .inl ⟨"str", false, false, .base (.str _), by decide +kernel, (fun z => nomatch z), rfl⟩⟩
  · rcases h with h | h | h
    · exact ⟨.tuple [.int 1], .inr (.inl ⟨a, _, _, rfl, rfl, h, one, by decide⟩), .inl ⟨"tuple", false, false, .base (.tup h), by decide +kernel, (fun z => nomatch z), rfl⟩⟩
    · exact ⟨.list [.int 1], .inr (.inr (.inl ⟨a, _, _, rfl, rfl, h, one, by decide⟩)), .inl ⟨"list", false, false, .base (.lst h), by decide +kernel, (fun z => nomatch z), rfl⟩⟩
    · exact ⟨.dict [], .inr (.inr (.inr (.inl ⟨a, rfl, rfl, h⟩))), .inl ⟨"dict", false, false, .base (.dK h), by decide +kernel, (fun z => nomatch z), rfl⟩⟩
/-- a list of one told error -/
theorem lv_init {CC CO CN d : Addr} {T : List (Addr × Str)} {H6 : Hp} {te : XK → TE} {σ : L2.St} {Q : VK} (T6 : LamX.Tabs T H6) (D6 : Dice H6 d)
    (h : ∀ (H1 : Hp) (E : XK) (Q : VK), LamX.ExtN H6 H1 → Dice H1 d → LamX.Tabs T H1 → (∀ H2, Chg d H1 H2 → Dice H2 d → E (.ref CC) none H2) → te E σ H1 Q)
    (k : ∀ tl H', (∀ b o, H6 b = some o → (∀ ps, o ≠ .tbl ps) → b ≠ tl) → tl ≠ d → Lv d tl T H6 H' 1 → Q (.ref tl) H') : tLst (tCons (LamX.tLam T (TMet CC CO CN) te) tNil) σ H6 Q := by
  refine ⟨T6, fun H1 e1 T1 => ?_⟩
  have D1 := K05.Dice.ext e1 D6
  refine h H1 _ _ e1 D1 T1 fun H2 c2 D2' => .inl ⟨rfl, rfl, by show 1 ≤ sizeLine; decide, fun tl ntl => k tl _ (fun b o e t => ?_) ?_ ⟨fun b o n1 e t => ?_, ?_, ?_, upd_same⟩⟩
  · intro z
    by_cases n : b = d
    · exact dice_ne D2' ntl (by rw [← n]; exact z)
    · have q := c2 b o n (e1 b o e t)
      rw [z, ntl] at q
      cases q
  · exact (dice_ne D2' ntl).symm
  · by_cases z : b = tl
    · have q := c2 b o n1 (e1 b o e t)
      rw [z, ntl] at q
      cases q
    · rw [upd_ne z]
      exact c2 _ _ n1 (e1 _ _ e t)
  · exact D2'.new ntl
  · exact (tabs_chg c2 D1 T1).ext (same_new ntl)
/-- a value that is no cutter, and stays none -/
def NoCut (d : Addr) (H : Hp) (v : V) : Prop := (∃ z, v = .str z) ∨ v = .non ∨ (∃ b, v = .bl b) ∨ (∃ i, v = .int i) ∨ ∃ a, v = .ref a ∧ a ≠ d ∧ ((∃ xs, H a = some (.lst xs)) ∨ (∃ kvs, H a = some (.dK kvs)) ∨ ∃ xs, H a = some (.tup xs))
theorem NoCut.chn {d : Addr} {H H1 : Hp} {v : V} (c : Chn d H H1) (h : NoCut d H v) : NoCut d H1 v := by
  rcases h with h | h | h | h | ⟨a, e, n, h⟩
  · exact .inl h
  · exact .inr (.inl h)
  · exact .inr (.inr (.inl h))
  · exact .inr (.inr (.inr (.inl h)))
  · refine .inr (.inr (.inr (.inr ⟨a, e, n, ?_⟩)))
    rcases h with ⟨ys, h⟩ | ⟨ys, h⟩ | ⟨ps, h⟩
    · exact .inl ⟨ys, c _ _ n h (fun _ z => by cases z)⟩
    · exact .inr (.inl ⟨ys, c _ _ n h (fun _ z => by cases z)⟩)
    · exact .inr (.inr ⟨ps, c _ _ n h (fun _ z => by cases z)⟩)
/-- the types of such values -/
def mildT : List String := ["str", "NoneType", "bool", "int", "list", "dict", "tuple"]
theorem NoCut.is {K : PySem.W.Frag} {C d : Addr} {H : Hp} {v : V} (M : ∀ T ∈ mildT, PySem.LO.Mild K C .RShift T ∧ PySem.W.kitOne K (.type T) (.ref C) = some false) (h : NoCut d H v) : ∃ T : String, TyX K H v (.type T) ∧ PySem.LO.Mild K C .RShift T ∧ PySem.W.kitOne K (.type T) (.ref C) = some false := by
  rcases h with ⟨z, rfl⟩ | rfl | ⟨b, rfl⟩ | ⟨i, rfl⟩ | ⟨a, rfl, n, h⟩
  · exact ⟨_, .base (.str z), M _ (by simp [mildT])⟩
  · exact ⟨_, .base .non, M _ (by simp [mildT])⟩
  · exact ⟨_, .base (.bl b), M _ (by simp [mildT])⟩
  · exact ⟨_, .base (.int i), M _ (by simp [mildT])⟩
  · rcases h with ⟨ys, h⟩ | ⟨ys, h⟩ | ⟨ps, h⟩
    · exact ⟨_, .base (.lst h), M _ (by simp [mildT])⟩
    · exact ⟨_, .base (.dK h), M _ (by simp [mildT])⟩
    · exact ⟨_, .base (.tup h), M _ (by simp [mildT])⟩
variable {P : Program} {w : World} {K : PySem.W.Frag} {mg : Str → Option Value} {base : Heap} {f C CC CO CN CM CL fi fo pm : Addr} {mc : Value} {fd : FuncData} {fW fP fN fc fR pQ fQ : Addr} {dW dP dN dQ : FuncData} {rc : Option Value}
theorem ok_asked {T : List (Addr × Str)} {c Pt : Addr} (Z : Zs mg) (D : Df K mg "_law_asked_right" s_asked P_asked f fd) (Y : Yc P w K mg base C CC CO CN CM CL fi fo pm mc) (A : Ya P w K mg base C CC CO CN fW fP fN fc fR pQ fQ dW dP dN dQ rc) {f1 f2 f3 f5 : Addr} {d1 d2 d3 d5 : FuncData}
    (D_roll : Cl P w K mg base "_law_roll" 1 f1 d1 P_roll spRoll) (D_oneL : Cl P w K mg base "_law_one_of" 2 f2 d2 P_one_of (spOneL K)) (D_lparts : Cl P w K mg base "_law_parts" 5 f3 d3 P_lparts spLParts)
    (D_met : Df K mg "_law_met" s_met P_met f5 d5) (TB : LamX.TabB base mg c Pt) (hcd : codeVal K f = some (.ref c)) {qn : Str} (hqn : ("_law_asked_right" : Str) ++ ".<locals>." = qn) (hm1 : (Pt, qn ++ "<lambda>") ∈ T) (hu1 : ∀ p ∈ T, p.1 = Pt → p.2 = qn ++ "<lambda>") :
    FnG P w K mg base CX0 12 f (spMade T) := by
  refine fnG_ofC D.F hcd sc_asked D.b (fun vs H Q E h => ?_) (fun A' outer s H vs Q E hr hq h => ?_)
  · obtain ⟨d, rfl, _⟩ := h
    rfl
  · obtain ⟨d, rfl, hD, hT, q⟩ := h
    have nd := sc_asked.nd
    have hu : (A'.deeper (envOfC "_law_asked_right" (defScope s_asked) s.heap.objs.size f (.ref c))).units + 64 < cLine := by
      have := hr.un
      omega
    have hcode : (Value.ref c) = .ref c := rfl
    refine ⟨_,
    (pss_cons
    (ps_set (i := 1) nd rfl (Or.inl rfl) (pe_call D_lparts.ok (hr.mono (by decide)) (by rfl) D_lparts.g D_lparts.kp D_lparts.b .nil pass0 (pa_cons (pv 0) (pa_cons pe_int pa_nil))))
    (pss_cons
    (ps_set (i := 2) nd rfl (Or.inr rfl) (ClX.pe_cmeth (pe_glob (v := .ref C) rfl Y.hC rfl) Y.cr Y.cm Y.FO (hr.mono (by decide)) pass0 (pa_cons (pe_callTy call_tuple_of (by rfl) Z.z_tuple (by decide +kernel) (pa_cons (pv 1) pa_nil)) pa_nil)))
    (pss_cons
    (ps_set (i := 3) nd rfl (Or.inr rfl) (pe_call D_oneL.ok (hr.mono (by decide)) (by rfl) D_oneL.g D_oneL.kp D_oneL.b .nil pass0 (pa_cons (pv 0) (pa_cons (pe_lst (pa_cons pe_non (pa_cons pe_int (pa_cons pe_str (pa_cons pe_str (pa_cons (pe_callTy call_tuple_of (by rfl) Z.z_tuple (by decide +kernel) (pa_cons (pv 1) pa_nil)) (pa_cons (pe_lst (pa_cons (pv 2) pa_nil)) (pa_cons (pe_tup (pa_cons (pv 2) pa_nil)) (pa_cons pe_dnewK (pa_cons pe_bl pa_nil)))))))))) pa_nil))))
    (pss_cons
    (ps_set (i := 4) nd rfl (Or.inl rfl) (pe_lst (pa_cons (pe_met (k := 9) (T := T) (P := Pt) (c := c) (qn := qn) D_met Y.M (by exact hq) (by rfl) (by exact TB) (by exact hcode) (by exact hqn) (by exact hm1) (by exact hu1) (hr.mono (by decide)) (by exact LamX.lamS_by (sc := defScope s_asked) (by decide +kernel)) (by rfl) (fun _ _ _ _ _ => rfl) (fun A2 outer s H E f c2 hr2 => (pe_meth (pv 2) Y.ck.cls A.meW A.okW (hr2.mono (by decide)) A.bW .nil (passes_call (takes_of rfl rfl rfl rfl) (fun _ _ _ _ h => h)) (pa_cons (pv 3) pa_nil)))) pa_nil)))
    (pss_cons
    (ps_expr (pe_bm PySem.F.plainAttrs_list PySem.F.slot_list_append PySem.F.type_list_append mt_append (pv 4) (pa_cons (pe_met (k := 9) (T := T) (P := Pt) (c := c) (qn := qn) D_met Y.M (by exact hq) (by rfl) (by exact TB) (by exact hcode) (by exact hqn) (by exact hm1) (by exact hu1) (hr.mono (by decide)) (by exact LamX.lamS_by (sc := defScope s_asked) (by decide +kernel)) (by rfl) (fun _ _ _ _ _ => rfl) (fun A2 outer s H E f c2 hr2 => (pe_meth (pv 2) Y.ck.cls A.meP A.okP (hr2.mono (by decide)) A.bP .nil (passes_call (takes_of rfl rfl rfl rfl) (fun _ _ _ _ h => h)) (pa_cons (pv 3) pa_nil)))) pa_nil)))
    (pss_cons
    (ps_expr (pe_bm PySem.F.plainAttrs_list PySem.F.slot_list_append PySem.F.type_list_append mt_append (pv 4) (pa_cons (pe_met (k := 9) (T := T) (P := Pt) (c := c) (qn := qn) D_met Y.M (by exact hq) (by rfl) (by exact TB) (by exact hcode) (by exact hqn) (by exact hm1) (by exact hu1) (hr.mono (by decide)) (by exact LamX.lamS_by (sc := defScope s_asked) (by decide +kernel)) (by rfl) (fun _ _ _ _ _ => rfl) (fun A2 outer s H E f c2 hr2 => (pe_op (opMK (K := K) (by rfl) A.hs A.hf A.hc A.hrc A.hp A.FR (hr2.mono (by decide)) (passes_call (takes_of rfl rfl rfl rfl) (fun _ _ _ _ h => h))) (pv 2) (pv 3)))) pa_nil)))
    (pss_cons
    (ps_if (pt_cmpR (op_neD hu) (pv 4) (pe_op op_rep (pe_lst (pa_cons pe_str pa_nil)) pe_int) (nomark _))
      (pss_one
      (ps_ret pe_bl))
      pss_nil)
    (pss_cons
    (ps_for PassesOwn.never rfl (pi_list (pe_slice sl_list (pe_lst (pa_cons pe_non (pa_cons (pe_lst pa_nil) (pa_cons (pe_lst (pa_cons pe_int (pa_cons pe_int pa_nil))) (pa_cons pe_str (pa_cons pe_dnewK (pa_cons pe_int (pa_cons pe_bl (pa_cons (pe_tupRg rfl (by rfl) Z.z_tuple (prg_1 (by rfl) Z.z_range pe_int)) (pa_cons (pv 2) pa_nil)))))))))) (po_some (pe_call D_roll.ok (hr.mono (by decide)) (by rfl) D_roll.g D_roll.kp D_roll.b .nil pass0 (pa_cons (pv 0) (pa_cons pe_int pa_nil)))) po_none)) (pg_name (i := 5) nd rfl (Or.inr rfl))
      (pss_one
      (ps_if (pt_cmpR op_ne (pe_met (k := 9) (T := T) (P := Pt) (c := c) (qn := qn) D_met Y.M (by exact hq) (by rfl) (by exact TB) (by exact hcode) (by exact hqn) (by exact hm1) (by exact hu1) (hr.mono (by decide)) (by exact LamX.lamS_by (sc := defScope s_asked) (by decide +kernel)) (by rfl) (fun _ _ _ _ _ => rfl) (fun A2 outer s H E f c2 hr2 => (pe_callI (pv 2) A.cO A.FCX (hr2.mono (by decide)) (passes_call (takes_of rfl rfl rfl rfl) (fun _ _ _ _ h => h)) (pa_cons (pv 5) pa_nil)))) pe_str (nomark _))
        (pss_one
        (ps_ret pe_bl))
        pss_nil)))
    (pss_cons
    (ps_for PassesOwn.never rfl (pi_list (pe_lst (pa_cons pe_non (pa_cons (pe_un un_neg pe_int) (pa_cons pe_int (pa_cons pe_bl (pa_cons pe_bl (pa_cons pe_str (pa_cons (pe_tup (pa_cons pe_int pa_nil)) (pa_cons (pe_lst (pa_cons pe_int pa_nil)) (pa_cons pe_dnewK (pa_cons (pe_op op_sub (pe_op op_powW pe_int pe_int) pe_int) (pa_cons (pe_op op_powW pe_int pe_int) (pa_cons (pe_un un_neg (pe_op op_powW pe_int pe_int)) pa_nil)))))))))))))) (pg_name (i := 6) nd rfl (Or.inr rfl))
      (pss_one
      (ps_if (pt_cmpR op_ne (pe_met (k := 9) (T := T) (P := Pt) (c := c) (qn := qn) D_met Y.M (by exact hq) (by rfl) (by exact TB) (by exact hcode) (by exact hqn) (by exact hm1) (by exact hu1) (hr.mono (by decide)) (by exact LamX.lamS_by (sc := defScope s_asked) (by decide +kernel)) (by rfl) (fun _ _ _ _ _ => rfl) (fun A2 outer s H E f c2 hr2 => (pe_meth (pv 2) Y.ck.cls A.meN A.okN (hr2.mono (by decide)) A.bN .nil (passes_call (takes_of rfl rfl rfl rfl) (fun _ _ _ _ h => h)) (pa_cons (pv 6) pa_nil)))) (pe_op op_add_str pe_str (pe_callB (call_reprV hq hu) (by rfl) Z.z_repr (by decide +kernel) (pa_cons (pv 6) pa_nil))) (nomark _))
        (pss_one
        (ps_ret pe_bl))
        pss_nil)))
    (pss_one
    (ps_ret (pe_and (pe_cmpR (op_eqD hu) (pe_prop (pv 2) Y.ck.cls A.pr A.okQ (hr.mono (by decide)) A.bQ .nil pass0 rfl) (pe_callTy call_tuple_of (by rfl) Z.z_tuple (by decide +kernel) (pa_cons (pv 1) pa_nil)) (nomark _)) (pe_one (pe_cmpR op_eq (pe_met (k := 9) (T := T) (P := Pt) (c := c) (qn := qn) D_met Y.M (by exact hq) (by rfl) (by exact TB) (by exact hcode) (by exact hqn) (by exact hm1) (by exact hu1) (hr.mono (by decide)) (by exact LamX.lamS_by (sc := defScope s_asked) (by decide +kernel)) (by rfl) (fun _ _ _ _ _ => rfl) (fun A2 outer s H E f c2 hr2 => (pe_callI (pv 2) A.cO A.FC (hr2.mono (by decide)) pass0 (pa_cons (pe_tupRg rfl (by rfl) Z.z_tuple (prg_1 (by rfl) Z.z_range pe_int)) pa_nil)))) pe_str (nomark _))))))))))))))), ?_⟩
    refine asgS (fun v H' => ∃ pa ps, v = .ref pa ∧ H' pa = some (.lst (pV ps)) ∧ (∀ p ∈ ps, Ok p) ∧ ps.length ≤ 2 ∧ Chg d H H' ∧ Dice H' d ∧ pa ≠ d) (fun Q' k => ⟨_, rfl, d, 2, rfl, hD, by decide, by decide, fun H' a ps c D' na ha hok hl => k _ _ ⟨a, ps, rfl, ha, hok, hl, c, D', (dice_ne hD na).symm⟩⟩) (fun v H1 hP => ?_)
    obtain ⟨pa, ps, rfl, hpa, hok, hl, c1, D1, npa⟩ := hP
    have T1 := tabs_chg c1 hD hT
    refine asgS (fun v H' => ∃ x, v = .ref x ∧ CutAt C H' x ps ∧ Same H1 H') (fun Q' k => ⟨rfl, _, rfl, pa, _, rfl, .inl ⟨.of hpa, fun t nt => ⟨t, ps, rfl, upd_same, hok, by omega, fun H' x s nx cx => k _ _ ⟨x, rfl, cx, (same_new nt).trans s⟩⟩⟩⟩) (fun v H2 hP => ?_)
    obtain ⟨x, rfl, cx2, s2⟩ := hP
    have D2 := D1.keep s2
    have T2 := T1.ext s2
    have hpa2 := s2 _ _ hpa
    refine asgS (fun v H' => NoCut d H' v ∧ Chg d H2 H' ∧ Dice H' d) (fun Q' k => ?_) (fun odd H3 hP => ?_)
    · refine ⟨_, rfl, _, rfl, pa, _, rfl, .inl ⟨.of hpa2, fun t1 m1 => ?_⟩⟩
      have a1 := same_new (o := .tup (pV ps)) m1
      have b1 : (upd H2 t1 (.tup (pV ps))) t1 = some (.tup (pV ps)) := upd_same
      have u1 := dice_ne D2 m1
      generalize upd H2 t1 (.tup (pV ps)) = G1 at a1 b1 ⊢
      refine ⟨_, rfl, by show 1 ≤ sizeLine; decide, fun t2 m2 => ?_⟩
      have a2 := same_new (o := .lst [V.ref x]) m2
      have b2 : (upd G1 t2 (.lst [V.ref x])) t2 = some (.lst [V.ref x]) := upd_same
      have u2 := dice_ne (D2.keep a1) m2
      generalize upd G1 t2 (.lst [V.ref x]) = G2 at a2 b2 ⊢
      refine ⟨_, rfl, by show 1 ≤ sizeLine; decide, fun t3 m3 => ?_⟩
      have a3 := same_new (o := .tup [V.ref x]) m3
      have b3 : (upd G2 t3 (.tup [V.ref x])) t3 = some (.tup [V.ref x]) := upd_same
      have u3 := dice_ne (D2.keep (a1.trans a2)) m3
      generalize upd G2 t3 (.tup [V.ref x]) = G3 at a3 b3 ⊢
      intro t4 m4
      have a4 := same_new (o := .dK []) m4
      have b4 : (upd G3 t4 (.dK [])) t4 = some (HO.dK []) := upd_same
      have u4 := dice_ne (D2.keep (a1.trans (a2.trans a3))) m4
      generalize upd G3 t4 (.dK []) = G4 at a4 b4 ⊢
      have c4 := a1.trans (a2.trans (a3.trans a4))
      refine ⟨by show 9 ≤ sizeLine; decide, fun p np => ?_⟩
      have af := same_new (o := .lst [V.non, .int 0, .str "all", .str "..+", .ref t1, .ref t2, .ref t3, .ref t4, .bl true]) np
      have fin := c4.trans af
      refine ⟨d, p, _, rfl, D2.keep fin, (dice_ne (D2.keep c4) np).symm, .of upd_same, by show 0 < 9; decide, by show 9 < 1000; decide, fun H' v ch' D' mem => k v H' ⟨?_, Chg.trans (.of fin) ch', D'⟩⟩
      refine NoCut.chn ((Chn.same af).trans (.of ch')) ?_
      have w' (a : Addr) (n : d ≠ a) (h : (∃ xs, G4 a = some (.lst xs)) ∨ (∃ kvs, G4 a = some (.dK kvs)) ∨ ∃ xs, G4 a = some (.tup xs)) : NoCut d G4 (.ref a) := .inr (.inr (.inr (.inr ⟨a, rfl, n.symm, h⟩)))
      simp only [List.mem_cons, List.not_mem_nil, or_false] at mem
      rcases mem with rfl | rfl | rfl | rfl | rfl | rfl | rfl | rfl | rfl
      · exact .inr (.inl rfl)
      · exact .inr (.inr (.inr (.inl ⟨_, rfl⟩)))
      · exact .inl ⟨_, rfl⟩
      · exact .inl ⟨_, rfl⟩
      · exact w' _ u1 (.inr (.inr ⟨_, (a2.trans (a3.trans a4)) _ _ b1⟩))
      · exact w' _ u2 (.inl ⟨_, (a3.trans a4) _ _ b2⟩)
      · exact w' _ u3 (.inr (.inr ⟨_, a4 _ _ b3⟩))
      · exact w' _ u4 (.inr (.inl ⟨_, b4⟩))
      · exact .inr (.inr (.inl ⟨_, rfl⟩))
    obtain ⟨hodd, c3, D3⟩ := hP
    obtain ⟨d2a, d2b, d2c, hd2, _⟩ := id D2
    have cx3 := cx2.chg c3 hd2
    have T3 := tabs_chg c3 D2 T2
    have hpa3 := c3 _ _ npa hpa2
    obtain ⟨d3a, d3b, d3c, hd3, _⟩ := id D3
    refine asgS (fun v H' => ∃ tl, v = .ref tl ∧ (∀ b o, H3 b = some o → (∀ ps, o ≠ .tbl ps) → b ≠ tl) ∧ tl ≠ d ∧ Lv d tl T H3 H' 1) (fun Q' k => lv_init T3 D3 (fun H1 E Q e1 D1 T1 kk => ?_) (fun tl H' n1 n2 n3 => k _ _ ⟨tl, rfl, n1, n2, n3⟩)) (fun v H4 hP => ?_)
    · obtain ⟨dx, p, t, ts, hx, _⟩ := (K05.CutAt.chn cx3 (Chn.ext (d := d) e1) hd3).ex
      obtain ⟨T', h1, h2, h3⟩ := (hodd.chn (Chn.ext e1)).is A.mild
      exact ⟨_, rfl, x, dx, _, rfl, hx, rfl, _, rfl, x, odd, _, rfl, h1, h3, kk _ (Chg.refl d _) D1⟩
    obtain ⟨tl, rfl, ntl, ntd, hL⟩ := hP
    dsimp only
    refine lv_step ntl ntd rfl (by decide) hL (fun H1 E Q' e1 D1 T1 kk => ?_) (fun H5 hL5 => ?_)
    · have cc : Chn d H3 H1 := hL.1.trans (.ext e1)
      obtain ⟨dx, p, t, ts, hx, _⟩ := (K05.CutAt.chn cx3 cc hd3).ex
      obtain ⟨T', h1, h2, h3⟩ := (hodd.chn cc).is A.mild
      exact ⟨_, rfl, x, dx, _, rfl, hx, rfl, _, rfl, x, odd, _, rfl, h1, h3, kk _ (Chg.refl d _) D1⟩
    refine lv_step ntl ntd rfl (by decide) hL5 (fun H1 E Q' e1 D1 T1 kk => ?_) (fun H6 hL6 => ?_)
    · have cc : Chn d H3 H1 := hL5.1.trans (.ext e1)
      obtain ⟨dx, p, t, ts, hx, _⟩ := (K05.CutAt.chn cx3 cc hd3).ex
      obtain ⟨T', h1, h2, h3⟩ := (hodd.chn cc).is A.mild
      exact ⟨_, rfl, _, rfl, x, dx, _, T', rfl, hx, h1, h2, x, odd, _, rfl, h1, h3, kk _ (Chg.refl d _) D1⟩
    dsimp only
    obtain ⟨cc6, D6, T6, hl6⟩ := hL6
    refine ⟨_, rfl, by show 1 ≤ sizeLine; decide, fun l1 m1 => ⟨l1, 3, _, rfl, rfl, upd_same, by decide, by decide, by show 1 * 3 ≤ sizeLine; decide, fun l2 m2 => ?_⟩⟩
    have a1 := (same_new (o := .lst [V.str "cutter"]) m1).trans (same_new (o := .lst (List.replicate (3 : Int).toNat [V.str "cutter"]).flatten) m2)
    refine ⟨.list (List.replicate 3 (.str "cutter")), .list (List.replicate 3 (.str "cutter")), .lst (.of (a1 _ _ hl6)) ?_, .lst (.of upd_same) ?_, by decide +kernel, by decide +kernel, ?_⟩
    · exact .cons (.str _) (.cons (.str _) (.cons (.str _) .nil))
    · exact .cons (.str _) (.cons (.str _) (.cons (.str _) .nil))
    generalize upd (upd H6 l1 (.lst [V.str "cutter"])) l2 (.lst (List.replicate (3 : Int).toNat [V.str "cutter"]).flatten) = G at a1 ⊢
    have DG := D6.keep a1
    have TG := T6.ext a1
    have c3G : Chn d H3 G := cc6.trans (.same a1)
    have cxG := K05.CutAt.chn cx3 c3G hd3
    have hpaG := c3G _ _ npa hpa3 (fun _ z => by cases z)
    have cG : Chn d H G := (Chn.of c1).trans ((Chn.same s2).trans ((Chn.of c3).trans c3G))
    refine ⟨_, rfl, ifF (by decide +kernel) ?_⟩
    dsimp only [tNext]
    -- rows that are none
    refine ⟨by decide, fun e1 k1 => ?_⟩
    have r1 := same_new (o := .lst []) k1
    have g1 : (upd G e1 (.lst [])) e1 = some (HO.lst []) := upd_same
    have w1 := dice_ne DG k1
    generalize upd G e1 (.lst []) = G1 at r1 g1 ⊢
    refine ⟨by decide, fun e2 k2 => ?_⟩
    have r2 := same_new (o := .lst [V.int 1, .int 2]) k2
    have g2 : (upd G1 e2 (.lst [V.int 1, .int 2])) e2 = some (HO.lst [V.int 1, .int 2]) := upd_same
    have w2 := dice_ne (DG.keep r1) k2
    generalize upd G1 e2 (.lst [V.int 1, .int 2]) = G2 at r2 g2 ⊢
    intro e3 k3
    have r3 := same_new (o := .dK []) k3
    have g3 : (upd G2 e3 (.dK [])) e3 = some (HO.dK []) := upd_same
    have w3 := dice_ne (DG.keep (r1.trans r2)) k3
    generalize upd G2 e3 (.dK []) = G3 at r3 g3 ⊢
    refine ⟨1001, rfl, .of_le (by decide) (by decide) (by decide) (by decide), fun e4 k4 => ?_⟩
    have r4 := same_new (o := .tup (rgV 0 1001)) k4
    have g4 : (upd G3 e4 (.tup (rgV 0 1001))) e4 = some (HO.tup (rgV 0 1001)) := upd_same
    have w4 := dice_ne (DG.keep (r1.trans (r2.trans r3))) k4
    generalize upd G3 e4 (.tup (rgV 0 1001)) = G4 at r4 g4 ⊢
    have r04 := r1.trans (r2.trans (r3.trans r4))
    refine ⟨_, rfl, by show 9 ≤ sizeLine; decide, fun L nL => ⟨_, rfl, d, 5, rfl, (DG.keep r04).new nL, by decide, by decide, fun H7 rr c7 D7 q0 q5 => ⟨rr, rfl, L, _, rfl, .of (c7 _ _ (dice_ne (DG.keep r04) nL).symm upd_same), fun p np => ?_⟩⟩⟩
    have sL := same_new (o := .lst [V.non, .ref e1, .ref e2, .str "abc", .ref e3, .int 5, .bl true, .ref e4, .ref x]) nL
    have g0L : Chn d G H7 := (Chn.same (r04.trans sL)).trans (.of c7)
    have sp := same_new (o := .lst (cutV [V.non, .ref e1, .ref e2, .str "abc", .ref e3, .int 5, .bl true, .ref e4, .ref x] (some rr) none)) np
    have hxs : ∀ y ∈ cutV [V.non, .ref e1, .ref e2, .str "abc", .ref e3, .int 5, .bl true, .ref e4, .ref x] (some rr) none, NoRow C d (upd H7 p (.lst (cutV [V.non, .ref e1, .ref e2, .str "abc", .ref e3, .int 5, .bl true, .ref e4, .ref x] (some rr) none))) y := fun y hy => by
      have mem := cutV_mem hy
      obtain ⟨_, _, _, hdL, _⟩ := (DG.keep (r04.trans sL))
      have hdG4 := (DG.keep r04)
      obtain ⟨_, _, _, hd4, _⟩ := hdG4
      refine NoRow.chn ((Chn.same sL).trans ((Chn.of c7).trans (.same sp))) hd4 ?_
      simp only [List.mem_cons, List.not_mem_nil, or_false] at mem
      rcases mem with rfl | rfl | rfl | rfl | rfl | rfl | rfl | rfl | rfl
      · exact .inl (.inr (.inl rfl))
      · exact .inl (.inr (.inr (.inr (.inr ⟨_, rfl, w1.symm, .inl ⟨_, (r2.trans (r3.trans r4)) _ _ g1⟩⟩))))
      · exact .inl (.inr (.inr (.inr (.inr ⟨_, rfl, w2.symm, .inl ⟨_, (r3.trans r4) _ _ g2⟩⟩))))
      · exact .inl (.inl ⟨_, rfl⟩)
      · exact .inl (.inr (.inr (.inr (.inr ⟨_, rfl, w3.symm, .inr (.inl ⟨_, r4 _ _ g3⟩)⟩))))
      · exact .inl (.inr (.inr (.inr (.inl ⟨_, rfl⟩))))
      · exact .inl (.inr (.inr (.inl ⟨_, rfl⟩)))
      · refine .inr ⟨_, _, rfl, w4.symm, g4, ?_⟩
        have e := rgV_iV 1001
        rw [show (rgV 0 1001) = rgV 0 ((1001 : Nat) : Int) from rfl, e, iV_len, List.length_range]
        decide
      · have cxx := cxG.same r04
        obtain ⟨dx, p', t, ts, hx, _⟩ := cxx.ex
        refine .inl (.inr (.inr (.inr (.inr ⟨_, rfl, fun z => ?_, .inr (.inr ⟨_, cxx⟩)⟩))))
        rw [z, hd4] at hx
        cases hx
    have hpL : (upd H7 p (.lst (cutV [V.non, .ref e1, .ref e2, .str "abc", .ref e3, .int 5, .bl true, .ref e4, .ref x] (some rr) none))) p = some (.lst (cutV [V.non, .ref e1, .ref e2, .str "abc", .ref e3, .int 5, .bl true, .ref e4, .ref x] (some rr) none)) := upd_same
    have D8 := D7.keep sp
    have npd : p ≠ d := (dice_ne D7 np).symm
    have T8 : LamX.Tabs T (upd H7 p (.lst (cutV [V.non, .ref e1, .ref e2, .str "abc", .ref e3, .int 5, .bl true, .ref e4, .ref x] (some rr) none))) := (tabs_chg c7 (DG.keep (r04.trans sL)) (TG.ext (r04.trans sL))).ext sp
    have c8 : Chn d G (upd H7 p (.lst (cutV [V.non, .ref e1, .ref e2, .str "abc", .ref e3, .int 5, .bl true, .ref e4, .ref x] (some rr) none))) := g0L.trans (.same sp)
    generalize cutV [V.non, .ref e1, .ref e2, .str "abc", .ref e3, .int 5, .bl true, .ref e4, .ref x] (some rr) none = rows at hxs hpL D8 T8 c8 ⊢
    generalize upd H7 p (.lst rows) = H8 at hxs hpL D8 T8 c8 ⊢
    refine ⟨p, rfl, ⟨_, .of hpL⟩, ?_⟩
    obtain ⟨_, _, _, hd8, _⟩ := id D8
    obtain ⟨_, _, _, hdG, _⟩ := id DG
    have cx8 := K05.CutAt.chn cxG c8 hdG
    refine for_list (xs := rows) (fun i σ' H' => (∃ v5, σ' = [some (.ref d), some (.ref pa), some (.ref x), some odd, some (.ref tl), v5, none]) ∧ Chn d H8 H' ∧ Dice H' d ∧ LamX.Tabs T H')
      ⟨⟨none, rfl⟩, .refl, D8, T8⟩ (fun i σ' H' _ hP => .of (hP.2.1 _ _ npd hpL (fun _ z => by cases z))) (fun i y σ' H1 hy hP => ?_) (fun σ' H9 hP => ?_)
    · obtain ⟨⟨v5, rfl⟩, cc, D1, T1⟩ := hP
      have hrow := (hxs y (List.mem_of_getElem? hy)).chn cc hd8
      refine ⟨T1, fun H2 e2' T2 => ?_⟩
      obtain ⟨_, _, _, hd1, _⟩ := id D1
      have cx2' := K05.CutAt.chn cx8 (cc.trans (.ext e2')) hd8
      obtain ⟨dx, p', t, ts, hx, _⟩ := cx2'.ex
      have hr2 := hrow.chn (Chn.ext e2') hd1
      refine ⟨_, rfl, x, rfl, _, rfl, .inr ⟨dx, _, hx⟩, x, y, rfl, ?_, .inr (.inl ⟨rfl, rfl, rfl, _, rfl, ifF (by rw [decide_eq_true rfl]; rfl) ?_⟩)⟩
      · rcases hr2 with h | ⟨a, ys, e, _, h, l⟩
        · exact .inl (h.is Y.ck Y.kt)
        · exact .inr ⟨a, ys, e, h, l⟩
      · exact ⟨⟨some y, rfl⟩, cc.trans (.ext e2'), K05.Dice.ext e2' D1, T2⟩
    obtain ⟨⟨v5, rfl⟩, c9, D9, T9⟩ := hP
    have cx9 := K05.CutAt.chn cx8 c9 hd8
    dsimp only
    -- numbers that are none
    refine ⟨1, rfl, by show 1 ≤ sizeLine; decide, fun e5 k5 => ?_⟩
    have r5 := same_new (o := .tup [V.int 1]) k5
    have g5 : (upd H9 e5 (.tup [V.int 1])) e5 = some (HO.tup [V.int 1]) := upd_same
    have w5 := dice_ne D9 k5
    generalize upd H9 e5 (.tup [V.int 1]) = G5 at r5 g5 ⊢
    refine ⟨by show 1 ≤ sizeLine; decide, fun e6 k6 => ?_⟩
    have r6 := same_new (o := .lst [V.int 1]) k6
    have g6 : (upd G5 e6 (.lst [V.int 1])) e6 = some (HO.lst [V.int 1]) := upd_same
    have w6 := dice_ne (D9.keep r5) k6
    generalize upd G5 e6 (.lst [V.int 1]) = G6 at r6 g6 ⊢
    intro e7 k7
    have r7 := same_new (o := .dK []) k7
    have g7 : (upd G6 e7 (.dK [])) e7 = some (HO.dK []) := upd_same
    have w7 := dice_ne (D9.keep (r5.trans r6)) k7
    generalize upd G6 e7 (.dK []) = G7 at r7 g7 ⊢
    have r57 := r5.trans (r6.trans r7)
    refine ⟨_, _, rfl, rfl, ⟨by decide, by decide +kernel⟩, _, _, rfl, rfl, _, _, rfl, rfl, ⟨by decide, by decide +kernel⟩, _, _, rfl, rfl, ⟨by decide, by decide +kernel⟩, _, rfl, by show 12 ≤ sizeLine; decide, fun L2 nL2 => ?_⟩
    have n12 : (10 : Int) ^ (12 : Int).toNat = 1000000000000 := by decide +kernel
    have n39 : (10 : Int) ^ (39 : Int).toNat = 1000000000000000000000000000000000000000 := by decide +kernel
    have n11 : (10 : Int) ^ (11 : Int).toNat = 100000000000 := by decide +kernel
    have hnum : ∀ y ∈ ([V.non, .int (-1), .int 1001, .bl true, .bl false, .str "1", .ref e5, .ref e6, .ref e7, .int ((10 : Int) ^ (12 : Int).toNat - 1), .int ((10 : Int) ^ (39 : Int).toNat), .int (-((10 : Int) ^ (11 : Int).toNat))] : List V), NumOdd d G7 y := fun y mem => by
      simp only [List.mem_cons, List.not_mem_nil, or_false] at mem
      rcases mem with rfl | rfl | rfl | rfl | rfl | rfl | rfl | rfl | rfl | rfl | rfl | rfl
      · exact .inl rfl
      · exact .inr (.inr (.inl ⟨_, rfl, by decide +kernel, by decide⟩))
      · exact .inr (.inr (.inl ⟨_, rfl, by decide +kernel, by decide⟩))
      · exact .inr (.inl ⟨_, rfl⟩)
      · exact .inr (.inl ⟨_, rfl⟩)
      · exact .inr (.inr (.inr (.inl rfl)))
      · exact .inr (.inr (.inr (.inr ⟨_, rfl, w5.symm, .inl ((r6.trans r7) _ _ g5)⟩)))
      · exact .inr (.inr (.inr (.inr ⟨_, rfl, w6.symm, .inr (.inl (r7 _ _ g6))⟩)))
      · exact .inr (.inr (.inr (.inr ⟨_, rfl, w7.symm, .inr (.inr g7)⟩)))
      · exact .inr (.inr (.inl ⟨_, rfl, by rw [n12]; decide +kernel, by rw [n12]; omega⟩))
      · exact .inr (.inr (.inl ⟨_, rfl, by rw [n39]; decide +kernel, by rw [n39]; omega⟩))
      · exact .inr (.inr (.inl ⟨_, rfl, by rw [n11]; decide +kernel, by rw [n11]; omega⟩))
    have sL2 := same_new (o := .lst ([V.non, .int (-1), .int 1001, .bl true, .bl false, .str "1", .ref e5, .ref e6, .ref e7, .int ((10 : Int) ^ (12 : Int).toNat - 1), .int ((10 : Int) ^ (39 : Int).toNat), .int (-((10 : Int) ^ (11 : Int).toNat))] : List V)) nL2
    have npL2 : L2 ≠ d := (dice_ne (D9.keep r57) nL2).symm
    have hL2 : (upd G7 L2 (.lst ([V.non, .int (-1), .int 1001, .bl true, .bl false, .str "1", .ref e5, .ref e6, .ref e7, .int ((10 : Int) ^ (12 : Int).toNat - 1), .int ((10 : Int) ^ (39 : Int).toNat), .int (-((10 : Int) ^ (11 : Int).toNat))] : List V))) L2 = some (.lst [V.non, .int (-1), .int 1001, .bl true, .bl false, .str "1", .ref e5, .ref e6, .ref e7, .int ((10 : Int) ^ (12 : Int).toNat - 1), .int ((10 : Int) ^ (39 : Int).toNat), .int (-((10 : Int) ^ (11 : Int).toNat))]) := upd_same
    have D10 := D9.keep (r57.trans sL2)
    have T10 := T9.ext (r57.trans sL2)
    have c10 : Chn d H8 (upd G7 L2 (.lst ([V.non, .int (-1), .int 1001, .bl true, .bl false, .str "1", .ref e5, .ref e6, .ref e7, .int ((10 : Int) ^ (12 : Int).toNat - 1), .int ((10 : Int) ^ (39 : Int).toNat), .int (-((10 : Int) ^ (11 : Int).toNat))] : List V))) := c9.trans (.same (r57.trans sL2))
    have cx10 := cx9.same (r57.trans sL2)
    have hnum10 : ∀ y ∈ ([V.non, .int (-1), .int 1001, .bl true, .bl false, .str "1", .ref e5, .ref e6, .ref e7, .int ((10 : Int) ^ (12 : Int).toNat - 1), .int ((10 : Int) ^ (39 : Int).toNat), .int (-((10 : Int) ^ (11 : Int).toNat))] : List V), NumOdd d (upd G7 L2 (.lst ([V.non, .int (-1), .int 1001, .bl true, .bl false, .str "1", .ref e5, .ref e6, .ref e7, .int ((10 : Int) ^ (12 : Int).toNat - 1), .int ((10 : Int) ^ (39 : Int).toNat), .int (-((10 : Int) ^ (11 : Int).toNat))] : List V))) y := fun y hy => (hnum y hy).chn (.same sL2)
    obtain ⟨_, _, _, hd10, _⟩ := id D10
    refine ⟨L2, rfl, ⟨_, .of hL2⟩, ?_⟩
    refine for_list (xs := [V.non, .int (-1), .int 1001, .bl true, .bl false, .str "1", .ref e5, .ref e6, .ref e7, .int ((10 : Int) ^ (12 : Int).toNat - 1), .int ((10 : Int) ^ (39 : Int).toNat), .int (-((10 : Int) ^ (11 : Int).toNat))]) (fun i σ' H' => (∃ v6, σ' = [some (.ref d), some (.ref pa), some (.ref x), some odd, some (.ref tl), v5, v6]) ∧ Chn d (upd G7 L2 (.lst ([V.non, .int (-1), .int 1001, .bl true, .bl false, .str "1", .ref e5, .ref e6, .ref e7, .int ((10 : Int) ^ (12 : Int).toNat - 1), .int ((10 : Int) ^ (39 : Int).toNat), .int (-((10 : Int) ^ (11 : Int).toNat))] : List V))) H' ∧ Dice H' d ∧ LamX.Tabs T H')
      ⟨⟨none, rfl⟩, .refl, D10, T10⟩ (fun i σ' H' _ hP => .of (hP.2.1 _ _ npL2 hL2 (fun _ z => by cases z))) (fun i y σ' H1 hy hP => ?_) (fun σ' H11 hP => ?_)
    · obtain ⟨⟨v6, rfl⟩, cc, D1, T1⟩ := hP
      have hn := (hnum10 y (List.mem_of_getElem? hy)).chn cc
      refine ⟨T1, fun H2 e2' T2 => ?_⟩
      have cx2' := K05.CutAt.chn cx10 (cc.trans (.ext e2')) hd10
      obtain ⟨dx, p', t, ts, hx, _⟩ := cx2'.ex
      obtain ⟨dt, hW, hod⟩ := (hn.chn (Chn.ext e2')).is (K := K)
      refine ⟨_, rfl, x, dx, _, rfl, hx, rfl, _, rfl, x, dt, y, rfl, hW, hod, fun H3' dd v' s3 hW' hdd => .inr (.inr ⟨rfl, dd, dt, v', rfl, hdd, hW', ?_⟩)⟩
      refine ⟨_, rfl, y, dt, rfl, hW.same s3, _, _, rfl, rfl, numShort hW', rfl, _, rfl, ifF (by rw [decide_eq_true rfl]; rfl) ?_⟩
      exact ⟨⟨some y, rfl⟩, cc.trans ((Chn.ext e2').trans (.same s3)), (K05.Dice.ext e2' D1).keep s3, T2.ext s3⟩
    obtain ⟨⟨v6, rfl⟩, c11, D11, T11⟩ := hP
    have cx11 := K05.CutAt.chn cx10 c11 hd10
    have cG11 : Chn d G H11 := c8.trans (c10.trans c11)
    have hpa11 := cG11 _ _ npa hpaG (fun _ z => by cases z)
    have c0 : Chn d H H11 := cG.trans cG11
    obtain ⟨dx, p', t, ts, hx, hp', _⟩ := cx11.ex
    refine ⟨_, rfl, x, dx, _, rfl, hx, x, ps, rfl, cx11, fun q1 hq1 => ⟨_, rfl, pa, _, rfl, .inl ⟨.of hpa11, fun t1 nt1 => ?_⟩⟩⟩
    have s1 := same_new (o := .tup (pV ps)) nt1
    refine ⟨.tuple (Cut.dP ps), .tuple (Cut.dP ps), .tup (.of (s1 _ _ hq1)) (dpAll_pV ps), .tup (.of upd_same) (dpAll_pV ps), shp_tupP hok, shp_tupP hok, ?_⟩
    refine ⟨_, rfl, ?_⟩
    rw [eqv_dP]
    refine ifT rfl ?_
    refine ⟨T11.ext s1, fun H12 e12 T12 => ?_⟩
    have D12 := K05.Dice.ext e12 (D11.keep s1)
    obtain ⟨_, _, _, hd11, _⟩ := id D11
    have cx12 := K05.CutAt.chn cx11 ((Chn.same s1).trans (.ext e12)) hd11
    obtain ⟨dx2, _, _, _, hx2, _⟩ := cx12.ex
    refine ⟨_, rfl, x, rfl, 1000, rfl, .of_le (by decide) (by decide) (by decide) (by decide), fun r1 nr1 => ?_⟩
    have s2' := same_new (o := .tup (rgV 0 1000)) nr1
    refine ⟨.inr ⟨dx2, _, s2' _ _ hx2⟩, x, r1, ps, _, rfl, cx12.same s2', upd_same, ?_, fun H13 q2 s3 nq hq => ⟨rfl, ?_⟩⟩
    · rw [show (rgV 0 1000) = rgV 0 ((1000 : Nat) : Int) from rfl, rgV_iV, iV_len, List.length_range]
      exact Nat.le_refl _
    · rw [decide_eq_true rfl]
      have sx := s2'.trans s3
      exact q H13 (c0.trans ((Chn.same s1).trans ((Chn.ext e12).trans (.same sx)))) (D12.keep sx) (T12.ext sx)
end
end K05
set_option Elab.async false
set_option linter.all false
set_option maxRecDepth 100000
set_option maxHeartbeats 8000000
namespace K05
open PySem PySem.Spec PyProof.Rows L2 Ly Cut

set_option maxHeartbeats 400000
abbrev s_law : Stmt := topS 39
abbrev N_law : List Str := ["_law_script", "_law_at", "_law_dice_here", "_law_turn"]
abbrev P_law : List Str := ["_law_script"]
theorem sc_law : FnScope N_law P_law (defScope s_law) := ⟨rfl, rfl, rfl, by decide +kernel, rfl, by decide +kernel, by decide +kernel⟩

/-- a def of the top that asks for repr: where it stands, how it is called -/
structure Cg (P : Program) (w : World) (K : PySem.W.Frag) (mg : Str → Option Value) (base : Heap) (x : Str) (k : Nat) (f : Addr) (sp : Sp) : Prop where
  ok : FnG P w K mg base CX0 k f sp
  g : mg x = some (.ref f)
  kp : PySem.W.keepIn K (.ref f) = true
section
def rListOf (K : PySem.W.Frag) : List V → Hp → VK → Prop := fun xs H Q => ∃ p ys, xs = [V.ref p] ∧ (SqL K H p ys ∨ SqT K H p ys) ∧ ∀ l, H l = none → Q (V.ref l) (upd H l (HO.lst ys))
theorem listOfK {X : Cx} {K : PySem.W.Frag} (h : X.K = K) : CallR X (.type "list") (rListOf K) := h ▸ call_list_of
theorem seq_ext {K : PySem.W.Frag} {H H1 : Hp} {a : Addr} {xs : List V} (c : LamX.ExtN H H1) (h : SqL K H a xs) : SqL K H1 a xs := by
  rcases h with (h | ⟨o, h⟩) | h
  · exact .inl (.inl (c _ _ h (fun _ z => by cases z)))
  · exact .inl (.inr ⟨o, c _ _ h (fun _ z => by cases z)⟩)
  · exact .inr h
def spLawT (K : PySem.W.Frag) (T : List (Addr × Str)) : Sp := fun vs H Q _ => ∃ (a : Addr) (ns : List Int), vs = [.ref a] ∧ SqL K H a (ns.map V.int) ∧ ns.length ≤ 63 ∧ LamX.Tabs T H ∧ ∀ H', Q (.bl true) H'
variable {P : Program} {w : World} {K : PySem.W.Frag} {mg : Str → Option Value} {base : Heap} {f C CC CO CN CM CL fi fo pm : Addr} {mc : Value} {fd : FuncData}
theorem ok_law {T : List (Addr × Str)} {c Pt : Addr} (Z : Zs mg) (D : Df K mg "law" s_law P_law f fd) (Y : Yc P w K mg base C CC CO CN CM CL fi fo pm mc) {f1 f2 f3 f5 f6 : Addr} {d1 d5 d6 : FuncData}
    (D_dice : Cl P w K mg base "_law_dice" 1 f1 d1 P_dice (spDice K)) (D_made : Cg P w K mg base "_law_made_right" 12 f2 (spMade T)) (D_asked : Cg P w K mg base "_law_asked_right" 12 f3 (spMade T)) (me_places : Meth K C "places" f6) (M_places : Cm P w K mg base 3 f6 d6 P_places (spCutPlaces C))
    (D_met : Df K mg "_law_met" s_met P_met f5 d5) (TB : LamX.TabB base mg c Pt) (hcd : codeVal K f = some (.ref c)) {qn : Str} (hqn : ("law" : Str) ++ ".<locals>." = qn) (hm1 : (Pt, qn ++ "<lambda>") ∈ T) (hu1 : ∀ p ∈ T, p.1 = Pt → p.2 = qn ++ "<lambda>") :
    FnG P w K mg base CX0 14 f (spLawT K T) := by
  refine fnG_ofC D.F hcd sc_law D.b (fun vs H Q E h => ?_) (fun A outer s H vs Q E hr hq h => ?_)
  · obtain ⟨a, ns, rfl, _⟩ := h
    rfl
  · obtain ⟨a, ns, rfl, hS, hl, hT, q⟩ := h
    have nd := sc_law.nd
    have hcode : (Value.ref c) = .ref c := rfl
    refine ⟨_,
    (pss_cons
    (ps_for PassesOwn.never rfl (pi_range1 (by rfl) Z.z_range (pa_cons (pe_callB (call_max2 rfl) (by rfl) Z.z_max (by decide +kernel) (pa_cons pe_int (pa_cons (pe_callB (call_min2 rfl) (by rfl) Z.z_min (by decide +kernel) (pa_cons pe_int (pa_cons (pe_callB call_lenL (by rfl) Z.z_len (by decide +kernel) (pa_cons (pv 0) pa_nil)) pa_nil))) pa_nil))) pa_nil)) (pg_name (i := 1) nd rfl (Or.inl rfl))
      (pss_cons
      (ps_set (i := 2) nd rfl (Or.inl rfl) (pe_call D_dice.ok (hr.mono (by decide)) (by rfl) D_dice.g D_dice.kp D_dice.b .nil pass0 (pa_cons (pv 0) (pa_cons (pv 1) pa_nil))))
      (pss_one
      (ps_for PassesOwn.never rfl (pi_range1 (by rfl) Z.z_range (pa_cons pe_int pa_nil)) (pg_name (i := 3) nd rfl (Or.inl rfl))
        (pss_one
        (ps_if (PW.pt (pw_or (pt_not (pt_val (pe_callV (callG (X := _) D_made.ok (hr.mono (by decide)) hq pass0) (by rfl) D_made.g D_made.kp (pa_cons (pv 2) pa_nil)))) (pw_or1 (pt_not (pt_val (pe_callV (callG (X := _) D_asked.ok (hr.mono (by decide)) hq pass0) (by rfl) D_asked.g D_asked.kp (pa_cons (pv 2) pa_nil)))))))
          (pss_one
          (ps_ret pe_bl))
          pss_nil))))))
    (pss_one
    (ps_ret (pe_cmpR op_eq (pe_met (k := 9) (T := T) (P := Pt) (c := c) (qn := qn) D_met Y.M (by exact hq) (by rfl) (by exact TB) (by exact hcode) (by exact hqn) (by exact hm1) (by exact hu1) (hr.mono (by decide)) (by exact LamX.lamS_by (sc := defScope s_law) (by decide +kernel)) (by rfl) (fun _ _ _ _ _ => rfl) (fun A outer s H E f c2 hr2 => (pe_callTy (listOfK (K := K) rfl) (by rfl) Z.z_list (by decide +kernel) (pa_cons (pe_meth (pe_makeR0 Y.MC Y.FI (hr2.mono (by decide)) (by rfl) Y.hC pass0) Y.ck.cls me_places M_places.ok (hr2.mono (by decide)) M_places.b .nil pass0 (pa_cons pe_int pa_nil)) pa_nil)))) pe_str (nomark _))))), ?_⟩
    refine ⟨_, rfl, a, _, rfl, hS, _, _, rfl, _, _, rfl, ?_⟩
    rw [List.length_map]
    generalize hn : (if (if (ns.length : Int) < 8 then (ns.length : Int) else 8) > 1 then (if (ns.length : Int) < 8 then (ns.length : Int) else 8) else 1) = n
    have n0 : 0 ≤ n ∧ n ≤ 8 := by
      rw [← hn]
      split <;> (try split) <;> omega
    refine ⟨n, rfl, by omega, by omega, ?_⟩
    refine for_range (lo := 0) (n := n.toNat) (fun i σ' H' => LamX.ExtN H H' ∧ LamX.Tabs T H' ∧ ∃ x1 x2 x3, σ' = [some (.ref a), x1, x2, x3]) ⟨.refl H, hT, none, none, none, rfl⟩ (fun i σ' H1 hi hP => ?_) (fun σ' H1 hP => ?_)
    · obtain ⟨e1, T1, x1, x2, x3, rfl⟩ := hP
      refine ⟨_, rfl, _, rfl, a, ns, i, by simp, seq_ext e1 hS, hl, by omega, fun H2 d s2 nd' D2 => ?_⟩
      dsimp only
      refine ⟨3, rfl, by omega, by omega, ?_⟩
      refine for_range (lo := 0) (n := 3) (fun i' σ' H' => Chn d H2 H' ∧ Dice H' d ∧ LamX.Tabs T H' ∧ ∃ x3, σ' = [some (.ref a), some (.int i), some (.ref d), x3]) ⟨.refl, D2, T1.ext s2, x3, by simp⟩ (fun i' σ' H3 hi' hP => ?_) (fun σ' H3 hP => ?_)
      · obtain ⟨c3, D3, T3, y3, rfl⟩ := hP
        refine ⟨_, rfl, d, rfl, D3, T3, fun H4 c4 D4 T4 => ⟨true, rfl, ifF rfl ?_⟩⟩
        exact ⟨_, rfl, d, rfl, D4, T4, fun H5 c5 D5 T5 => ⟨true, rfl, ifF rfl ⟨c3.trans (c4.trans c5), D5, T5, _, rfl⟩⟩⟩
      · obtain ⟨c3, D3, T3, y3, rfl⟩ := hP
        exact ⟨fun b o e t => c3 _ _ (ne_of_none (e1 b o e t) nd') (s2 _ _ (e1 b o e t)) t, T3, _, _, _, rfl⟩
    · obtain ⟨e1, T1, x1, x2, x3, rfl⟩ := hP
      refine ⟨T1, fun H2 e2 T2 => ?_⟩
      intro x dx nx ndx hne
      refine ⟨x, dx, [], rfl, upd_same, (fun p hp => by cases hp), by decide, fun H3 ch cx => ⟨rfl, ?_⟩⟩
      obtain ⟨dy, _, _, _, hx, _⟩ := id cx.ex
      refine ⟨x, dy, _, rfl, hx, rfl, x, [], 0, rfl, cx, by decide, fun H4 q1 s4 hq1 => ⟨q1, _, rfl, .inr (.of hq1), fun l nl => ⟨rfl, ?_⟩⟩⟩
      rw [decide_eq_true rfl]
      exact q _
end
end K05
set_option Elab.async false
set_option linter.all false
set_option maxRecDepth 100000
set_option maxHeartbeats 4000000
/-! own layer: a head whose facts are any tests of the written part -/
namespace Hm
open PySem PySem.Spec PyProof.Rows L2
abbrev Test := PySem.W.Frag → Bool
/-- told by recursions of their own, so that the kernel compares them cell by cell -/
def defsAt (K : PySem.W.Frag) : List He5.DefA → List He5.FnW
  | [] => []
  | d :: r => He5.fnA K (d.at_ K) :: defsAt K r
def defsVal : List He5.DefA → List He5.FnW
  | [] => []
  | d :: r => d.val :: defsVal r
def okAll (K : PySem.W.Frag) : List He5.DefA → Bool
  | [] => true
  | d :: r => d.ok K && okAll K r
def testAll (K : PySem.W.Frag) : List Test → Bool
  | [] => true
  | c :: r => c K && testAll K r
def told (cs : List Test) (fn : List He5.DefA) (K : PySem.W.Frag) : He.AlD := (testAll K cs && okAll K fn, defsAt K fn)
def due (fn : List He5.DefA) : He.AlD := (true, defsVal fn)
theorem defsAt_get {K : PySem.W.Frag} : ∀ {fn : List He5.DefA} {i : Nat} {d : He5.DefA}, fn[i]? = some d → (defsAt K fn)[i]? = some (He5.fnA K (d.at_ K))
  | d :: r, 0, e, h => by cases h; rfl
  | d :: r, i + 1, e, h => defsAt_get (fn := r) (i := i) h
theorem defsVal_get : ∀ {fn : List He5.DefA} {i : Nat} {d : He5.DefA}, fn[i]? = some d → (defsVal fn)[i]? = some d.val
  | d :: r, 0, e, h => by cases h; rfl
  | d :: r, i + 1, e, h => defsVal_get (fn := r) (i := i) h
theorem okAll_get {K : PySem.W.Frag} : ∀ {fn : List He5.DefA} {i : Nat} {d : He5.DefA}, okAll K fn = true → fn[i]? = some d → d.ok K = true
  | d :: r, 0, e, k, h => by cases h; exact (Bool.and_eq_true_iff.mp k).1
  | d :: r, i + 1, e, k, h => okAll_get (fn := r) (i := i) (Bool.and_eq_true_iff.mp k).2 h
theorem testAll_get {K : PySem.W.Frag} : ∀ {cs : List Test} {i : Nat} {f : Test}, testAll K cs = true → cs[i]? = some f → f K = true
  | c :: r, 0, f, k, h => by cases h; exact (Bool.and_eq_true_iff.mp k).1
  | c :: r, i + 1, f, k, h => testAll_get (cs := r) (i := i) (Bool.and_eq_true_iff.mp k).2 h
def Says (cs : List Test) (fn : List He5.DefA) (K : PySem.W.Frag) : Prop := told cs fn K = due fn
/-- what an object names -/
def step (g : Addr → Option Obj) (a : Addr) : List Addr := match g a with
  | some o => He.refsO o
  | none => []
def steps (g : Addr → Option Obj) : List Addr → List Addr
  | [] => []
  | a :: r => step g a ++ steps g r
def rounds (g : Addr → Option Obj) : Nat → List Addr → List Addr
  | 0, _ => []
  | n + 1, as => as ++ rounds g n (steps g as)
def stands (K : PySem.W.Frag) : List Str → List Addr
  | [] => []
  | x :: r => He.ga K x :: stands K r
/-- the written part: the module's names, and what these few of them reach -/
def reach (n : Nat) (xs : List Str) (g : Addr → Option Obj) : List Addr := mainGlobals :: cStatics :: rounds g n (stands (He.frG g [mainGlobals]) xs)
def look (n : Nat) (xs : List Str) (cs : List Test) (fn : List He5.DefA) (g : Addr → Option Obj) : He.AlD := told cs fn (He.frG g (reach n xs g))
def hook (n : Nat) (xs : List Str) (cs : List Test) (fn : List He5.DefA) : PySem.W.Hook where
  α := He.AlD
  obs := fun s => look n xs cs fn s.heap.get?
  val := fun _ => due fn
  says := fun _ h => ∃ K : PySem.W.Frag, K.In h ∧ Says cs fn K
  of := fun _ _ e => ⟨_, He.frG_in, e⟩
  keeps := fun _ _ _ ⟨K, hK, c⟩ k => ⟨K, PySem.W.Frag.In.keeps hK k, c⟩
theorem look_eq {n : Nat} {xs : List Str} {cs : List Test} {fn : List He5.DefA} {g : Addr → Option Obj} {s : Shared} (h : ∀ a, g a = s.heap.get? a) : look n xs cs fn g = (hook n xs cs fn).obs s := by
  rw [(funext h : g = s.heap.get?)]
  rfl
section
variable {cs : List Test} {fn : List He5.DefA} {K : PySem.W.Frag}
theorem Says.test (c : Says cs fn K) (i : Nat) {f : Test} (h : cs[i]? = some f) : f K = true := by
  have z : (testAll K cs && okAll K fn) = true := congrArg Prod.fst c
  exact testAll_get (Bool.and_eq_true_iff.mp z).1 h
theorem Says.def_ (c : Says cs fn K) (i : Nat) {d : He5.DefA} (h : fn[i]? = some d) : ∃ fd, FunD K d.name d.qual d.params d.body d.scope (d.dvs K) (d.kws K) (d.at_ K) fd := by
  have z : (testAll K cs && okAll K fn) = true := congrArg Prod.fst c
  have e : defsAt K fn = defsVal fn := congrArg Prod.snd c
  have e2 : (defsAt K fn)[i]? = (defsVal fn)[i]? := by rw [e]
  rw [defsAt_get h, defsVal_get h] at e2
  exact He5.DefA.funD (Option.some.inj e2) (okAll_get (Bool.and_eq_true_iff.mp z).2 h)
end
end Hm

set_option Elab.async false
set_option linter.all false
set_option maxRecDepth 100000
set_option maxHeartbeats 4000000
namespace Ly
open PySem PySem.Spec PyProof.Rows L2
/-- the end over a head whose written part is found by its facts -/
theorem walk_ofH {l : PySem.W.OpenLaw} {n k : Nat} {q : Program} {loose : List Str} {XP : (Str → Option Value) → Heap → Prop} {YP : World → Heap → Prop} {d : DefRec}
    (hn : l.most = some n) (hn2 : n ≤ sizeLine) (hdf : d.params.defaults = []) (hr : Room k callerA)
    (F : ∀ (w : World) (mg : Str → Option Value) (fa : Addr) (h : Heap), YP w h → h.Ns mainGlobals mg → mg d.name = some (.ref fa) → ∃ (K : PySem.W.Frag) (sp : Sp), K.In h ∧
      (∀ (H : Hp) (a : Addr) (ns : List Int), ns.length ≤ n → Only H → SqL K H a (ns.map V.int) → sp [.ref a] H (fun v _ => v = .bl true) fun _ _ _ => False) ∧
        ∀ base : Heap, K.In base → base.Ns mainGlobals mg → FnG l.prog w K mg base CX0 k fa sp) : PySem.W.WalkO q loose XP YP l.row.toRowW d [] (fun f vs => PySem.call f vs) :=
  Att.attach_call hn hdf fun w _ _ mg _ fa _ _ _ _ a vs ns G Y ho hd hcd hmg hobj hints hlen hg => by
    obtain ⟨K, sp, KX, hsp, hF⟩ := F w mg fa _ Y G.T.g hmg
    exact lawG KX G.T.g G.T.b G.T.builtins G.T.nolimit hg hobj hints (Nat.le_trans hlen hn2) hr hF (fun H hO hS => hsp H a ns hlen hO hS) fun _ _ _ z => z
end Ly

set_option Elab.async false
set_option linter.all false
set_option maxRecDepth 100000
set_option maxHeartbeats 4000000
/-! own layer: a head whose facts are tests of the written part, and the empty tables of some defs' code objects -/
namespace Ht
open PySem PySem.Spec PyProof.Rows L2
def emp : Obj := { cls := .none, data := .fields #[] }
def isRef : Option Value → Addr
  | some (.ref a) => a
  | _ => 0
/-- the table of the code object o -/
def tabOf : Option Obj → Addr
  | some o => match o.data with
    | .fields vs => isRef vs[11]?
    | _ => 0
  | none => 0
def isStr : Value → Bool
  | .str _ _ => true
  | _ => false
def isInt : Value → Bool
  | .int _ _ => true
  | _ => false
def isBool : Value → Bool
  | .bool _ => true
  | _ => false
/-- o is a code object that stands at c, its table at P -/
def codeOk (o : Option Obj) (c P : Addr) : Bool := match o with
  | some o => match o.data with
    | .fields vs => decide (o.cls = .type "code") && decide (vs[11]? = some (.ref P)) && decide (vs.getD 11 .none = .ref P) && isStr (vs.getD 18 .none) && isInt (vs.getD 7 .none) && isBool (vs.getD 9 .none) && isInt (vs.getD 10 .none) && decide (c ≠ P)
    | _ => false
  | none => false
def empOk : Option Obj → Bool
  | some o => decide (o.cls = .none) && o.dict.isNone && o.slots.isEmpty && (match o.data with
    | .fields vs => vs.isEmpty
    | _ => false)
  | none => false
theorem empOk_eq {o : Option Obj} (h : empOk o = true) : o = some emp := by
  unfold empOk at h
  split at h
  · rename_i o
    obtain ⟨h, hd⟩ := Bool.and_eq_true_iff.mp h
    obtain ⟨h, hs⟩ := Bool.and_eq_true_iff.mp h
    obtain ⟨h, hn⟩ := Bool.and_eq_true_iff.mp h
    obtain ⟨oc, od, da, sl⟩ := o
    have e1 : oc = .none := of_decide_eq_true h
    have e2 : od = none := Option.isNone_iff_eq_none.mp hn
    have e3 : sl = #[] := Array.isEmpty_iff.mp hs
    subst e1 e2 e3
    cases da with
    | fields vs =>
      have e4 : vs = #[] := Array.isEmpty_iff.mp hd
      subst e4
      rfl
    | _ => cases hd
  · cases h
theorem codeOk_hd {h : Heap} {c P : Addr} (e : codeOk (h.get? c) c P = true) : PySem.W.CodeHd h c P := by
  unfold codeOk at e
  split at e
  · rename_i o ho
    split at e
    · rename_i vs hv
      simp only [Bool.and_eq_true, decide_eq_true_eq] at e
      obtain ⟨⟨⟨⟨⟨⟨⟨h1, h2⟩, h3⟩, h4⟩, h5⟩, h6⟩, h7⟩, h8⟩ := e
      obtain ⟨f, tf, e4⟩ : ∃ f tf, vs.getD 18 .none = .str f tf := by
        cases q : vs.getD 18 .none with
        | str f tf => exact ⟨f, tf, rfl⟩
        | _ => rw [q] at h4; cases h4
      obtain ⟨i, ti, e5⟩ : ∃ i ti, vs.getD 7 .none = .int i ti := by
        cases q : vs.getD 7 .none with
        | int f tf => exact ⟨f, tf, rfl⟩
        | _ => rw [q] at h5; cases h5
      obtain ⟨b, e6⟩ : ∃ b, vs.getD 9 .none = .bool b := by
        cases q : vs.getD 9 .none with
        | bool b => exact ⟨b, rfl⟩
        | _ => rw [q] at h6; cases h6
      obtain ⟨j, tj, e7⟩ : ∃ i ti, vs.getD 10 .none = .int i ti := by
        cases q : vs.getD 10 .none with
        | int f tf => exact ⟨f, tf, rfl⟩
        | _ => rw [q] at h7; cases h7
      exact ⟨o, vs, f, tf, i, ti, b, j, tj, ho, h1, hv, h2, h3, e4, e5, e6, e7, h8⟩
    · cases e
  · cases e
/-- the code object of the def x of the top, and its table -/
def tabAt (K : PySem.W.Frag) (g : Addr → Option Obj) (x : Str) : Addr × Addr := let c := isRef (Ly.codeVal K (He.ga K x)); (c, tabOf (g c))
def rowOk (K : PySem.W.Frag) (g : Addr → Option Obj) (x : Str) (p : Addr × Addr) : Bool := codeOk (g p.1) p.1 p.2 && empOk (g p.2) && (K.lookup p.2).isNone && decide (Ly.codeVal K (He.ga K x) = some (.ref p.1))
def rowsOk (K : PySem.W.Frag) (g : Addr → Option Obj) : List Str → List (Addr × Addr) → Bool
  | [], [] => true
  | x :: r, p :: q => rowOk K g x p && rowsOk K g r q
  | _, _ => false
structure Row (K : PySem.W.Frag) (h : Heap) (x : Str) (p : Addr × Addr) : Prop where
  code : PySem.W.CodeHd h p.1 p.2
  emp : h.get? p.2 = some { cls := .none, data := .fields #[] }
  no : K.lookup p.2 = none
  val : Ly.codeVal K (He.ga K x) = some (.ref p.1)
def RowsP (K : PySem.W.Frag) (h : Heap) : List Str → List (Addr × Addr) → Prop
  | [], [] => True
  | x :: r, p :: q => Row K h x p ∧ RowsP K h r q
  | _, _ => False
theorem rows_of {K : PySem.W.Frag} {h : Heap} : ∀ {ts : List Str} {ps : List (Addr × Addr)}, rowsOk K h.get? ts ps = true → RowsP K h ts ps
  | [], [], _ => True.intro
  | x :: r, p :: q, e => by
    obtain ⟨e1, e2⟩ := Bool.and_eq_true_iff.mp (show (rowOk K h.get? x p && rowsOk K h.get? r q) = true from e)
    obtain ⟨e1, v⟩ := Bool.and_eq_true_iff.mp (show (codeOk (h.get? p.1) p.1 p.2 && empOk (h.get? p.2) && (K.lookup p.2).isNone && decide (Ly.codeVal K (He.ga K x) = some (.ref p.1))) = true from e1)
    obtain ⟨e1, n⟩ := Bool.and_eq_true_iff.mp e1
    obtain ⟨c, m⟩ := Bool.and_eq_true_iff.mp e1
    exact ⟨⟨codeOk_hd c, empOk_eq m, Option.isNone_iff_eq_none.mp n, of_decide_eq_true v⟩, rows_of e2⟩
theorem RowsP.keeps {K : PySem.W.Frag} {h h' : Heap} (k : ∀ b o, h.get? b = some o → h'.get? b = some o) : ∀ {ts : List Str} {ps : List (Addr × Addr)}, RowsP K h ts ps → RowsP K h' ts ps
  | [], [], _ => True.intro
  | x :: r, p :: q, ⟨e1, e2⟩ => ⟨⟨e1.code.keeps k, k _ _ e1.emp, e1.no, e1.val⟩, RowsP.keeps k e2⟩
theorem RowsP.mem {K : PySem.W.Frag} {h : Heap} : ∀ {ts : List Str} {ps : List (Addr × Addr)}, RowsP K h ts ps → ∀ p ∈ ps, ∃ x, Row K h x p
  | [], [], _, _, m => by cases m
  | x :: r, p :: q, ⟨e1, e2⟩, b, m => by
    rcases List.mem_cons.mp m with rfl | m
    · exact ⟨x, e1⟩
    · exact RowsP.mem e2 b m
abbrev Obs := Bool × He.AlD
def look (n : Nat) (xs ts : List Str) (cs : List Hm.Test) (fn : List He5.DefA) (g : Addr → Option Obj) : Obs :=
  let as := Hm.reach n xs g
  let tabs := ts.map (tabAt (He.frG g as) g)
  let K := He.frG g (as.filter fun b => !(tabs.map Prod.snd).contains b)
  (rowsOk K g ts tabs && decide (tabs.map Prod.snd).Nodup, Hm.told cs fn K)
def hook (n : Nat) (xs ts : List Str) (cs : List Hm.Test) (fn : List He5.DefA) : PySem.W.Hook where
  α := Obs
  obs := fun s => look n xs ts cs fn s.heap.get?
  val := fun _ => (true, Hm.due fn)
  says := fun _ h => ∃ (K : PySem.W.Frag) (tabs : List (Addr × Addr)), K.In h ∧ Hm.Says cs fn K ∧ RowsP K h ts tabs ∧ (tabs.map Prod.snd).Nodup
  of := fun _ s e => by
    have e1 := congrArg Prod.fst e
    have e2 := congrArg Prod.snd e
    obtain ⟨r1, r2⟩ := Bool.and_eq_true_iff.mp e1
    exact ⟨_, _, He.frG_in, e2, rows_of r1, of_decide_eq_true r2⟩
  keeps := fun _ _ _ ⟨K, tabs, hK, c, r, n⟩ k => ⟨K, tabs, PySem.W.Frag.In.keeps hK k, c, r.keeps k, n⟩
theorem look_eq {n : Nat} {xs ts : List Str} {cs : List Hm.Test} {fn : List He5.DefA} {g : Addr → Option Obj} {s : Shared} (h : ∀ a, g a = s.heap.get? a) : look n xs ts cs fn g = (hook n xs ts cs fn).obs s := by
  rw [(funext h : g = s.heap.get?)]
  rfl
end Ht
namespace Ht
open PySem PySem.Spec PyProof.Rows L2
/-- the class at C is an own exception class over the chain bm -/
def excB (K : PySem.W.Frag) (C : Addr) (bm : List Value) (newId : String) : Bool := match K.lookup C with
  | some o => match o.data with
    | .cls cd => decide (o.cls = .type "type") && decide (cd.mro = .ref C :: bm) && cd.hasDict && !cd.hasDel && decide (o.slots.size = 6) && decide (o.slots[4]? = some (some (.builtin newId)))
    | _ => false
  | none => false
theorem six {α : Type} {l : List α} (h : l.length = 6) : ∃ a b c d e f, l = [a, b, c, d, e, f] := by
  match l, h with
  | [a, b, c, d, e, f], _ => exact ⟨a, b, c, d, e, f, rfl⟩
theorem excB_ok {K : PySem.W.Frag} {C : Addr} {bm : List Value} {newId : String} (h : excB K C bm newId = true) : ∃ nm q N bs sn sub ab col dd k0 k1 k2 k3 k5, K.lookup C = some (excClassObj nm q C N bs bm true sn sub ab col dd k0 k1 k2 k3 k5 newId) := by
  unfold excB at h
  split at h
  · rename_i o ho
    obtain ⟨oc, dd, da, sl⟩ := o
    cases da with
    | cls cd =>
      simp only [Bool.and_eq_true, decide_eq_true_eq, Bool.not_eq_true'] at h
      obtain ⟨⟨⟨⟨⟨h1, h2⟩, h3⟩, h4⟩, h5⟩, h6⟩ := h
      obtain ⟨nm, bs, mro, N, q, hd, sn, sub, ab, col, del⟩ := cd
      obtain ⟨l⟩ := sl
      obtain ⟨k0, k1, k2, k3, k4, k5, rfl⟩ := six (show l.length = 6 from h5)
      dsimp only at h1 h2 h3 h4
      subst h1 h2 h3 h4
      have e4 : k4 = some (.builtin newId) := by simpa using h6
      subst e4
      exact ⟨nm, q, N, bs, sn, sub, ab, col, dd, k0, k1, k2, k3, k5, ho⟩
    | _ => cases h
  · cases h
end Ht
namespace Ht
open PySem PySem.Spec PyProof.Rows L2
theorem RowsP.cons {K : PySem.W.Frag} {h : Heap} {x : Str} {r : List Str} {tabs : List (Addr × Addr)} (e : RowsP K h (x :: r) tabs) : ∃ p q, tabs = p :: q ∧ Row K h x p ∧ RowsP K h r q := by
  cases tabs with
  | nil => exact False.elim e
  | cons p q => exact ⟨p, q, rfl, e.1, e.2⟩
theorem RowsP.nil {K : PySem.W.Frag} {h : Heap} {tabs : List (Addr × Addr)} (e : RowsP K h [] tabs) : tabs = [] := by
  cases tabs with
  | nil => rfl
  | cons p q => exact False.elim e
theorem three {K : PySem.W.Frag} {h : Heap} {x y z : Str} {tabs : List (Addr × Addr)} (r : RowsP K h [x, y, z] tabs) : ∃ p1 p2 p3, tabs = [p1, p2, p3] ∧ Row K h x p1 ∧ Row K h y p2 ∧ Row K h z p3 := by
  obtain ⟨p1, t1, e1, a, r1⟩ := r.cons
  obtain ⟨p2, t2, e2, b, r2⟩ := r1.cons
  obtain ⟨p3, t3, e3, c, r3⟩ := r2.cons
  exact ⟨p1, p2, p3, by rw [e1, e2, e3, r3.nil], a, b, c⟩
end Ht

set_option Elab.async false
set_option linter.all false
set_option maxRecDepth 100000
set_option maxHeartbeats 8000000
namespace K05
open PySem PySem.Spec PyProof.Rows L2 Ly Cut

/-- the tables of the three defs that make lambdas -/
def TT (p1 p2 p3 : Addr × Addr) : List (Addr × Str) := [(p1.2, (("_law_made_right" : Str) ++ ".<locals>.") ++ "<lambda>"), (p2.2, (("_law_asked_right" : Str) ++ ".<locals>.") ++ "<lambda>"), (p3.2, (("law" : Str) ++ ".<locals>.") ++ "<lambda>")]
theorem one_of_nodup {l : List (Addr × Str)} (nd : (l.map Prod.fst).Nodup) : ∀ {P : Addr} {q : Str} {p : Addr × Str}, (P, q) ∈ l → p ∈ l → p.1 = P → p.2 = q := by
  induction l with
  | nil =>
    intro P q p h
    cases h
  | cons a r ih =>
    rw [List.map_cons, List.nodup_cons] at nd
    intro P q p hm hp e
    rcases List.mem_cons.mp hm with h1 | h1
    · rcases List.mem_cons.mp hp with h2 | h2
      · rw [h2, ← h1]
      · exact absurd (List.mem_map.mpr ⟨p, h2, by rw [e, ← h1]⟩) nd.1
    · rcases List.mem_cons.mp hp with h2 | h2
      · exact absurd (List.mem_map.mpr ⟨(P, q), h1, by rw [← h2]; exact e.symm⟩) nd.1
      · exact ih nd.2 h1 h2 e
theorem tt_one {p1 p2 p3 : Addr × Addr} (nd : [p1.2, p2.2, p3.2].Nodup) {P : Addr} {q : Str} (hm : (P, q) ∈ TT p1 p2 p3) : ∀ p ∈ TT p1 p2 p3, p.1 = P → p.2 = q := fun p hp e => one_of_nodup (l := TT p1 p2 p3) nd hm hp e
theorem tt_tabs {p1 p2 p3 : Addr × Addr} {H : Hp} (h : ∀ p ∈ [p1, p2, p3], H p.2 = some (.tbl #[])) : LamX.Tabs (TT p1 p2 p3) H := fun p hp => by
  simp only [TT, List.mem_cons, List.not_mem_nil, or_false] at hp
  rcases hp with rfl | rfl | rfl
  · exact .nil (h p1 (by simp))
  · exact .nil (h p2 (by simp))
  · exact .nil (h p3 (by simp))

theorem all_mk {l : PySem.W.OpenLaw} {w : World} {K : PySem.W.Frag} {h : Heap} {mg : Str → Option Value} {fa : Addr} (X : K.In h) (G : h.Ns mainGlobals mg) (hfa : mg "law" = some (.ref fa)) {f_is_whole : Addr} {f_ekept : Addr} {f_is_part : Addr} {f_check_parts : Addr} {f_has_plus : Addr} {f_part_places : Addr} {f_kept_places : Addr} {f_table_of : Addr} {f_keep_all : Addr} {f_check_cutter : Addr} {f_dice : Addr} {f_roll : Addr} {f_one_of : Addr} {f_signs : Addr} {f_part : Addr} {f_lparts : Addr} {f_met : Addr} {f_nopart : Addr} {f_made : Addr} {f_asked : Addr} {f_law : Addr} {C : Addr} {f_init : Addr} {p_of : Addr} {f_of : Addr} {p_parts : Addr} {f_parts : Addr} {p_keeps_all : Addr} {f_keeps_all : Addr} {f_callc : Addr} {f_places : Addr} {f_rshift : Addr} {f_within : Addr} {f_parting : Addr} {CC : Addr} {CO : Addr} {CN : Addr} {f_ninit : Addr} {CM : Addr} {CL : Addr} {rest_parts : List Value} {rest_keeps_all : List Value} {t_MAX_PARTS : Tok} {t_MAX_ROW : Tok} {t_KEEP_ALL : Tok} {t_DOTS : Tok} {t_MAX_FRONT : Tok} {t_MAX_BACK : Tok} {t_REACH : Tok} {fd_is_whole : FuncData} {fd_ekept : FuncData} {fd_is_part : FuncData} {fd_check_parts : FuncData} {fd_has_plus : FuncData} {fd_part_places : FuncData} {fd_kept_places : FuncData} {fd_table_of : FuncData} {fd_keep_all : FuncData} {fd_check_cutter : FuncData} {fd_dice : FuncData} {fd_roll : FuncData} {fd_one_of : FuncData} {fd_signs : FuncData} {fd_part : FuncData} {fd_lparts : FuncData} {fd_met : FuncData} {fd_nopart : FuncData} {fd_made : FuncData} {fd_asked : FuncData} {fd_law : FuncData} {fd_init : FuncData} {fd_of : FuncData} {fd_parts : FuncData} {fd_keeps_all : FuncData} {fd_callc : FuncData} {fd_places : FuncData} {fd_rshift : FuncData} {fd_within : FuncData} {fd_parting : FuncData} {fd_ninit : FuncData}
    (a_is_whole : PySem.W.nsIn K mainGlobals "is_whole" = some (some (.ref f_is_whole)))
    (a_ekept : PySem.W.nsIn K mainGlobals "kept" = some (some (.ref f_ekept)))
    (a_is_part : PySem.W.nsIn K mainGlobals "is_part" = some (some (.ref f_is_part)))
    (a_check_parts : PySem.W.nsIn K mainGlobals "check_parts" = some (some (.ref f_check_parts)))
    (a_has_plus : PySem.W.nsIn K mainGlobals "has_plus" = some (some (.ref f_has_plus)))
    (a_part_places : PySem.W.nsIn K mainGlobals "part_places" = some (some (.ref f_part_places)))
    (a_kept_places : PySem.W.nsIn K mainGlobals "kept_places" = some (some (.ref f_kept_places)))
    (a_table_of : PySem.W.nsIn K mainGlobals "table_of" = some (some (.ref f_table_of)))
    (a_keep_all : PySem.W.nsIn K mainGlobals "keep_all" = some (some (.ref f_keep_all)))
    (a_check_cutter : PySem.W.nsIn K mainGlobals "check_cutter" = some (some (.ref f_check_cutter)))
    (a_dice : PySem.W.nsIn K mainGlobals "_law_dice" = some (some (.ref f_dice)))
    (a_roll : PySem.W.nsIn K mainGlobals "_law_roll" = some (some (.ref f_roll)))
    (a_one_of : PySem.W.nsIn K mainGlobals "_law_one_of" = some (some (.ref f_one_of)))
    (a_signs : PySem.W.nsIn K mainGlobals "_law_signs" = some (some (.ref f_signs)))
    (a_part : PySem.W.nsIn K mainGlobals "_law_part" = some (some (.ref f_part)))
    (a_lparts : PySem.W.nsIn K mainGlobals "_law_parts" = some (some (.ref f_lparts)))
    (a_met : PySem.W.nsIn K mainGlobals "_law_met" = some (some (.ref f_met)))
    (a_nopart : PySem.W.nsIn K mainGlobals "_law_no_part" = some (some (.ref f_nopart)))
    (a_made : PySem.W.nsIn K mainGlobals "_law_made_right" = some (some (.ref f_made)))
    (a_asked : PySem.W.nsIn K mainGlobals "_law_asked_right" = some (some (.ref f_asked)))
    (a_law : PySem.W.nsIn K mainGlobals "law" = some (some (.ref f_law)))
    (aC : PySem.W.nsIn K mainGlobals "Cutter" = some (some (.ref C)))
    (C1 : PySem.W.makesIn K C = true)
    (C2 : PySem.W.keepIn K (.ref C) = true)
    (C3 : PySem.W.plainGet K C Str.empty = true)
    (C4 : PySem.W.hasDictIn K C = true)
    (C5 : PySem.W.plainOver K C = true)
    (C6 : PySem.W.findIn K (.ref C) "__setattr__" = some (some (.builtin "object.__setattr__")))
    (C_parts : PySem.W.findIn K (.ref C) "_parts" = some none)
    (C_table : PySem.W.findIn K (.ref C) "_table" = some none)
    (C_keeps_all : PySem.W.findIn K (.ref C) "_keeps_all" = some none)
    (C9 : PySem.W.findIn K (.ref C) "__class__" = some (some (.builtin "object.__class__")))
    (C10 : PySem.W.specialIn K (.builtin "object.__class__") "__get__" = some (some (.builtin "getset_descriptor.__get__")))
    (C11 : PySem.W.takesIn K (.builtin "object.__class__") = some true)
    (C12 : PySem.W.mroIn K C (.type "object") = some true)
    (C13 : PySem.W.findIn K (.ref C) "__ne__" = some (some (.builtin "object.__ne__")))
    (C16 : PySem.W.isClsIn K C = true)
    (C17 : PySem.W.typeIn K (.ref C) = some (.type "type"))
    (C14 : PySem.W.readsIn K C (.type "type") = true)
    (C15 : PySem.W.specialIn K (.ref C) "__getattribute__" = some (some (.builtin "type.__getattribute__")))
    (C18 : PySem.W.selfFirst K C = true)
    (t_init : PySem.W.findIn K (.ref C) "__init__" = some (some (.ref f_init)))
    (n_init : PySem.W.isFn K (.ref f_init) = true)
    (w_of : He5.wrapB K C "classmethod" "classmethod.__get__" "of" = true)
    (i_of : PySem.W.fnIn K f_of = true)
    (t_of : PySem.W.findCls K (.ref C) (.type "type") "of" = some (.get (.builtin "classmethod.__get__") (.ref p_of) .none (.ref C)))
    (r_of : ∃ rest, PySem.W.recIn K p_of "classmethod" = some (.ref f_of :: rest))
    (t_parts : PySem.W.findIn K (.ref C) "parts" = some (some (.ref p_parts)))
    (g_parts : PySem.W.specialIn K (.ref p_parts) "__get__" = some (some (.builtin "property.__get__")))
    (u_parts : PySem.W.takesIn K (.ref p_parts) = some true)
    (r_parts : PySem.W.recIn K p_parts "property" = some (.ref f_parts :: rest_parts))
    (t_keeps_all : PySem.W.findIn K (.ref C) "keeps_all" = some (some (.ref p_keeps_all)))
    (g_keeps_all : PySem.W.specialIn K (.ref p_keeps_all) "__get__" = some (some (.builtin "property.__get__")))
    (u_keeps_all : PySem.W.takesIn K (.ref p_keeps_all) = some true)
    (r_keeps_all : PySem.W.recIn K p_keeps_all "property" = some (.ref f_keeps_all :: rest_keeps_all))
    (t_callc : PySem.W.findIn K (.ref C) "__call__" = some (some (.ref f_callc)))
    (n_callc : PySem.W.isFn K (.ref f_callc) = true)
    (i_callc : PySem.W.fnIn K f_callc = true)
    (t_places : PySem.W.findIn K (.ref C) "places" = some (some (.ref f_places)))
    (n_places : PySem.W.isFn K (.ref f_places) = true)
    (t_rshift : PySem.W.findIn K (.ref C) "__rshift__" = some (some (.ref f_rshift)))
    (n_rshift : PySem.W.isFn K (.ref f_rshift) = true)
    (t_within : PySem.W.findIn K (.ref C) "is_within" = some (some (.ref f_within)))
    (n_within : PySem.W.isFn K (.ref f_within) = true)
    (t_parting : PySem.W.findIn K (.ref C) "parting" = some (some (.ref f_parting)))
    (n_parting : PySem.W.isFn K (.ref f_parting) = true)
    (aCC : PySem.W.nsIn K mainGlobals "InvalidCutter" = some (some (.ref CC)))
    (CCk : PySem.W.keepIn K (.ref CC) = true)
    (CCb : PySem.W.subIn K (.ref CC) (.type "BaseException") = some true)
    (CCt : PySem.W.typeIn K (.ref CC) = some (.type "type"))
    (CCga : PySem.W.findIn K (.ref CC) "__getattribute__" = some (some (.builtin "BaseException.__getattribute__")))
    (CCgg : PySem.W.findIn K (.ref CC) "__getattr__" = some none)
    (CChd : PySem.W.hasDictIn K CC = true)
    (CCx : PySem.W.excIn K CC [.type "ValueError", .type "Exception", .type "BaseException", .type "object"] "ValueError.__new__" = true)
    (CCcl : PySem.W.findIn K (.ref CC) "__class__" = some (some (.builtin "object.__class__")))
    (CCmo : PySem.W.mroIn K CC (.type "object") = some true)
    (aCO : PySem.W.nsIn K mainGlobals "InvalidOperation" = some (some (.ref CO)))
    (COk : PySem.W.keepIn K (.ref CO) = true)
    (COb : PySem.W.subIn K (.ref CO) (.type "BaseException") = some true)
    (COt : PySem.W.typeIn K (.ref CO) = some (.type "type"))
    (COga : PySem.W.findIn K (.ref CO) "__getattribute__" = some (some (.builtin "BaseException.__getattribute__")))
    (COgg : PySem.W.findIn K (.ref CO) "__getattr__" = some none)
    (COhd : PySem.W.hasDictIn K CO = true)
    (COx : PySem.W.excIn K CO [.type "ValueError", .type "Exception", .type "BaseException", .type "object"] "ValueError.__new__" = true)
    (COcl : PySem.W.findIn K (.ref CO) "__class__" = some (some (.builtin "object.__class__")))
    (COmo : PySem.W.mroIn K CO (.type "object") = some true)
    (aCN : PySem.W.nsIn K mainGlobals "InvalidNumber" = some (some (.ref CN)))
    (CNk : PySem.W.keepIn K (.ref CN) = true)
    (CNb : PySem.W.subIn K (.ref CN) (.type "BaseException") = some true)
    (CNt : PySem.W.typeIn K (.ref CN) = some (.type "type"))
    (CNga : PySem.W.findIn K (.ref CN) "__getattribute__" = some (some (.builtin "BaseException.__getattribute__")))
    (CNgg : PySem.W.findIn K (.ref CN) "__getattr__" = some none)
    (CNhd : PySem.W.hasDictIn K CN = true)
    (CNl : Ht.excB K CN [.type "RuntimeError", .type "Exception", .type "BaseException", .type "object"] "RuntimeError.__new__" = true)
    (CNsa : PySem.W.findIn K (.ref CN) "__setattr__" = some (some (.builtin "object.__setattr__")))
    (CNf : PySem.W.findIn K (.ref CN) "value" = some none)
    (CNi : PySem.W.findIn K (.ref CN) "__init__" = some (some (.ref f_ninit)))
    (CNit : PySem.W.typeIn K (.ref f_ninit) = some (.type "function"))
    (aCM : PySem.W.nsIn K mainGlobals "TooMany" = some (some (.ref CM)))
    (aCL : PySem.W.nsIn K mainGlobals "LetterError" = some (some (.ref CL)))
    (zV : PySem.W.nsIn K mainGlobals "ValueError" = some none)
    (e_cc : PySem.W.exmOne K (.ref CC) (.ref CC) = some true)
    (e_oc : PySem.W.exmOne K (.ref CO) (.ref CC) = some false)
    (e_oo : PySem.W.exmOne K (.ref CO) (.ref CO) = some true)
    (e_nc : PySem.W.exmOne K (.ref CN) (.ref CC) = some false)
    (e_no : PySem.W.exmOne K (.ref CN) (.ref CO) = some false)
    (e_nn : PySem.W.exmOne K (.ref CN) (.ref CN) = some true)
    (kL : PySem.W.kitOne K (.ref CC) (.ref CL) = some true)
    (kO : PySem.W.kitOne K (.ref CC) (.ref CO) = some false)
    (kV : PySem.W.kitOne K (.ref CO) (.type "ValueError") = some true)
    (ks : PySem.W.kitOne K (.ref C) (.type "str") = some false)
    (kt : PySem.W.kitOne K (.ref C) (.type "tuple") = some false)
    (hrc : PySem.W.findIn K (.ref C) (PySem.dunderR PySem.Operator.RShift.info.2) = some none)
    (ml_str : (PySem.W.findIn K (.type "str") (PySem.dunder PySem.Operator.RShift.info.2)).isSome = true)
    (mr_str : (PySem.W.findIn K (.type "str") (PySem.dunderR PySem.Operator.RShift.info.2)).isSome = true)
    (ms_str : PySem.W.subIn K (.type "str") (.ref C) = some false)
    (mk_str : PySem.W.kitOne K (.type "str") (.ref C) = some false)
    (ml_NoneType : (PySem.W.findIn K (.type "NoneType") (PySem.dunder PySem.Operator.RShift.info.2)).isSome = true)
    (mr_NoneType : (PySem.W.findIn K (.type "NoneType") (PySem.dunderR PySem.Operator.RShift.info.2)).isSome = true)
    (ms_NoneType : PySem.W.subIn K (.type "NoneType") (.ref C) = some false)
    (mk_NoneType : PySem.W.kitOne K (.type "NoneType") (.ref C) = some false)
    (ml_bool : (PySem.W.findIn K (.type "bool") (PySem.dunder PySem.Operator.RShift.info.2)).isSome = true)
    (mr_bool : (PySem.W.findIn K (.type "bool") (PySem.dunderR PySem.Operator.RShift.info.2)).isSome = true)
    (ms_bool : PySem.W.subIn K (.type "bool") (.ref C) = some false)
    (mk_bool : PySem.W.kitOne K (.type "bool") (.ref C) = some false)
    (ml_int : (PySem.W.findIn K (.type "int") (PySem.dunder PySem.Operator.RShift.info.2)).isSome = true)
    (mr_int : (PySem.W.findIn K (.type "int") (PySem.dunderR PySem.Operator.RShift.info.2)).isSome = true)
    (ms_int : PySem.W.subIn K (.type "int") (.ref C) = some false)
    (mk_int : PySem.W.kitOne K (.type "int") (.ref C) = some false)
    (ml_list : (PySem.W.findIn K (.type "list") (PySem.dunder PySem.Operator.RShift.info.2)).isSome = true)
    (mr_list : (PySem.W.findIn K (.type "list") (PySem.dunderR PySem.Operator.RShift.info.2)).isSome = true)
    (ms_list : PySem.W.subIn K (.type "list") (.ref C) = some false)
    (mk_list : PySem.W.kitOne K (.type "list") (.ref C) = some false)
    (ml_dict : (PySem.W.findIn K (.type "dict") (PySem.dunder PySem.Operator.RShift.info.2)).isSome = true)
    (mr_dict : (PySem.W.findIn K (.type "dict") (PySem.dunderR PySem.Operator.RShift.info.2)).isSome = true)
    (ms_dict : PySem.W.subIn K (.type "dict") (.ref C) = some false)
    (mk_dict : PySem.W.kitOne K (.type "dict") (.ref C) = some false)
    (ml_tuple : (PySem.W.findIn K (.type "tuple") (PySem.dunder PySem.Operator.RShift.info.2)).isSome = true)
    (mr_tuple : (PySem.W.findIn K (.type "tuple") (PySem.dunderR PySem.Operator.RShift.info.2)).isSome = true)
    (ms_tuple : PySem.W.subIn K (.type "tuple") (.ref C) = some false)
    (mk_tuple : PySem.W.kitOne K (.type "tuple") (.ref C) = some false)
    (z_len : PySem.W.nsIn K mainGlobals "len" = some none)
    (z_int : PySem.W.nsIn K mainGlobals "int" = some none)
    (z_abs : PySem.W.nsIn K mainGlobals "abs" = some none)
    (z_max : PySem.W.nsIn K mainGlobals "max" = some none)
    (z_min : PySem.W.nsIn K mainGlobals "min" = some none)
    (z_range : PySem.W.nsIn K mainGlobals "range" = some none)
    (z_all : PySem.W.nsIn K mainGlobals "all" = some none)
    (z_isinstance : PySem.W.nsIn K mainGlobals "isinstance" = some none)
    (z_str : PySem.W.nsIn K mainGlobals "str" = some none)
    (z_repr : PySem.W.nsIn K mainGlobals "repr" = some none)
    (z_bool : PySem.W.nsIn K mainGlobals "bool" = some none)
    (z_list : PySem.W.nsIn K mainGlobals "list" = some none)
    (z_tuple : PySem.W.nsIn K mainGlobals "tuple" = some none)
    (z_enumerate : PySem.W.nsIn K mainGlobals "enumerate" = some none)
    (z_zip : PySem.W.nsIn K mainGlobals "zip" = some none)
    (z_dict : PySem.W.nsIn K mainGlobals "dict" = some none)
    (G_MAX_PARTS : PySem.W.nsIn K mainGlobals "MAX_PARTS" = some (some (.int 4 t_MAX_PARTS)))
    (G_MAX_ROW : PySem.W.nsIn K mainGlobals "MAX_ROW" = some (some (.int 1000 t_MAX_ROW)))
    (G_KEEP_ALL : PySem.W.nsIn K mainGlobals "KEEP_ALL" = some (some (.str "all" t_KEEP_ALL)))
    (G_DOTS : PySem.W.nsIn K mainGlobals "DOTS" = some (some (.str ".." t_DOTS)))
    (G_MAX_FRONT : PySem.W.nsIn K mainGlobals "MAX_FRONT" = some (some (.int 2 t_MAX_FRONT)))
    (G_MAX_BACK : PySem.W.nsIn K mainGlobals "MAX_BACK" = some (some (.int 3 t_MAX_BACK)))
    (G_REACH : PySem.W.nsIn K mainGlobals "REACH" = some (some (.int 5 t_REACH)))
    (F_is_whole : Fun K "is_whole" "is_whole" s_is_whole f_is_whole fd_is_whole)
    (F_ekept : Fun K "kept" "kept" s_ekept f_ekept fd_ekept)
    (F_is_part : Fun K "is_part" "is_part" s_is_part f_is_part fd_is_part)
    (F_check_parts : Fun K "check_parts" "check_parts" s_check_parts f_check_parts fd_check_parts)
    (F_has_plus : Fun K "has_plus" "has_plus" s_has_plus f_has_plus fd_has_plus)
    (F_part_places : Fun K "part_places" "part_places" s_part_places f_part_places fd_part_places)
    (F_kept_places : Fun K "kept_places" "kept_places" s_kept_places f_kept_places fd_kept_places)
    (F_table_of : Fun K "table_of" "table_of" s_table_of f_table_of fd_table_of)
    (F_keep_all : Fun K "keep_all" "keep_all" s_keep_all f_keep_all fd_keep_all)
    (F_check_cutter : Fun K "check_cutter" "check_cutter" s_check_cutter f_check_cutter fd_check_cutter)
    (F_dice : Fun K "_law_dice" "_law_dice" s_dice f_dice fd_dice)
    (F_roll : Fun K "_law_roll" "_law_roll" s_roll f_roll fd_roll)
    (F_one_of : Fun K "_law_one_of" "_law_one_of" s_one_of f_one_of fd_one_of)
    (F_signs : Fun K "_law_signs" "_law_signs" s_signs f_signs fd_signs)
    (F_part : Fun K "_law_part" "_law_part" s_part f_part fd_part)
    (F_lparts : Fun K "_law_parts" "_law_parts" s_lparts f_lparts fd_lparts)
    (F_met : Fun K "_law_met" "_law_met" s_met f_met fd_met)
    (F_nopart : Fun K "_law_no_part" "_law_no_part" s_nopart f_nopart fd_nopart)
    (F_made : Fun K "_law_made_right" "_law_made_right" s_made f_made fd_made)
    (F_asked : Fun K "_law_asked_right" "_law_asked_right" s_asked f_asked fd_asked)
    (F_law : Fun K "law" "law" s_law f_law fd_law)
    (F_init : Fun K "__init__" "Cutter.__init__" s_init f_init fd_init)
    (F_of : Fun K "of" "Cutter.of" s_of f_of fd_of)
    (F_parts : Fun K "parts" "Cutter.parts" s_parts f_parts fd_parts)
    (F_keeps_all : Fun K "keeps_all" "Cutter.keeps_all" s_keeps_all f_keeps_all fd_keeps_all)
    (F_callc : Fun K "__call__" "Cutter.__call__" s_callc f_callc fd_callc)
    (F_places : Fun K "places" "Cutter.places" s_places f_places fd_places)
    (F_rshift : Fun K "__rshift__" "Cutter.__rshift__" s_rshift f_rshift fd_rshift)
    (F_within : Fun K "is_within" "Cutter.is_within" s_within f_within fd_within)
    (F_parting : Fun K "parting" "Cutter.parting" s_parting f_parting fd_parting)
    (F_ninit : Fun K "__init__" "InvalidNumber.__init__" s_ninit f_ninit fd_ninit) :
    ∀ (p1 p2 p3 : Addr × Addr) (_ : Ly.codeVal K f_made = some (.ref p1.1)) (_ : Ly.codeVal K f_asked = some (.ref p2.1)) (_ : Ly.codeVal K f_law = some (.ref p3.1)) (_ : [p1.2, p2.2, p3.2].Nodup) (base : Heap), K.In base → base.Ns mainGlobals mg → LamX.TabB base mg p1.1 p1.2 → LamX.TabB base mg p2.1 p2.2 → LamX.TabB base mg p3.1 p3.2 → FnG l.prog w K mg base CX0 14 fa (spLawT K (TT p1 p2 p3)) := by
  have e := hfa.symm.trans (PySem.W.mg_of X G a_law)
  cases e
  have Z : Zs mg := ⟨PySem.W.mg_none_of X G z_len, PySem.W.mg_none_of X G z_int, PySem.W.mg_none_of X G z_abs, PySem.W.mg_none_of X G z_max, PySem.W.mg_none_of X G z_min, PySem.W.mg_none_of X G z_range, PySem.W.mg_none_of X G z_all, PySem.W.mg_none_of X G z_isinstance, PySem.W.mg_none_of X G z_str, PySem.W.mg_none_of X G z_repr, PySem.W.mg_none_of X G z_bool, PySem.W.mg_none_of X G z_list, PySem.W.mg_none_of X G z_tuple, PySem.W.mg_none_of X G z_enumerate, PySem.W.mg_none_of X G z_zip, PySem.W.mg_none_of X G z_dict, ⟨_, PySem.W.mg_of X G G_MAX_PARTS⟩, ⟨_, PySem.W.mg_of X G G_MAX_ROW⟩, ⟨_, PySem.W.mg_of X G G_KEEP_ALL⟩, ⟨_, PySem.W.mg_of X G G_DOTS⟩, ⟨_, PySem.W.mg_of X G G_MAX_FRONT⟩, ⟨_, PySem.W.mg_of X G G_MAX_BACK⟩, ⟨_, PySem.W.mg_of X G G_REACH⟩⟩
  have D_is_whole : Df K mg "is_whole" s_is_whole P_is_whole f_is_whole _ := ⟨F_is_whole, F_is_whole.binds (ps := P_is_whole) fun _ _ _ _ _ _ us hl => match us, hl with | [_], _ => rfl, PySem.W.mg_of X G a_is_whole⟩
  have D_ekept : Df K mg "kept" s_ekept P_ekept f_ekept _ := ⟨F_ekept, F_ekept.binds (ps := P_ekept) fun _ _ _ _ _ _ us hl => match us, hl with | [_], _ => rfl, PySem.W.mg_of X G a_ekept⟩
  have D_is_part : Df K mg "is_part" s_is_part P_is_part f_is_part _ := ⟨F_is_part, F_is_part.binds (ps := P_is_part) fun _ _ _ _ _ _ us hl => match us, hl with | [_], _ => rfl, PySem.W.mg_of X G a_is_part⟩
  have D_check_parts : Df K mg "check_parts" s_check_parts P_check_parts f_check_parts _ := ⟨F_check_parts, F_check_parts.binds (ps := P_check_parts) fun _ _ _ _ _ _ us hl => match us, hl with | [_], _ => rfl, PySem.W.mg_of X G a_check_parts⟩
  have D_has_plus : Df K mg "has_plus" s_has_plus P_has_plus f_has_plus _ := ⟨F_has_plus, F_has_plus.binds (ps := P_has_plus) fun _ _ _ _ _ _ us hl => match us, hl with | [_, _], _ => rfl, PySem.W.mg_of X G a_has_plus⟩
  have D_part_places : Df K mg "part_places" s_part_places P_part_places f_part_places _ := ⟨F_part_places, F_part_places.binds (ps := P_part_places) fun _ _ _ _ _ _ us hl => match us, hl with | [_, _], _ => rfl, PySem.W.mg_of X G a_part_places⟩
  have D_kept_places : Df K mg "kept_places" s_kept_places P_kept_places f_kept_places _ := ⟨F_kept_places, F_kept_places.binds (ps := P_kept_places) fun _ _ _ _ _ _ us hl => match us, hl with | [_, _], _ => rfl, PySem.W.mg_of X G a_kept_places⟩
  have D_table_of : Df K mg "table_of" s_table_of P_table_of f_table_of _ := ⟨F_table_of, F_table_of.binds (ps := P_table_of) fun _ _ _ _ _ _ us hl => match us, hl with | [_], _ => rfl, PySem.W.mg_of X G a_table_of⟩
  have D_keep_all : Df K mg "keep_all" s_keep_all P_keep_all f_keep_all _ := ⟨F_keep_all, F_keep_all.binds (ps := P_keep_all) fun _ _ _ _ _ _ us hl => match us, hl with | [_], _ => rfl, PySem.W.mg_of X G a_keep_all⟩
  have D_check_cutter : Df K mg "check_cutter" s_check_cutter P_check_cutter f_check_cutter _ := ⟨F_check_cutter, F_check_cutter.binds (ps := P_check_cutter) fun _ _ _ _ _ _ us hl => match us, hl with | [_], _ => rfl, PySem.W.mg_of X G a_check_cutter⟩
  have D_dice : Df K mg "_law_dice" s_dice P_dice f_dice _ := ⟨F_dice, F_dice.binds (ps := P_dice) fun _ _ _ _ _ _ us hl => match us, hl with | [_, _], _ => rfl, PySem.W.mg_of X G a_dice⟩
  have D_roll : Df K mg "_law_roll" s_roll P_roll f_roll _ := ⟨F_roll, F_roll.binds (ps := P_roll) fun _ _ _ _ _ _ us hl => match us, hl with | [_, _], _ => rfl, PySem.W.mg_of X G a_roll⟩
  have D_one_of : Df K mg "_law_one_of" s_one_of P_one_of f_one_of _ := ⟨F_one_of, F_one_of.binds (ps := P_one_of) fun _ _ _ _ _ _ us hl => match us, hl with | [_, _], _ => rfl, PySem.W.mg_of X G a_one_of⟩
  have D_signs : Df K mg "_law_signs" s_signs P_signs f_signs _ := ⟨F_signs, F_signs.binds (ps := P_signs) fun _ _ _ _ _ _ us hl => match us, hl with | [_, _], _ => rfl, PySem.W.mg_of X G a_signs⟩
  have D_part : Df K mg "_law_part" s_part P_part f_part _ := ⟨F_part, F_part.binds (ps := P_part) fun _ _ _ _ _ _ us hl => match us, hl with | [_], _ => rfl, PySem.W.mg_of X G a_part⟩
  have D_lparts : Df K mg "_law_parts" s_lparts P_lparts f_lparts _ := ⟨F_lparts, F_lparts.binds (ps := P_lparts) fun _ _ _ _ _ _ us hl => match us, hl with | [_, _], _ => rfl, PySem.W.mg_of X G a_lparts⟩
  have D_met : Df K mg "_law_met" s_met P_met f_met _ := ⟨F_met, F_met.binds (ps := P_met) fun _ _ _ _ _ _ us hl => match us, hl with | [_], _ => rfl, PySem.W.mg_of X G a_met⟩
  have D_nopart : Df K mg "_law_no_part" s_nopart P_nopart f_nopart _ := ⟨F_nopart, F_nopart.binds (ps := P_nopart) fun _ _ _ _ _ _ us hl => match us, hl with | [_], _ => rfl, PySem.W.mg_of X G a_nopart⟩
  have D_made : Df K mg "_law_made_right" s_made P_made f_made _ := ⟨F_made, F_made.binds (ps := P_made) fun _ _ _ _ _ _ us hl => match us, hl with | [_], _ => rfl, PySem.W.mg_of X G a_made⟩
  have D_asked : Df K mg "_law_asked_right" s_asked P_asked f_asked _ := ⟨F_asked, F_asked.binds (ps := P_asked) fun _ _ _ _ _ _ us hl => match us, hl with | [_], _ => rfl, PySem.W.mg_of X G a_asked⟩
  have D_law : Df K mg "law" s_law P_law fa _ := ⟨F_law, F_law.binds (ps := P_law) fun _ _ _ _ _ _ us hl => match us, hl with | [_], _ => rfl, PySem.W.mg_of X G a_law⟩
  have D_of : Dm K "of" "Cutter.of" s_of P_of f_of _ := ⟨F_of, F_of.binds (ps := P_of) fun _ _ _ _ _ _ us hl => match us, hl with | [_, _], _ => rfl⟩
  have D_parts : Dm K "parts" "Cutter.parts" s_parts P_parts f_parts _ := ⟨F_parts, F_parts.binds (ps := P_parts) fun _ _ _ _ _ _ us hl => match us, hl with | [_], _ => rfl⟩
  have D_keeps_all : Dm K "keeps_all" "Cutter.keeps_all" s_keeps_all P_keeps_all f_keeps_all _ := ⟨F_keeps_all, F_keeps_all.binds (ps := P_keeps_all) fun _ _ _ _ _ _ us hl => match us, hl with | [_], _ => rfl⟩
  have D_callc : Dm K "__call__" "Cutter.__call__" s_callc P_callc f_callc _ := ⟨F_callc, F_callc.binds (ps := P_callc) fun _ _ _ _ _ _ us hl => match us, hl with | [_, _], _ => rfl⟩
  have D_places : Dm K "places" "Cutter.places" s_places P_places f_places _ := ⟨F_places, F_places.binds (ps := P_places) fun _ _ _ _ _ _ us hl => match us, hl with | [_, _], _ => rfl⟩
  have D_rshift : Dm K "__rshift__" "Cutter.__rshift__" s_rshift P_rshift f_rshift _ := ⟨F_rshift, F_rshift.binds (ps := P_rshift) fun _ _ _ _ _ _ us hl => match us, hl with | [_, _], _ => rfl⟩
  have D_within : Dm K "is_within" "Cutter.is_within" s_within P_within f_within _ := ⟨F_within, F_within.binds (ps := P_within) fun _ _ _ _ _ _ us hl => match us, hl with | [_, _], _ => rfl⟩
  have D_parting : Dm K "parting" "Cutter.parting" s_parting P_parting f_parting _ := ⟨F_parting, F_parting.binds (ps := P_parting) fun _ _ _ _ _ _ us hl => match us, hl with | [_, _], _ => rfl⟩
  have D_ninit : Dm K "__init__" "InvalidNumber.__init__" s_ninit P_ninit f_ninit _ := ⟨F_ninit, F_ninit.binds (ps := P_ninit) fun _ _ _ _ _ _ us hl => match us, hl with | [_, _], _ => rfl⟩
  intro p1 p2 p3 v1 v2 v3 nd base _ _ B1 B2 B3
  have cl : Cls K C := ⟨C3, C4, C5, C6⟩
  have c : CK K C := ⟨cl, C_parts, C_table, C_keeps_all, C9, C10, C11, C12, if_pos (beq_self_eq_true _)⟩
  have hC : mg "Cutter" = some (.ref C) := PySem.W.mg_of X G aC
  have gCC : mg "InvalidCutter" = some (.ref CC) := PySem.W.mg_of X G aCC
  have gCO : mg "InvalidOperation" = some (.ref CO) := PySem.W.mg_of X G aCO
  have gCN : mg "InvalidNumber" = some (.ref CN) := PySem.W.mg_of X G aCN
  have gCM : mg "TooMany" = some (.ref CM) := PySem.W.mg_of X G aCM
  have gCL : mg "LetterError" = some (.ref CL) := PySem.W.mg_of X G aCL
  have XC : XE0 K mg "InvalidCutter" CC := ⟨gCC, CCx, CCk, CCb, CCt⟩
  have XO : XE0 K mg "InvalidOperation" CO := ⟨gCO, COx, COk, COb, COt⟩
  have M : Mt K mg CC CO CN CM CL := ⟨gCC, gCO, gCN, gCM, gCL, PySem.W.mg_none_of X G zV, Z.z_isinstance, Z.z_repr, ⟨CCga, CCgg, CCb, CChd, CCcl, C10, C11, CCmo⟩, ⟨COga, COgg, COb, COhd, COcl, C10, C11, COmo⟩, ⟨CNga, CNgg, CNb, CNhd⟩, CNf, e_cc, e_oc, e_oo, e_nc, e_no, e_nn, kL, kO, kV⟩
  have TN : OexX K CN "RuntimeError" "RuntimeError.__new__" "RuntimeError.__init__" [.type "RuntimeError", .type "Exception", .type "BaseException", .type "object"] := ⟨F.excBase_RuntimeError, fun _ => rfl, by decide +kernel, Ht.excB_ok CNl, CNsa, CNb, CNt, CNk⟩
  have C_whole := D_is_whole.cl (P := l.prog) (w := w) (base := base) (ok_whole Z D_is_whole)
  have C_plus := D_has_plus.cl (P := l.prog) (w := w) (base := base) (ok_plus Z D_has_plus)
  have C_pplaces := D_part_places.cl (P := l.prog) (w := w) (base := base) (ok_places Z D_part_places C_plus)
  have C_kplaces := D_kept_places.cl (P := l.prog) (w := w) (base := base) (ok_kept Z D_kept_places C_pplaces)
  have C_table' := D_table_of.cl (P := l.prog) (w := w) (base := base) (ok_table Z D_table_of C_kplaces)
  have C_ispart := D_is_part.cl (P := l.prog) (w := w) (base := base) (ok_is_part Z D_is_part)
  have C_ispartA : Cl l.prog w K mg base "is_part" 1 f_is_part _ P_is_part (spIsPartA K) := D_is_part.cl (Ly.or_ok (ok_is_part Z D_is_part) (ok_is_partF Z D_is_part))
  have C_check := D_check_parts.cl (P := l.prog) (w := w) (base := base) (ok_check Z D_check_parts C_ispart)
  have C_checkX : Cl2 l.prog w K mg base (L2.CX l.prog w) "check_parts" 2 f_check_parts _ P_check_parts (spCheckX K CC) := ⟨ok_checkX Z D_check_parts XC C_ispartA, D_check_parts.g, D_check_parts.F.kp, D_check_parts.b⟩
  have C_keepall := D_keep_all.cl (P := l.prog) (w := w) (base := base) (ok_keep_all Z D_keep_all)
  have FI := ok_init (base := base) (P := l.prog) (w := w) Z F_init c C_check C_table' C_keepall
  have FIX := ok_initX (base := base) (P := l.prog) (w := w) F_init C_checkX
  have MK : Mk K C f_init := ⟨C1, t_init, n_init, C2⟩
  have M_parts : FnOk l.prog w K mg base CX0 1 f_parts _ P_parts (spParts C) := okm_parts Z D_parts c
  have M_keeps : Cm l.prog w K mg base 1 f_keeps_all _ P_keeps_all (spKeeps C) := ⟨okm_keeps_all Z D_keeps_all c, D_keeps_all.b⟩
  have pr_parts : PropOf K C "parts" p_parts f_parts := ⟨t_parts, g_parts, u_parts, _, r_parts⟩
  have pr_keeps : PropOf K C "keeps_all" p_keeps_all f_keeps_all := ⟨t_keeps_all, g_keeps_all, u_keeps_all, _, r_keeps_all⟩
  have M_places : Cm l.prog w K mg base 3 f_places _ P_places (spCutPlaces C) := ⟨okm_places Z D_places c C_whole pr_keeps M_keeps, D_places.b⟩
  have me_places : Meth K C "places" f_places := ⟨t_places, n_places, F_places.kp⟩
  have F_call := D_callc.raw (okm_callc (P := l.prog) (w := w) (base := base) Z D_callc c me_places M_places)
  have F_callX := D_callc.raw (okm_callX (P := l.prog) (w := w) (base := base) Z D_callc XO)
  have cO : StX.CallO K C f_callc := ⟨t_callc, n_callc, i_callc⟩
  have F_of := D_of.raw (okm_of (P := l.prog) (w := w) (base := base) Z D_of MK FI)
  have F_ofX := D_of.raw (okm_ofX (P := l.prog) (w := w) (base := base) Z D_of XC MK FIX)
  have C_chkX : Cl2 l.prog w K mg base (L2.CX l.prog w) "check_cutter" 1 f_check_cutter _ P_check_cutter (spChkX K C CC) := ⟨ok_chkX Z D_check_cutter XC hC, D_check_cutter.g, D_check_cutter.F.kp, D_check_cutter.b⟩
  have okW : FnOk l.prog w K mg base (L2.CX l.prog w) 2 f_within _ P_within (spWrong K C CC) := okm_withinX D_within C_chkX
  have okP : FnOk l.prog w K mg base (L2.CX l.prog w) 2 f_parting _ P_parting (spWrong K C CC) := okm_partingX D_parting C_chkX
  have okR : FnOk l.prog w K mg base (L2.CX l.prog w) 2 f_rshift _ P_rshift (spWrong K C CC) := okm_rshiftX D_rshift C_chkX
  have C_kept0 := D_ekept.cl (P := l.prog) (w := w) (base := base) (ok_kept0 Z D_ekept)
  have C_kept1 := D_ekept.cl (P := l.prog) (w := w) (base := base) (ok_kept1 Z D_ekept C_kept0)
  have M_ninit : Cm l.prog w K mg base 3 f_ninit _ P_ninit (spNum CN "value") := ⟨okm_ninit D_ninit TN CNf C_kept1, D_ninit.b⟩
  have okN : FnOk l.prog w K mg base (L2.CX l.prog w) 5 f_places _ P_places (spPlacesX K CN) := okm_placesX Z D_places C_whole TN gCN CNi CNit M_ninit
  have Y : Yc l.prog w K mg base C CC CO CN CM CL f_init f_of p_of (.type "type") := ⟨hC, c, ks, kt, MK, FI, FIX, ⟨C14, C15⟩, ⟨t_of, r_of, i_of⟩, F_of, F_ofX, M⟩
  have A : Ya l.prog w K mg base C CC CO CN f_within f_parting f_places f_callc f_rshift p_parts f_parts _ _ _ _ none := ⟨⟨t_within, n_within, F_within.kp⟩, okW, D_within.b, ⟨t_parting, n_parting, F_parting.kp⟩, okP, D_parting.b, me_places, okN, D_places.b, cO, F_call, F_callX, t_rshift, n_rshift, C18, hrc, .inl rfl, D_rshift.raw okR, pr_parts, M_parts, D_parts.b,
    fun T hT => by
    simp only [List.mem_cons, List.not_mem_nil, or_false] at hT
    rcases hT with rfl | rfl | rfl | rfl | rfl | rfl | rfl
    · exact ⟨⟨ml_str, mr_str, ms_str⟩, mk_str⟩
    · exact ⟨⟨ml_NoneType, mr_NoneType, ms_NoneType⟩, mk_NoneType⟩
    · exact ⟨⟨ml_bool, mr_bool, ms_bool⟩, mk_bool⟩
    · exact ⟨⟨ml_int, mr_int, ms_int⟩, mk_int⟩
    · exact ⟨⟨ml_list, mr_list, ms_list⟩, mk_list⟩
    · exact ⟨⟨ml_dict, mr_dict, ms_dict⟩, mk_dict⟩
    · exact ⟨⟨ml_tuple, mr_tuple, ms_tuple⟩, mk_tuple⟩⟩
  have C_roll := D_roll.cl (P := l.prog) (w := w) (base := base) (ok_roll Z D_roll)
  have C_one := D_one_of.cl (P := l.prog) (w := w) (base := base) (ok_oneL Z D_one_of C_roll)
  have C_signs := D_signs.cl (P := l.prog) (w := w) (base := base) (ok_signs Z D_signs C_roll C_one)
  have C_part := D_part.cl (P := l.prog) (w := w) (base := base) (ok_part Z D_part C_roll C_one C_signs)
  have C_lparts := D_lparts.cl (P := l.prog) (w := w) (base := base) (ok_lparts Z D_lparts C_one C_part)
  have C_nopart := D_nopart.cl (P := l.prog) (w := w) (base := base) (ok_nopart Z D_nopart hC MK FI C_one)
  have m1 : (p1.2, (("_law_made_right" : Str) ++ ".<locals>.") ++ "<lambda>") ∈ TT p1 p2 p3 := List.mem_cons_self
  have m2 : (p2.2, (("_law_asked_right" : Str) ++ ".<locals>.") ++ "<lambda>") ∈ TT p1 p2 p3 := List.mem_cons_of_mem _ List.mem_cons_self
  have m3 : (p3.2, (("law" : Str) ++ ".<locals>.") ++ "<lambda>") ∈ TT p1 p2 p3 := List.mem_cons_of_mem _ (List.mem_cons_of_mem _ List.mem_cons_self)
  have C_made : Cg l.prog w K mg base "_law_made_right" 12 f_made (spMade (TT p1 p2 p3)) := ⟨ok_made Z D_made Y C_roll C_one C_part C_nopart D_met B1 v1 rfl m1 (tt_one nd m1), D_made.g, D_made.F.kp⟩
  have C_asked : Cg l.prog w K mg base "_law_asked_right" 12 f_asked (spMade (TT p1 p2 p3)) := ⟨ok_asked Z D_asked Y A C_roll C_one C_lparts D_met B2 v2 rfl m2 (tt_one nd m2), D_asked.g, D_asked.F.kp⟩
  exact ok_law Z D_law Y (D_dice.cl (ok_dice Z D_dice)) C_made C_asked me_places M_places D_met B3 v3 rfl m3 (tt_one nd m3)
end K05
namespace K05.HD
open PySem PySem.W PySem.Calls PyProof.Rows L2 K05
def nm0 : List PySem.Str := ["_wall", "is_whole", "kept", "LetterError", "InvalidCutter", "InvalidOperation", "InvalidNumber", "TooMany", "MAX_PARTS", "MAX_ROW", "KEEP_ALL", "DOTS", "MAX_FRONT", "MAX_BACK", "REACH", "is_part", "check_parts", "has_plus", "part_places", "kept_places", "keep_all", "table_of", "Cutter", "check_cutter", "_law_dice", "_law_roll", "_law_one_of", "_law_signs", "_law_part", "_law_parts"]
def nm1 : List PySem.Str := ["_law_kept", "_law_met", "_law_no_part", "_law_made_right", "_law_asked_right"]
def nms : List PySem.Str := nm0 ++ nm1
def ad_f_is_whole (K : Frag) : Addr := He.ga K "is_whole"
def ad_f_ekept (K : Frag) : Addr := He.ga K "kept"
def ad_f_is_part (K : Frag) : Addr := He.ga K "is_part"
def ad_f_check_parts (K : Frag) : Addr := He.ga K "check_parts"
def ad_f_has_plus (K : Frag) : Addr := He.ga K "has_plus"
def ad_f_part_places (K : Frag) : Addr := He.ga K "part_places"
def ad_f_kept_places (K : Frag) : Addr := He.ga K "kept_places"
def ad_f_table_of (K : Frag) : Addr := He.ga K "table_of"
def ad_f_keep_all (K : Frag) : Addr := He.ga K "keep_all"
def ad_f_check_cutter (K : Frag) : Addr := He.ga K "check_cutter"
def ad_f_dice (K : Frag) : Addr := He.ga K "_law_dice"
def ad_f_roll (K : Frag) : Addr := He.ga K "_law_roll"
def ad_f_one_of (K : Frag) : Addr := He.ga K "_law_one_of"
def ad_f_signs (K : Frag) : Addr := He.ga K "_law_signs"
def ad_f_part (K : Frag) : Addr := He.ga K "_law_part"
def ad_f_lparts (K : Frag) : Addr := He.ga K "_law_parts"
def ad_f_met (K : Frag) : Addr := He.ga K "_law_met"
def ad_f_nopart (K : Frag) : Addr := He.ga K "_law_no_part"
def ad_f_made (K : Frag) : Addr := He.ga K "_law_made_right"
def ad_f_asked (K : Frag) : Addr := He.ga K "_law_asked_right"
def ad_f_law (K : Frag) : Addr := He.ga K "law"
def ad_C (K : Frag) : Addr := He.ga K "Cutter"
def ad_f_init (K : Frag) : Addr := He.ma K (He.ga K "Cutter") "__init__"
def ad_p_of (K : Frag) : Addr := He.ma K (He.ga K "Cutter") "of"
def ad_f_of (K : Frag) : Addr := He5.wf K (He.ga K "Cutter") "classmethod" "of"
def ad_p_parts (K : Frag) : Addr := He.ma K (He.ga K "Cutter") "parts"
def ad_f_parts (K : Frag) : Addr := He5.wf K (He.ga K "Cutter") "property" "parts"
def ad_p_keeps_all (K : Frag) : Addr := He.ma K (He.ga K "Cutter") "keeps_all"
def ad_f_keeps_all (K : Frag) : Addr := He5.wf K (He.ga K "Cutter") "property" "keeps_all"
def ad_f_callc (K : Frag) : Addr := He.ma K (He.ga K "Cutter") "__call__"
def ad_f_places (K : Frag) : Addr := He.ma K (He.ga K "Cutter") "places"
def ad_f_rshift (K : Frag) : Addr := He.ma K (He.ga K "Cutter") "__rshift__"
def ad_f_within (K : Frag) : Addr := He.ma K (He.ga K "Cutter") "is_within"
def ad_f_parting (K : Frag) : Addr := He.ma K (He.ga K "Cutter") "parting"
def ad_CC (K : Frag) : Addr := He.ga K "InvalidCutter"
def ad_CO (K : Frag) : Addr := He.ga K "InvalidOperation"
def ad_CN (K : Frag) : Addr := He.ga K "InvalidNumber"
def ad_f_ninit (K : Frag) : Addr := He.ma K (He.ga K "InvalidNumber") "__init__"
def ad_CM (K : Frag) : Addr := He.ga K "TooMany"
def ad_CL (K : Frag) : Addr := He.ga K "LetterError"
def ad_rest_parts (K : Frag) : List Value := ((PySem.W.recIn K (He.ma K (He.ga K "Cutter") "parts") "property").getD []).tail
def ad_rest_keeps_all (K : Frag) : List Value := ((PySem.W.recIn K (He.ma K (He.ga K "Cutter") "keeps_all") "property").getD []).tail
def ad_t_MAX_PARTS (K : Frag) : Tok := (match PySem.W.nsIn K mainGlobals "MAX_PARTS" with | some (some (.int _ t)) => t | _ => default)
def ad_t_MAX_ROW (K : Frag) : Tok := (match PySem.W.nsIn K mainGlobals "MAX_ROW" with | some (some (.int _ t)) => t | _ => default)
def ad_t_KEEP_ALL (K : Frag) : Tok := (match PySem.W.nsIn K mainGlobals "KEEP_ALL" with | some (some (.str _ t)) => t | _ => default)
def ad_t_DOTS (K : Frag) : Tok := (match PySem.W.nsIn K mainGlobals "DOTS" with | some (some (.str _ t)) => t | _ => default)
def ad_t_MAX_FRONT (K : Frag) : Tok := (match PySem.W.nsIn K mainGlobals "MAX_FRONT" with | some (some (.int _ t)) => t | _ => default)
def ad_t_MAX_BACK (K : Frag) : Tok := (match PySem.W.nsIn K mainGlobals "MAX_BACK" with | some (some (.int _ t)) => t | _ => default)
def ad_t_REACH (K : Frag) : Tok := (match PySem.W.nsIn K mainGlobals "REACH" with | some (some (.int _ t)) => t | _ => default)
def cs0 : List Hm.Test := [fun K => decide (PySem.W.nsIn K mainGlobals "is_whole" = some (some (.ref (ad_f_is_whole K)))),
  fun K => decide (PySem.W.nsIn K mainGlobals "kept" = some (some (.ref (ad_f_ekept K)))),
  fun K => decide (PySem.W.nsIn K mainGlobals "is_part" = some (some (.ref (ad_f_is_part K)))),
  fun K => decide (PySem.W.nsIn K mainGlobals "check_parts" = some (some (.ref (ad_f_check_parts K)))),
  fun K => decide (PySem.W.nsIn K mainGlobals "has_plus" = some (some (.ref (ad_f_has_plus K)))),
  fun K => decide (PySem.W.nsIn K mainGlobals "part_places" = some (some (.ref (ad_f_part_places K)))),
  fun K => decide (PySem.W.nsIn K mainGlobals "kept_places" = some (some (.ref (ad_f_kept_places K)))),
  fun K => decide (PySem.W.nsIn K mainGlobals "table_of" = some (some (.ref (ad_f_table_of K)))),
  fun K => decide (PySem.W.nsIn K mainGlobals "keep_all" = some (some (.ref (ad_f_keep_all K)))),
  fun K => decide (PySem.W.nsIn K mainGlobals "check_cutter" = some (some (.ref (ad_f_check_cutter K)))),
  fun K => decide (PySem.W.nsIn K mainGlobals "_law_dice" = some (some (.ref (ad_f_dice K)))),
  fun K => decide (PySem.W.nsIn K mainGlobals "_law_roll" = some (some (.ref (ad_f_roll K)))),
  fun K => decide (PySem.W.nsIn K mainGlobals "_law_one_of" = some (some (.ref (ad_f_one_of K)))),
  fun K => decide (PySem.W.nsIn K mainGlobals "_law_signs" = some (some (.ref (ad_f_signs K)))),
  fun K => decide (PySem.W.nsIn K mainGlobals "_law_part" = some (some (.ref (ad_f_part K)))),
  fun K => decide (PySem.W.nsIn K mainGlobals "_law_parts" = some (some (.ref (ad_f_lparts K)))),
  fun K => decide (PySem.W.nsIn K mainGlobals "_law_met" = some (some (.ref (ad_f_met K)))),
  fun K => decide (PySem.W.nsIn K mainGlobals "_law_no_part" = some (some (.ref (ad_f_nopart K)))),
  fun K => decide (PySem.W.nsIn K mainGlobals "_law_made_right" = some (some (.ref (ad_f_made K)))),
  fun K => decide (PySem.W.nsIn K mainGlobals "_law_asked_right" = some (some (.ref (ad_f_asked K))))]
def cs1 : List Hm.Test := [fun K => decide (PySem.W.nsIn K mainGlobals "law" = some (some (.ref (ad_f_law K)))),
  fun K => decide (PySem.W.nsIn K mainGlobals "Cutter" = some (some (.ref (ad_C K)))),
  fun K => PySem.W.makesIn K (ad_C K),
  fun K => PySem.W.keepIn K (.ref (ad_C K)),
  fun K => PySem.W.plainGet K (ad_C K) Str.empty,
  fun K => PySem.W.hasDictIn K (ad_C K),
  fun K => PySem.W.plainOver K (ad_C K),
  fun K => decide (PySem.W.findIn K (.ref (ad_C K)) "__setattr__" = some (some (.builtin "object.__setattr__"))),
  fun K => decide (PySem.W.findIn K (.ref (ad_C K)) "_parts" = some none),
  fun K => decide (PySem.W.findIn K (.ref (ad_C K)) "_table" = some none),
  fun K => decide (PySem.W.findIn K (.ref (ad_C K)) "_keeps_all" = some none),
  fun K => decide (PySem.W.findIn K (.ref (ad_C K)) "__class__" = some (some (.builtin "object.__class__"))),
  fun K => decide (PySem.W.specialIn K (.builtin "object.__class__") "__get__" = some (some (.builtin "getset_descriptor.__get__"))),
  fun K => decide (PySem.W.takesIn K (.builtin "object.__class__") = some true),
  fun K => decide (PySem.W.mroIn K (ad_C K) (.type "object") = some true),
  fun K => decide (PySem.W.findIn K (.ref (ad_C K)) "__ne__" = some (some (.builtin "object.__ne__"))),
  fun K => PySem.W.isClsIn K (ad_C K),
  fun K => decide (PySem.W.typeIn K (.ref (ad_C K)) = some (.type "type")),
  fun K => PySem.W.readsIn K (ad_C K) (.type "type"),
  fun K => decide (PySem.W.specialIn K (.ref (ad_C K)) "__getattribute__" = some (some (.builtin "type.__getattribute__")))]
def cs2 : List Hm.Test := [fun K => PySem.W.selfFirst K (ad_C K),
  fun K => decide (PySem.W.findIn K (.ref (ad_C K)) "__init__" = some (some (.ref (ad_f_init K)))),
  fun K => PySem.W.isFn K (.ref (ad_f_init K)),
  fun K => He5.wrapB K (ad_C K) "classmethod" "classmethod.__get__" "of",
  fun K => PySem.W.fnIn K (ad_f_of K),
  fun K => decide (PySem.W.findIn K (.ref (ad_C K)) "parts" = some (some (.ref (ad_p_parts K)))),
  fun K => decide (PySem.W.specialIn K (.ref (ad_p_parts K)) "__get__" = some (some (.builtin "property.__get__"))),
  fun K => decide (PySem.W.takesIn K (.ref (ad_p_parts K)) = some true),
  fun K => decide (PySem.W.recIn K (ad_p_parts K) "property" = some (.ref (ad_f_parts K) :: (ad_rest_parts K))),
  fun K => decide (PySem.W.findIn K (.ref (ad_C K)) "keeps_all" = some (some (.ref (ad_p_keeps_all K)))),
  fun K => decide (PySem.W.specialIn K (.ref (ad_p_keeps_all K)) "__get__" = some (some (.builtin "property.__get__"))),
  fun K => decide (PySem.W.takesIn K (.ref (ad_p_keeps_all K)) = some true),
  fun K => decide (PySem.W.recIn K (ad_p_keeps_all K) "property" = some (.ref (ad_f_keeps_all K) :: (ad_rest_keeps_all K))),
  fun K => decide (PySem.W.findIn K (.ref (ad_C K)) "__call__" = some (some (.ref (ad_f_callc K)))),
  fun K => PySem.W.isFn K (.ref (ad_f_callc K)),
  fun K => PySem.W.fnIn K (ad_f_callc K),
  fun K => decide (PySem.W.findIn K (.ref (ad_C K)) "places" = some (some (.ref (ad_f_places K)))),
  fun K => PySem.W.isFn K (.ref (ad_f_places K)),
  fun K => decide (PySem.W.findIn K (.ref (ad_C K)) "__rshift__" = some (some (.ref (ad_f_rshift K)))),
  fun K => PySem.W.isFn K (.ref (ad_f_rshift K))]
def cs3 : List Hm.Test := [fun K => decide (PySem.W.findIn K (.ref (ad_C K)) "is_within" = some (some (.ref (ad_f_within K)))),
  fun K => PySem.W.isFn K (.ref (ad_f_within K)),
  fun K => decide (PySem.W.findIn K (.ref (ad_C K)) "parting" = some (some (.ref (ad_f_parting K)))),
  fun K => PySem.W.isFn K (.ref (ad_f_parting K)),
  fun K => decide (PySem.W.nsIn K mainGlobals "InvalidCutter" = some (some (.ref (ad_CC K)))),
  fun K => PySem.W.keepIn K (.ref (ad_CC K)),
  fun K => decide (PySem.W.subIn K (.ref (ad_CC K)) (.type "BaseException") = some true),
  fun K => decide (PySem.W.typeIn K (.ref (ad_CC K)) = some (.type "type")),
  fun K => decide (PySem.W.findIn K (.ref (ad_CC K)) "__getattribute__" = some (some (.builtin "BaseException.__getattribute__"))),
  fun K => decide (PySem.W.findIn K (.ref (ad_CC K)) "__getattr__" = some none),
  fun K => PySem.W.hasDictIn K (ad_CC K),
  fun K => PySem.W.excIn K (ad_CC K) [.type "ValueError", .type "Exception", .type "BaseException", .type "object"] "ValueError.__new__",
  fun K => decide (PySem.W.findIn K (.ref (ad_CC K)) "__class__" = some (some (.builtin "object.__class__"))),
  fun K => decide (PySem.W.mroIn K (ad_CC K) (.type "object") = some true),
  fun K => decide (PySem.W.nsIn K mainGlobals "InvalidOperation" = some (some (.ref (ad_CO K)))),
  fun K => PySem.W.keepIn K (.ref (ad_CO K)),
  fun K => decide (PySem.W.subIn K (.ref (ad_CO K)) (.type "BaseException") = some true),
  fun K => decide (PySem.W.typeIn K (.ref (ad_CO K)) = some (.type "type")),
  fun K => decide (PySem.W.findIn K (.ref (ad_CO K)) "__getattribute__" = some (some (.builtin "BaseException.__getattribute__"))),
  fun K => decide (PySem.W.findIn K (.ref (ad_CO K)) "__getattr__" = some none)]
def cs4 : List Hm.Test := [fun K => PySem.W.hasDictIn K (ad_CO K),
  fun K => PySem.W.excIn K (ad_CO K) [.type "ValueError", .type "Exception", .type "BaseException", .type "object"] "ValueError.__new__",
  fun K => decide (PySem.W.findIn K (.ref (ad_CO K)) "__class__" = some (some (.builtin "object.__class__"))),
  fun K => decide (PySem.W.mroIn K (ad_CO K) (.type "object") = some true),
  fun K => decide (PySem.W.nsIn K mainGlobals "InvalidNumber" = some (some (.ref (ad_CN K)))),
  fun K => PySem.W.keepIn K (.ref (ad_CN K)),
  fun K => decide (PySem.W.subIn K (.ref (ad_CN K)) (.type "BaseException") = some true),
  fun K => decide (PySem.W.typeIn K (.ref (ad_CN K)) = some (.type "type")),
  fun K => decide (PySem.W.findIn K (.ref (ad_CN K)) "__getattribute__" = some (some (.builtin "BaseException.__getattribute__"))),
  fun K => decide (PySem.W.findIn K (.ref (ad_CN K)) "__getattr__" = some none),
  fun K => PySem.W.hasDictIn K (ad_CN K),
  fun K => Ht.excB K (ad_CN K) [.type "RuntimeError", .type "Exception", .type "BaseException", .type "object"] "RuntimeError.__new__",
  fun K => decide (PySem.W.findIn K (.ref (ad_CN K)) "__setattr__" = some (some (.builtin "object.__setattr__"))),
  fun K => decide (PySem.W.findIn K (.ref (ad_CN K)) "value" = some none),
  fun K => decide (PySem.W.findIn K (.ref (ad_CN K)) "__init__" = some (some (.ref (ad_f_ninit K)))),
  fun K => decide (PySem.W.typeIn K (.ref (ad_f_ninit K)) = some (.type "function")),
  fun K => decide (PySem.W.nsIn K mainGlobals "TooMany" = some (some (.ref (ad_CM K)))),
  fun K => decide (PySem.W.nsIn K mainGlobals "LetterError" = some (some (.ref (ad_CL K)))),
  fun K => decide (PySem.W.nsIn K mainGlobals "ValueError" = some none),
  fun K => decide (PySem.W.exmOne K (.ref (ad_CC K)) (.ref (ad_CC K)) = some true)]
def cs5 : List Hm.Test := [fun K => decide (PySem.W.exmOne K (.ref (ad_CO K)) (.ref (ad_CC K)) = some false),
  fun K => decide (PySem.W.exmOne K (.ref (ad_CO K)) (.ref (ad_CO K)) = some true),
  fun K => decide (PySem.W.exmOne K (.ref (ad_CN K)) (.ref (ad_CC K)) = some false),
  fun K => decide (PySem.W.exmOne K (.ref (ad_CN K)) (.ref (ad_CO K)) = some false),
  fun K => decide (PySem.W.exmOne K (.ref (ad_CN K)) (.ref (ad_CN K)) = some true),
  fun K => decide (PySem.W.kitOne K (.ref (ad_CC K)) (.ref (ad_CL K)) = some true),
  fun K => decide (PySem.W.kitOne K (.ref (ad_CC K)) (.ref (ad_CO K)) = some false),
  fun K => decide (PySem.W.kitOne K (.ref (ad_CO K)) (.type "ValueError") = some true),
  fun K => decide (PySem.W.kitOne K (.ref (ad_C K)) (.type "str") = some false),
  fun K => decide (PySem.W.kitOne K (.ref (ad_C K)) (.type "tuple") = some false),
  fun K => decide (PySem.W.findIn K (.ref (ad_C K)) (PySem.dunderR PySem.Operator.RShift.info.2) = some none),
  fun K => (PySem.W.findIn K (.type "str") (PySem.dunder PySem.Operator.RShift.info.2)).isSome,
  fun K => (PySem.W.findIn K (.type "str") (PySem.dunderR PySem.Operator.RShift.info.2)).isSome,
  fun K => decide (PySem.W.subIn K (.type "str") (.ref (ad_C K)) = some false),
  fun K => decide (PySem.W.kitOne K (.type "str") (.ref (ad_C K)) = some false),
  fun K => (PySem.W.findIn K (.type "NoneType") (PySem.dunder PySem.Operator.RShift.info.2)).isSome,
  fun K => (PySem.W.findIn K (.type "NoneType") (PySem.dunderR PySem.Operator.RShift.info.2)).isSome,
  fun K => decide (PySem.W.subIn K (.type "NoneType") (.ref (ad_C K)) = some false),
  fun K => decide (PySem.W.kitOne K (.type "NoneType") (.ref (ad_C K)) = some false),
  fun K => (PySem.W.findIn K (.type "bool") (PySem.dunder PySem.Operator.RShift.info.2)).isSome]
def cs6 : List Hm.Test := [fun K => (PySem.W.findIn K (.type "bool") (PySem.dunderR PySem.Operator.RShift.info.2)).isSome,
  fun K => decide (PySem.W.subIn K (.type "bool") (.ref (ad_C K)) = some false),
  fun K => decide (PySem.W.kitOne K (.type "bool") (.ref (ad_C K)) = some false),
  fun K => (PySem.W.findIn K (.type "int") (PySem.dunder PySem.Operator.RShift.info.2)).isSome,
  fun K => (PySem.W.findIn K (.type "int") (PySem.dunderR PySem.Operator.RShift.info.2)).isSome,
  fun K => decide (PySem.W.subIn K (.type "int") (.ref (ad_C K)) = some false),
  fun K => decide (PySem.W.kitOne K (.type "int") (.ref (ad_C K)) = some false),
  fun K => (PySem.W.findIn K (.type "list") (PySem.dunder PySem.Operator.RShift.info.2)).isSome,
  fun K => (PySem.W.findIn K (.type "list") (PySem.dunderR PySem.Operator.RShift.info.2)).isSome,
  fun K => decide (PySem.W.subIn K (.type "list") (.ref (ad_C K)) = some false),
  fun K => decide (PySem.W.kitOne K (.type "list") (.ref (ad_C K)) = some false),
  fun K => (PySem.W.findIn K (.type "dict") (PySem.dunder PySem.Operator.RShift.info.2)).isSome,
  fun K => (PySem.W.findIn K (.type "dict") (PySem.dunderR PySem.Operator.RShift.info.2)).isSome,
  fun K => decide (PySem.W.subIn K (.type "dict") (.ref (ad_C K)) = some false),
  fun K => decide (PySem.W.kitOne K (.type "dict") (.ref (ad_C K)) = some false),
  fun K => (PySem.W.findIn K (.type "tuple") (PySem.dunder PySem.Operator.RShift.info.2)).isSome,
  fun K => (PySem.W.findIn K (.type "tuple") (PySem.dunderR PySem.Operator.RShift.info.2)).isSome,
  fun K => decide (PySem.W.subIn K (.type "tuple") (.ref (ad_C K)) = some false),
  fun K => decide (PySem.W.kitOne K (.type "tuple") (.ref (ad_C K)) = some false),
  fun K => decide (PySem.W.nsIn K mainGlobals "len" = some none)]
def cs7 : List Hm.Test := [fun K => decide (PySem.W.nsIn K mainGlobals "int" = some none),
  fun K => decide (PySem.W.nsIn K mainGlobals "abs" = some none),
  fun K => decide (PySem.W.nsIn K mainGlobals "max" = some none),
  fun K => decide (PySem.W.nsIn K mainGlobals "min" = some none),
  fun K => decide (PySem.W.nsIn K mainGlobals "range" = some none),
  fun K => decide (PySem.W.nsIn K mainGlobals "all" = some none),
  fun K => decide (PySem.W.nsIn K mainGlobals "isinstance" = some none),
  fun K => decide (PySem.W.nsIn K mainGlobals "str" = some none),
  fun K => decide (PySem.W.nsIn K mainGlobals "repr" = some none),
  fun K => decide (PySem.W.nsIn K mainGlobals "bool" = some none),
  fun K => decide (PySem.W.nsIn K mainGlobals "list" = some none),
  fun K => decide (PySem.W.nsIn K mainGlobals "tuple" = some none),
  fun K => decide (PySem.W.nsIn K mainGlobals "enumerate" = some none),
  fun K => decide (PySem.W.nsIn K mainGlobals "zip" = some none),
  fun K => decide (PySem.W.nsIn K mainGlobals "dict" = some none),
  fun K => decide (PySem.W.nsIn K mainGlobals "MAX_PARTS" = some (some (.int 4 (ad_t_MAX_PARTS K)))),
  fun K => decide (PySem.W.nsIn K mainGlobals "MAX_ROW" = some (some (.int 1000 (ad_t_MAX_ROW K)))),
  fun K => decide (PySem.W.nsIn K mainGlobals "KEEP_ALL" = some (some (.str "all" (ad_t_KEEP_ALL K)))),
  fun K => decide (PySem.W.nsIn K mainGlobals "DOTS" = some (some (.str ".." (ad_t_DOTS K)))),
  fun K => decide (PySem.W.nsIn K mainGlobals "MAX_FRONT" = some (some (.int 2 (ad_t_MAX_FRONT K))))]
def cs8 : List Hm.Test := [fun K => decide (PySem.W.nsIn K mainGlobals "MAX_BACK" = some (some (.int 3 (ad_t_MAX_BACK K)))),
  fun K => decide (PySem.W.nsIn K mainGlobals "REACH" = some (some (.int 5 (ad_t_REACH K))))]
def cs : List Hm.Test := cs0 ++ cs1 ++ cs2 ++ cs3 ++ cs4 ++ cs5 ++ cs6 ++ cs7 ++ cs8
def d_is_whole : He5.DefA := ⟨ad_f_is_whole, "is_whole", "is_whole", defArgs s_is_whole, defBody s_is_whole, defScope s_is_whole, [], []⟩
def d_ekept : He5.DefA := ⟨ad_f_ekept, "kept", "kept", defArgs s_ekept, defBody s_ekept, defScope s_ekept, [], []⟩
def d_is_part : He5.DefA := ⟨ad_f_is_part, "is_part", "is_part", defArgs s_is_part, defBody s_is_part, defScope s_is_part, [], []⟩
def d_check_parts : He5.DefA := ⟨ad_f_check_parts, "check_parts", "check_parts", defArgs s_check_parts, defBody s_check_parts, defScope s_check_parts, [], []⟩
def d_has_plus : He5.DefA := ⟨ad_f_has_plus, "has_plus", "has_plus", defArgs s_has_plus, defBody s_has_plus, defScope s_has_plus, [], []⟩
def d_part_places : He5.DefA := ⟨ad_f_part_places, "part_places", "part_places", defArgs s_part_places, defBody s_part_places, defScope s_part_places, [], []⟩
def d_kept_places : He5.DefA := ⟨ad_f_kept_places, "kept_places", "kept_places", defArgs s_kept_places, defBody s_kept_places, defScope s_kept_places, [], []⟩
def d_table_of : He5.DefA := ⟨ad_f_table_of, "table_of", "table_of", defArgs s_table_of, defBody s_table_of, defScope s_table_of, [], []⟩
def d_keep_all : He5.DefA := ⟨ad_f_keep_all, "keep_all", "keep_all", defArgs s_keep_all, defBody s_keep_all, defScope s_keep_all, [], []⟩
def d_check_cutter : He5.DefA := ⟨ad_f_check_cutter, "check_cutter", "check_cutter", defArgs s_check_cutter, defBody s_check_cutter, defScope s_check_cutter, [], []⟩
def d_dice : He5.DefA := ⟨ad_f_dice, "_law_dice", "_law_dice", defArgs s_dice, defBody s_dice, defScope s_dice, [], []⟩
def d_roll : He5.DefA := ⟨ad_f_roll, "_law_roll", "_law_roll", defArgs s_roll, defBody s_roll, defScope s_roll, [], []⟩
def d_one_of : He5.DefA := ⟨ad_f_one_of, "_law_one_of", "_law_one_of", defArgs s_one_of, defBody s_one_of, defScope s_one_of, [], []⟩
def d_signs : He5.DefA := ⟨ad_f_signs, "_law_signs", "_law_signs", defArgs s_signs, defBody s_signs, defScope s_signs, [], []⟩
def d_part : He5.DefA := ⟨ad_f_part, "_law_part", "_law_part", defArgs s_part, defBody s_part, defScope s_part, [], []⟩
def d_lparts : He5.DefA := ⟨ad_f_lparts, "_law_parts", "_law_parts", defArgs s_lparts, defBody s_lparts, defScope s_lparts, [], []⟩
def d_met : He5.DefA := ⟨ad_f_met, "_law_met", "_law_met", defArgs s_met, defBody s_met, defScope s_met, [], []⟩
def d_nopart : He5.DefA := ⟨ad_f_nopart, "_law_no_part", "_law_no_part", defArgs s_nopart, defBody s_nopart, defScope s_nopart, [], []⟩
def d_made : He5.DefA := ⟨ad_f_made, "_law_made_right", "_law_made_right", defArgs s_made, defBody s_made, defScope s_made, [], []⟩
def d_asked : He5.DefA := ⟨ad_f_asked, "_law_asked_right", "_law_asked_right", defArgs s_asked, defBody s_asked, defScope s_asked, [], []⟩
def d_law : He5.DefA := ⟨ad_f_law, "law", "law", defArgs s_law, defBody s_law, defScope s_law, [], []⟩
def d_init : He5.DefA := ⟨ad_f_init, "__init__", "Cutter.__init__", defArgs s_init, defBody s_init, defScope s_init, [], []⟩
def d_of : He5.DefA := ⟨ad_f_of, "of", "Cutter.of", defArgs s_of, defBody s_of, defScope s_of, [], []⟩
def d_parts : He5.DefA := ⟨ad_f_parts, "parts", "Cutter.parts", defArgs s_parts, defBody s_parts, defScope s_parts, [], []⟩
def d_keeps_all : He5.DefA := ⟨ad_f_keeps_all, "keeps_all", "Cutter.keeps_all", defArgs s_keeps_all, defBody s_keeps_all, defScope s_keeps_all, [], []⟩
def d_callc : He5.DefA := ⟨ad_f_callc, "__call__", "Cutter.__call__", defArgs s_callc, defBody s_callc, defScope s_callc, [], []⟩
def d_places : He5.DefA := ⟨ad_f_places, "places", "Cutter.places", defArgs s_places, defBody s_places, defScope s_places, [], []⟩
def d_rshift : He5.DefA := ⟨ad_f_rshift, "__rshift__", "Cutter.__rshift__", defArgs s_rshift, defBody s_rshift, defScope s_rshift, [], []⟩
def d_within : He5.DefA := ⟨ad_f_within, "is_within", "Cutter.is_within", defArgs s_within, defBody s_within, defScope s_within, [], []⟩
def d_parting : He5.DefA := ⟨ad_f_parting, "parting", "Cutter.parting", defArgs s_parting, defBody s_parting, defScope s_parting, [], []⟩
def d_ninit : He5.DefA := ⟨ad_f_ninit, "__init__", "InvalidNumber.__init__", defArgs s_ninit, defBody s_ninit, defScope s_ninit, [], []⟩
def fn0 : List He5.DefA := [d_is_whole, d_ekept, d_is_part, d_check_parts, d_has_plus, d_part_places, d_kept_places, d_table_of, d_keep_all, d_check_cutter, d_dice, d_roll, d_one_of, d_signs, d_part, d_lparts, d_met, d_nopart, d_made, d_asked]
def fn1 : List He5.DefA := [d_law, d_init, d_of, d_parts, d_keeps_all, d_callc, d_places, d_rshift, d_within, d_parting, d_ninit]
def fn : List He5.DefA := fn0 ++ fn1
def stay : List PySem.Str := ["is_whole", "kept", "is_part", "check_parts", "has_plus", "part_places", "kept_places", "table_of", "keep_all", "check_cutter", "_law_dice", "_law_roll", "_law_one_of", "_law_signs", "_law_part", "_law_parts", "_law_met", "_law_no_part", "_law_made_right", "_law_asked_right", "law", "Cutter", "InvalidCutter", "InvalidOperation", "InvalidNumber", "TooMany", "LetterError"]
abbrev R : OpenRow := OpenLaw.row PySem.Challenge.rw_namedabove_k05_errors_of_cutters
def ts : List PySem.Str := ["_law_made_right", "_law_asked_right", "law"]
abbrev hk : Hook := Ht.hook 5 stay ts cs fn
def ob (s : SharedT) : Ht.Obs := Ht.look 5 stay ts cs fn (HandSHeadRun.getT s)
theorem ob_eq (s : SharedT) : ob s = hk.obs s.abs := Ht.look_eq (HandSHeadRun.getT_eq s)
theorem run (w : World) : HandSHeadRun.RunEq R (view R.prog [39]) hk ob 20000 nms w := by
  intro os
  kernel_rfl
theorem facts {l : OpenLaw} {w : World} {K : Frag} {h : Heap} {mg : PySem.Str → Option Value} {fa : Addr} (X : K.In h) (G : h.Ns mainGlobals mg) (hfa : mg "law" = some (.ref fa)) (c : Hm.Says cs fn K) : ∀ (p1 p2 p3 : Addr × Addr) (_ : Ly.codeVal K (ad_f_made K) = some (.ref p1.1)) (_ : Ly.codeVal K (ad_f_asked K) = some (.ref p2.1)) (_ : Ly.codeVal K (ad_f_law K) = some (.ref p3.1)) (_ : [p1.2, p2.2, p3.2].Nodup) (base : Heap), K.In base → base.Ns mainGlobals mg → LamX.TabB base mg p1.1 p1.2 → LamX.TabB base mg p2.1 p2.2 → LamX.TabB base mg p3.1 p3.2 → Ly.FnG l.prog w K mg base CX0 14 fa (K05.spLawT K (K05.TT p1 p2 p3)) := by
  obtain ⟨fd_is_whole, G_is_whole⟩ := c.def_ 0 (d := d_is_whole) rfl
  obtain ⟨fd_ekept, G_ekept⟩ := c.def_ 1 (d := d_ekept) rfl
  obtain ⟨fd_is_part, G_is_part⟩ := c.def_ 2 (d := d_is_part) rfl
  obtain ⟨fd_check_parts, G_check_parts⟩ := c.def_ 3 (d := d_check_parts) rfl
  obtain ⟨fd_has_plus, G_has_plus⟩ := c.def_ 4 (d := d_has_plus) rfl
  obtain ⟨fd_part_places, G_part_places⟩ := c.def_ 5 (d := d_part_places) rfl
  obtain ⟨fd_kept_places, G_kept_places⟩ := c.def_ 6 (d := d_kept_places) rfl
  obtain ⟨fd_table_of, G_table_of⟩ := c.def_ 7 (d := d_table_of) rfl
  obtain ⟨fd_keep_all, G_keep_all⟩ := c.def_ 8 (d := d_keep_all) rfl
  obtain ⟨fd_check_cutter, G_check_cutter⟩ := c.def_ 9 (d := d_check_cutter) rfl
  obtain ⟨fd_dice, G_dice⟩ := c.def_ 10 (d := d_dice) rfl
  obtain ⟨fd_roll, G_roll⟩ := c.def_ 11 (d := d_roll) rfl
  obtain ⟨fd_one_of, G_one_of⟩ := c.def_ 12 (d := d_one_of) rfl
  obtain ⟨fd_signs, G_signs⟩ := c.def_ 13 (d := d_signs) rfl
  obtain ⟨fd_part, G_part⟩ := c.def_ 14 (d := d_part) rfl
  obtain ⟨fd_lparts, G_lparts⟩ := c.def_ 15 (d := d_lparts) rfl
  obtain ⟨fd_met, G_met⟩ := c.def_ 16 (d := d_met) rfl
  obtain ⟨fd_nopart, G_nopart⟩ := c.def_ 17 (d := d_nopart) rfl
  obtain ⟨fd_made, G_made⟩ := c.def_ 18 (d := d_made) rfl
  obtain ⟨fd_asked, G_asked⟩ := c.def_ 19 (d := d_asked) rfl
  obtain ⟨fd_law, G_law⟩ := c.def_ 20 (d := d_law) rfl
  obtain ⟨fd_init, G_init⟩ := c.def_ 21 (d := d_init) rfl
  obtain ⟨fd_of, G_of⟩ := c.def_ 22 (d := d_of) rfl
  obtain ⟨fd_parts, G_parts⟩ := c.def_ 23 (d := d_parts) rfl
  obtain ⟨fd_keeps_all, G_keeps_all⟩ := c.def_ 24 (d := d_keeps_all) rfl
  obtain ⟨fd_callc, G_callc⟩ := c.def_ 25 (d := d_callc) rfl
  obtain ⟨fd_places, G_places⟩ := c.def_ 26 (d := d_places) rfl
  obtain ⟨fd_rshift, G_rshift⟩ := c.def_ 27 (d := d_rshift) rfl
  obtain ⟨fd_within, G_within⟩ := c.def_ 28 (d := d_within) rfl
  obtain ⟨fd_parting, G_parting⟩ := c.def_ 29 (d := d_parting) rfl
  obtain ⟨fd_ninit, G_ninit⟩ := c.def_ 30 (d := d_ninit) rfl
  exact all_mk X G hfa (of_decide_eq_true (c.test 0 rfl)) (of_decide_eq_true (c.test 1 rfl)) (of_decide_eq_true (c.test 2 rfl)) (of_decide_eq_true (c.test 3 rfl)) (of_decide_eq_true (c.test 4 rfl)) (of_decide_eq_true (c.test 5 rfl)) (of_decide_eq_true (c.test 6 rfl)) (of_decide_eq_true (c.test 7 rfl)) (of_decide_eq_true (c.test 8 rfl)) (of_decide_eq_true (c.test 9 rfl)) (of_decide_eq_true (c.test 10 rfl)) (of_decide_eq_true (c.test 11 rfl)) (of_decide_eq_true (c.test 12 rfl)) (of_decide_eq_true (c.test 13 rfl)) (of_decide_eq_true (c.test 14 rfl)) (of_decide_eq_true (c.test 15 rfl)) (of_decide_eq_true (c.test 16 rfl)) (of_decide_eq_true (c.test 17 rfl)) (of_decide_eq_true (c.test 18 rfl)) (of_decide_eq_true (c.test 19 rfl)) (of_decide_eq_true (c.test 20 rfl)) (of_decide_eq_true (c.test 21 rfl)) (c.test 22 rfl) (c.test 23 rfl) (c.test 24 rfl) (c.test 25 rfl) (c.test 26 rfl) (of_decide_eq_true (c.test 27 rfl)) (of_decide_eq_true (c.test 28 rfl)) (of_decide_eq_true (c.test 29 rfl)) (of_decide_eq_true (c.test 30 rfl)) (of_decide_eq_true (c.test 31 rfl)) (of_decide_eq_true (c.test 32 rfl)) (of_decide_eq_true (c.test 33 rfl)) (of_decide_eq_true (c.test 34 rfl)) (of_decide_eq_true (c.test 35 rfl)) (c.test 36 rfl) (of_decide_eq_true (c.test 37 rfl)) (c.test 38 rfl) (of_decide_eq_true (c.test 39 rfl)) (c.test 40 rfl) (of_decide_eq_true (c.test 41 rfl)) (c.test 42 rfl) (c.test 43 rfl) (c.test 44 rfl) ((He5.wrapB_ok (c.test 43 rfl)).1) ((He5.wrapB_ok (c.test 43 rfl)).2) (of_decide_eq_true (c.test 45 rfl)) (of_decide_eq_true (c.test 46 rfl)) (of_decide_eq_true (c.test 47 rfl)) (of_decide_eq_true (c.test 48 rfl)) (of_decide_eq_true (c.test 49 rfl)) (of_decide_eq_true (c.test 50 rfl)) (of_decide_eq_true (c.test 51 rfl)) (of_decide_eq_true (c.test 52 rfl)) (of_decide_eq_true (c.test 53 rfl)) (c.test 54 rfl) (c.test 55 rfl) (of_decide_eq_true (c.test 56 rfl)) (c.test 57 rfl) (of_decide_eq_true (c.test 58 rfl)) (c.test 59 rfl) (of_decide_eq_true (c.test 60 rfl)) (c.test 61 rfl) (of_decide_eq_true (c.test 62 rfl)) (c.test 63 rfl) (of_decide_eq_true (c.test 64 rfl)) (c.test 65 rfl) (of_decide_eq_true (c.test 66 rfl)) (of_decide_eq_true (c.test 67 rfl)) (of_decide_eq_true (c.test 68 rfl)) (of_decide_eq_true (c.test 69 rfl)) (c.test 70 rfl) (c.test 71 rfl) (of_decide_eq_true (c.test 72 rfl)) (of_decide_eq_true (c.test 73 rfl)) (of_decide_eq_true (c.test 74 rfl)) (c.test 75 rfl) (of_decide_eq_true (c.test 76 rfl)) (of_decide_eq_true (c.test 77 rfl)) (of_decide_eq_true (c.test 78 rfl)) (of_decide_eq_true (c.test 79 rfl)) (c.test 80 rfl) (c.test 81 rfl) (of_decide_eq_true (c.test 82 rfl)) (of_decide_eq_true (c.test 83 rfl)) (of_decide_eq_true (c.test 84 rfl)) (c.test 85 rfl) (of_decide_eq_true (c.test 86 rfl)) (of_decide_eq_true (c.test 87 rfl)) (of_decide_eq_true (c.test 88 rfl)) (of_decide_eq_true (c.test 89 rfl)) (c.test 90 rfl) (c.test 91 rfl) (of_decide_eq_true (c.test 92 rfl)) (of_decide_eq_true (c.test 93 rfl)) (of_decide_eq_true (c.test 94 rfl)) (of_decide_eq_true (c.test 95 rfl)) (of_decide_eq_true (c.test 96 rfl)) (of_decide_eq_true (c.test 97 rfl)) (of_decide_eq_true (c.test 98 rfl)) (of_decide_eq_true (c.test 99 rfl)) (of_decide_eq_true (c.test 100 rfl)) (of_decide_eq_true (c.test 101 rfl)) (of_decide_eq_true (c.test 102 rfl)) (of_decide_eq_true (c.test 103 rfl)) (of_decide_eq_true (c.test 104 rfl)) (of_decide_eq_true (c.test 105 rfl)) (of_decide_eq_true (c.test 106 rfl)) (of_decide_eq_true (c.test 107 rfl)) (of_decide_eq_true (c.test 108 rfl)) (of_decide_eq_true (c.test 109 rfl)) (of_decide_eq_true (c.test 110 rfl)) (c.test 111 rfl) (c.test 112 rfl) (of_decide_eq_true (c.test 113 rfl)) (of_decide_eq_true (c.test 114 rfl)) (c.test 115 rfl) (c.test 116 rfl) (of_decide_eq_true (c.test 117 rfl)) (of_decide_eq_true (c.test 118 rfl)) (c.test 119 rfl) (c.test 120 rfl) (of_decide_eq_true (c.test 121 rfl)) (of_decide_eq_true (c.test 122 rfl)) (c.test 123 rfl) (c.test 124 rfl) (of_decide_eq_true (c.test 125 rfl)) (of_decide_eq_true (c.test 126 rfl)) (c.test 127 rfl) (c.test 128 rfl) (of_decide_eq_true (c.test 129 rfl)) (of_decide_eq_true (c.test 130 rfl)) (c.test 131 rfl) (c.test 132 rfl) (of_decide_eq_true (c.test 133 rfl)) (of_decide_eq_true (c.test 134 rfl)) (c.test 135 rfl) (c.test 136 rfl) (of_decide_eq_true (c.test 137 rfl)) (of_decide_eq_true (c.test 138 rfl)) (of_decide_eq_true (c.test 139 rfl)) (of_decide_eq_true (c.test 140 rfl)) (of_decide_eq_true (c.test 141 rfl)) (of_decide_eq_true (c.test 142 rfl)) (of_decide_eq_true (c.test 143 rfl)) (of_decide_eq_true (c.test 144 rfl)) (of_decide_eq_true (c.test 145 rfl)) (of_decide_eq_true (c.test 146 rfl)) (of_decide_eq_true (c.test 147 rfl)) (of_decide_eq_true (c.test 148 rfl)) (of_decide_eq_true (c.test 149 rfl)) (of_decide_eq_true (c.test 150 rfl)) (of_decide_eq_true (c.test 151 rfl)) (of_decide_eq_true (c.test 152 rfl)) (of_decide_eq_true (c.test 153 rfl)) (of_decide_eq_true (c.test 154 rfl)) (of_decide_eq_true (c.test 155 rfl)) (of_decide_eq_true (c.test 156 rfl)) (of_decide_eq_true (c.test 157 rfl)) (of_decide_eq_true (c.test 158 rfl)) (of_decide_eq_true (c.test 159 rfl)) (of_decide_eq_true (c.test 160 rfl)) (of_decide_eq_true (c.test 161 rfl)) (He5.fun_of G_is_whole) (He5.fun_of G_ekept) (He5.fun_of G_is_part) (He5.fun_of G_check_parts) (He5.fun_of G_has_plus) (He5.fun_of G_part_places) (He5.fun_of G_kept_places) (He5.fun_of G_table_of) (He5.fun_of G_keep_all) (He5.fun_of G_check_cutter) (He5.fun_of G_dice) (He5.fun_of G_roll) (He5.fun_of G_one_of) (He5.fun_of G_signs) (He5.fun_of G_part) (He5.fun_of G_lparts) (He5.fun_of G_met) (He5.fun_of G_nopart) (He5.fun_of G_made) (He5.fun_of G_asked) (He5.fun_of G_law) (He5.fun_of G_init) (He5.fun_of G_of) (He5.fun_of G_parts) (He5.fun_of G_keeps_all) (He5.fun_of G_callc) (He5.fun_of G_places) (He5.fun_of G_rshift) (He5.fun_of G_within) (He5.fun_of G_parting) (He5.fun_of G_ninit)
end K05.HD
open PySem PySem.W PySem.Calls PyProof.Rows
set_option maxHeartbeats 0 in
theorem PySem.Challenge.cw_namedabove_k05_errors_of_cutters_holds : PySem.Challenge.rw_namedabove_k05_errors_of_cutters.Holds := by
  w_on; o_law
  refine HandSHeadRun.head_any (r := OpenLaw.row PySem.Challenge.rw_namedabove_k05_errors_of_cutters) (q := view (OpenLaw.row PySem.Challenge.rw_namedabove_k05_errors_of_cutters).prog [39]) (H := K05.HD.hk) (ob := K05.HD.ob) (M := 20000) (loose := K05.HD.nms) (d := HandSHeadRun.topDef (OpenLaw.row PySem.Challenge.rw_namedabove_k05_errors_of_cutters).prog 39) (kwd := []) K05.HD.ob_eq
    (by kernel_rfl) (fun s => by kernel_rfl) K05.HD.run (by kernel_rfl) (by kernel_rfl) (by kernel_rfl) (by rfl) (by first | assumption | decide +kernel) (by decide +kernel) ⟨rfl, rfl, rfl, rfl, rfl, by decide +kernel⟩ ?hw ?hc
  case hw => w_witness2
  case hc =>
    refine Ly.walk_ofT (l := PySem.Challenge.rw_namedabove_k05_errors_of_cutters) (n := 63) (k := 14) rfl (by decide) (by kernel_rfl) ⟨rfl, by decide, by decide⟩ ?F
    intro w mg fa h Y G hmg0
    obtain ⟨K, tabs, KX, c, rows, nd⟩ := Y
    have e : (HandSHeadRun.topDef (OpenLaw.row PySem.Challenge.rw_namedabove_k05_errors_of_cutters).prog 39).name = ("law" : PySem.Str) := by kernel_rfl
    rw [e] at hmg0
    obtain ⟨p1, p2, p3, et, r1, r2, r3⟩ := Ht.three rows
    subst et
    have o1 : ∀ {Pr : Addr × Addr → Prop}, Pr p1 → Pr p2 → Pr p3 → ∀ p ∈ [p1, p2, p3], Pr p := fun {Pr} a b c p hp => by
      rcases List.mem_cons.mp hp with e | hp
      · rw [e]
        exact a
      · rcases List.mem_cons.mp hp with e | hp
        · rw [e]
          exact b
        · rw [List.mem_singleton.mp hp]
          exact c
    exact ⟨K, [p1, p2, p3], K05.spLawT K (K05.TT p1 p2 p3), KX, o1 r1.emp r2.emp r3.emp, o1 r1.no r2.no r3.no, o1 r1.code r2.code r3.code, fun H a ns hl hT hS => ⟨a, ns, rfl, hS, hl, K05.tt_tabs hT, fun _ => rfl⟩, fun base kb nb TB => K05.HD.facts (l := PySem.Challenge.rw_namedabove_k05_errors_of_cutters) (w := w) KX G hmg0 c p1 p2 p3 r1.val r2.val r3.val nd base kb nb (TB p1 List.mem_cons_self) (TB p2 (List.mem_cons_of_mem _ List.mem_cons_self)) (TB p3 (List.mem_cons_of_mem _ (List.mem_cons_of_mem _ List.mem_cons_self)))⟩

