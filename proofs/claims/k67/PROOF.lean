import PyProof.Rows.All
import Wide.All
import OpenK.AllK
import Wide.FinOn
import HandS.ForMost
import HandS.IsInst
import HandS.Style
import HandS.Wide
import HandS.Star
import HandS.Property
import HandS.ClsMeth
import HandS.OwnEq
import HandS.Conv
import KE.GoesEnum
import HandS.RaiseMore
import HandS.Flow
import PyProof.StrLawsTight
import PyProof.Rows.StrNews2
import HandS.FStr
import HandS.DictComp
import HandS.MakeKwOnly
import PyProof.FString5
import KE.KFmtOwn
import HandS.TupAny
import HandS.More
import HandS.Dict
import HandS.Iter
import KE.KStateDown
import HandS.Base
import HandS.Call
import HandS.Ends
import HandS.Words
import HandS.WordsExc
import HandS.Defaults
import HandS.Head0
import HandS.Head1
import HandS.Head2
import HandS.HeadEnd
import HandS.HeadHook1
import HandS.HeadHook2
import HandS.HeadNt
import PySem.Challenge.RW_namedabove_k67_texts_of_cutters_rules_an
set_option Elab.async false
set_option linter.all false
set_option maxRecDepth 100000
set_option maxHeartbeats 4000000
/-! own layer: flat rules, what a list of three numbers keeps -/
namespace Ly
open PySem PySem.Spec PyProof.Rows L2

/-- all but d stands -/
def Chg (d : Addr) (H H' : Hp) : Prop := ∀ x o, x ≠ d → H x = some o → H' x = some o
theorem Chg.refl (d : Addr) (H : Hp) : Chg d H H := fun _ _ _ h => h
theorem Chg.trans {d : Addr} {H H1 H2 : Hp} (a : Chg d H H1) (b : Chg d H1 H2) : Chg d H H2 := fun x o n h => b x o n (a x o n h)
theorem Chg.of {d : Addr} {H H' : Hp} (s : Same H H') : Chg d H H' := fun x o _ h => s x o h
theorem Chg.upd {d : Addr} {H H' : Hp} {o : HO} (c : Chg d H H') : Chg d H (upd H' d o) := fun x u n h => by
  rw [upd_ne n]
  exact c x u n h
theorem same_new {H : Hp} {p : Addr} {o : HO} (h : H p = none) : Same H (upd H p o) := fun b x e => by
  rw [upd_ne (ne_of_none e h)]
  exact e
theorem Chg.new {d p : Addr} {H H' : Hp} {o : HO} (c : Chg d H H') (h : H' p = none) : Chg d H (L2.upd H' p o) := c.trans (.of (same_new h))

/-! ### rules with flat readings -/
section
variable {X : Cx}
theorem call_intI : CallR X (.type "int") (fun xs H Q => ∃ i, xs = [.int i] ∧ Q (.int i) H) := fun pins s σ H xs us Q I r ⟨i, e, q⟩ => call_int1 pins s σ H xs us Q I r (.inl ⟨i, e, q⟩)
theorem call_intB : CallR X (.type "int") (fun xs H Q => ∃ b : Bool, xs = [.bl b] ∧ Q (.int (if b then 1 else 0)) H) := fun pins s σ H xs us Q I r ⟨i, e, q⟩ => call_int1 pins s σ H xs us Q I r (.inr ⟨i, e, q⟩)
theorem call_lenL : CallR X (.builtin "len") (fun xs H Q => ∃ p ys, xs = [.ref p] ∧ SqL X.K H p ys ∧ Q (.int ys.length) H) := fun pins s σ H xs us Q I r ⟨p, ys, e, h, q⟩ => call_len_seq pins s σ H xs us Q I r ⟨p, ys, e, .inl h, q⟩
theorem call_lenT : CallR X (.builtin "len") (fun xs H Q => ∃ p ys, xs = [.ref p] ∧ SqT X.K H p ys ∧ Q (.int ys.length) H) := fun pins s σ H xs us Q I r ⟨p, ys, e, h, q⟩ => call_len_seq pins s σ H xs us Q I r ⟨p, ys, e, .inr h, q⟩
/-- powers of great numbers -/
def CPw (i j : Int) : Prop := 0 ≤ j ∧ (Builtin.Int.intBits i : Int) * j ≤ 2 ^ 27
theorem op_powW : OpR X (binaryOp .Pow) (rI CPw fun i j => .int (i ^ j.toNat)) := opI fun _ _ _ _ _ _ _ hc q => pow_int hc.1 hc.2 q
theorem call_reprB : CallR X (.builtin "repr") (fun xs H Q => ∃ b : Bool, xs = [.bl b] ∧ Q (.str (if b then "True" else "False")) H) := by
  intro pins s σ H xs us Q I r h
  obtain ⟨b, rfl, q⟩ := h
  obtain ⟨u, rfl, r1⟩ := vals1 r
  cases r1
  exact PySem.P.repr_of_bool ⟨.str (if b then "True" else "False"), H, I.tok _, ⟨_, rfl⟩, q⟩
end

/-! ### the three numbers of the dice -/
structure DB (a b c : Int) : Prop where
  a0 : 0 ≤ a
  aB : a.natAbs < 2 ^ 2000
  b0 : 0 ≤ b
  b1 : b < 2305843009213693951
  c0 : 0 ≤ c
def Dice (H : Hp) (d : Addr) : Prop := ∃ a b c : Int, H d = some (.lst [.int a, .int b, .int c]) ∧ DB a b c
theorem Dice.keep {H H' : Hp} {d : Addr} (s : Same H H') (h : Dice H d) : Dice H' d := by
  obtain ⟨a, b, c, e, D⟩ := h
  exact ⟨a, b, c, s _ _ e, D⟩
theorem Dice.chg {H H' : Hp} {d p : Addr} (s : Chg p H H') (n : d ≠ p) (h : Dice H d) : Dice H' d := by
  obtain ⟨a, b, c, e, D⟩ := h
  exact ⟨a, b, c, s _ _ n e, D⟩
theorem great_ok (x : Int) : 0 ≤ x % ((10 : Int) ^ (60 : Int).toNat) ^ (10 : Int).toNat ∧ (x % ((10 : Int) ^ (60 : Int).toNat) ^ (10 : Int).toNat).natAbs < 2 ^ 2000 := by
  have p : (0 : Int) < ((10 : Int) ^ (60 : Int).toNat) ^ (10 : Int).toNat := by decide +kernel
  have h0 := Int.emod_nonneg x (Int.ne_of_gt p)
  have h1 := Int.emod_lt_of_pos x p
  refine ⟨h0, ?_⟩
  have q : ((10 : Int) ^ (60 : Int).toNat) ^ (10 : Int).toNat < ((2 ^ 2000 : Nat) : Int) := by decide +kernel
  generalize ((10 : Int) ^ (60 : Int).toNat) ^ (10 : Int).toNat = m at *
  generalize (2 ^ 2000 : Nat) = n at *
  omega
theorem less_ok {x y : Int} (hx : 0 ≤ x) (hb : x.natAbs < 2 ^ 2000) (hy : 0 ≤ y) (h : y ≤ x) : y.natAbs < 2 ^ 2000 := by
  generalize (2 ^ 2000 : Nat) = n at *
  omega

/-! ### promises -/
def spDice (K : PySem.W.Frag) : Sp := fun vs H Q _ => ∃ (a : Addr) (ns : List Int) (k : Nat), vs = [.ref a, .int k] ∧ SqL K H a (ns.map V.int) ∧ ns.length ≤ 63 ∧ k < 64 ∧
  ∀ H' p, Same H H' → H p = none → Dice H' p → Q (.ref p) H'
def spRoll : Sp := fun vs H Q _ => ∃ (d : Addr) (n : Int), vs = [.ref d, .int n] ∧ Dice H d ∧ 0 < n ∧ n < 2 ^ 200 ∧ ∀ H' r, Chg d H H' → Dice H' d → 0 ≤ r → r < n → Q (.int r) H'
/-- an item of a list, or a sign of a text -/
def spOneL (K : PySem.W.Frag) : Sp := fun vs H Q _ => ∃ (d a : Addr) (xs : List V), vs = [.ref d, .ref a] ∧ Dice H d ∧ a ≠ d ∧ SqL K H a xs ∧ 0 < xs.length ∧ xs.length < 1000 ∧
  ∀ H' x, Chg d H H' → Dice H' d → x ∈ xs → Q x H'
def spOneS : Sp := fun vs H Q _ => ∃ (d : Addr) (z : Str), vs = [.ref d, .str z] ∧ Dice H d ∧ 0 < z.length ∧ z.length < 1000 ∧
  ∀ H' c, Chg d H H' → Dice H' d → c ∈ z.cps.toList → Q (.str ⟨#[c]⟩) H'
theorem Chg.seq {K : PySem.W.Frag} {H H' : Hp} {d a : Addr} {xs : List V} (e : Chg d H H') (n : a ≠ d) (h : SqL K H a xs) : SqL K H' a xs := by
  rcases h with (h | ⟨o, h⟩) | h
  · exact .inl (.inl (e _ _ n h))
  · exact .inl (.inr ⟨o, e _ _ n h⟩)
  · exact .inr h
end Ly
namespace Ly
open PySem PySem.Spec PyProof.Rows L2
/-- a value with its heap, told by P alone -/
theorem cutE {te : TE} {σ : L2.St} {H : Hp} {Q : VK} (P : V → Hp → Prop) (h : ∀ Q' : VK, (∀ v H', P v H' → Q' v H') → te σ H Q') (k : ∀ v H', P v H' → Q v H') : te σ H Q := h Q k
theorem cutT {te : TT} {σ : L2.St} {H : Hp} {Q : Bool → Hp → Prop} (P : Bool → Hp → Prop) (h : ∀ Q' : Bool → Hp → Prop, (∀ v H', P v H' → Q' v H') → te σ H Q') (k : ∀ v H', P v H' → Q v H') : te σ H Q := h Q k
/-- a def of the top: where it stands, how it is called -/
structure Df (K : PySem.W.Frag) (mg : Str → Option Value) (x : Str) (st : Stmt) (ps : List Str) (f : Addr) (fd : FuncData) : Prop where
  F : Fun K x x st f fd
  b : Binds K fd ps []
  g : mg x = some (.ref f)
theorem Df.kp {K : PySem.W.Frag} {mg : Str → Option Value} {x : Str} {st : Stmt} {ps : List Str} {f : Addr} {fd : FuncData} (D : Df K mg x st ps f fd) : PySem.W.keepIn K (.ref f) = true := D.F.kp
end Ly
namespace Ly
open PySem PySem.Spec PyProof.Rows L2
/-- x = e, its value told by P alone -/
theorem asgS {te : TE} {i : Nat} {t : TS} {D : Ends} {σ : L2.St} {H : Hp} (P : V → Hp → Prop) (h : ∀ Q' : VK, (∀ v H', P v H' → Q' v H') → te σ H Q') (k : ∀ v H', P v H' → t D (σ.set i (some v)) H') : tSeq (tAsg te (gName i)) t D σ H := h _ k
/-- if c: .. told by what holds of the test -/
theorem cutR {te : TE} {D : Ends} {σ : L2.St} {H : Hp} (P : V → Hp → Prop) (h : ∀ Q' : VK, (∀ v H', P v H' → Q' v H') → te σ H Q') (k : ∀ v H', P v H' → D.rt v H') : tRet te D σ H := h _ k
end Ly
namespace Ly
open PySem PySem.Spec PyProof.Rows L2
structure Cl (P : Program) (w : World) (K : PySem.W.Frag) (mg : Str → Option Value) (base : Heap) (x : Str) (k : Nat) (f : Addr) (fd : FuncData) (ps : List Str) (sp : Sp) : Prop where
  ok : FnOk P w K mg base CX0 k f fd ps sp
  g : mg x = some (.ref f)
  kp : PySem.W.keepIn K (.ref f) = true
  b : Binds K fd ps []
theorem Df.cl {P : Program} {w : World} {K : PySem.W.Frag} {mg : Str → Option Value} {base : Heap} {x : Str} {k : Nat} {st : Stmt} {ps : List Str} {f : Addr} {fd : FuncData} {sp : Sp} (D : Df K mg x st ps f fd) (o : FnOk P w K mg base CX0 k f fd ps sp) : Cl P w K mg base x k f fd ps sp := ⟨o, D.g, D.kp, D.b⟩
/-! ### texts of signs -/
theorem str_len (z : Str) : z.cps.toList.length = z.length := by
  show z.cps.toList.length = z.cps.size
  simp
theorem sz1000 {n : Nat} (h : n < 1000) : n ≤ sizeLine := Nat.le_of_lt (small1000 (Nat.le_of_lt h))
/-- the built-in class of a value's type, asked -/
def TyB (K : PySem.W.Frag) (H : Hp) (x : V) (t : String) : Prop := TyX K H x (.type t)
end Ly
namespace Ly
open PySem PySem.Spec PyProof.Rows L2
theorem at_nat {α : Type} {xs : List α} {i : Int} {v : α} (h0 : 0 ≤ i) (h : xs[i.toNat]? = some v) : atI xs i = some v := by
  have e := atI_nat h
  rwa [Int.toNat_of_nonneg h0] at e
end Ly
namespace Ly
open PySem PySem.Spec PyProof.Rows L2
/-- what a comprehension's loop asks of its turns -/
abbrev LcW (J : It) (g : TG) (tt : TT) (te : TE) (vs : List Nat) (σ : L2.St) (H1 : Hp) (D : Addr) (Qd : Hp → Prop) : Prop :=
  ∃ W : Nat → Nat → Hp → Prop, (∃ m, W 0 m (upd H1 D (.lst []))) ∧ (∀ i m H, W i m H → (J.stop i H ∧ Qd H) ∨ (J.go i H ∧ ∃ Nx : Hp → Prop,
    (∀ H', Nx H' → ∃ m', m' < m ∧ W (i + 1) m' H') ∧ (∀ x H', J.yld i H x H' → g x (wipe σ vs) H' fun σ2 H2 => wipe σ2 vs = wipe σ vs ∧
      tt σ2 H2 fun b H3 => if b = true then te σ2 H3 fun y H4 => ∃ acc, H4 D = some (.lst acc) ∧ acc.length < sizeLine ∧ Nx (upd H4 D (.lst (acc ++ [y]))) else Nx H3)))
theorem lc_gen {J : It} {n : Nat} {g : TG} {tt : TT} {te : TE} {vs : List Nat} {σ : L2.St} {H1 : Hp} {D : Addr} {Qd : Hp → Prop} (Pv : Nat → Hp → Prop) (h0 : Pv 0 (upd H1 D (.lst [])))
    (hgo : ∀ i H, i < n → Pv i H → J.go i H) (hst : ∀ H, Pv n H → J.stop n H)
    (hs : ∀ i x H H', i < n → Pv i H → J.yld i H x H' → g x (wipe σ vs) H' fun σ2 H2 => wipe σ2 vs = wipe σ vs ∧ tt σ2 H2 fun b H3 => if b = true then
      te σ2 H3 fun y H4 => ∃ acc, H4 D = some (.lst acc) ∧ acc.length < sizeLine ∧ Pv (i + 1) (upd H4 D (.lst (acc ++ [y]))) else Pv (i + 1) H3)
    (hd : ∀ H, Pv n H → Qd H) : LcW J g tt te vs σ H1 D Qd := by
  refine ⟨fun j left H => left + j = n ∧ Pv j H, ⟨n, by omega, h0⟩, ?_⟩
  rintro i m H ⟨em, p⟩
  rcases Nat.lt_or_ge i n with hlt | hge
  · exact .inr ⟨hgo i H hlt p, Pv (i + 1), fun H' p' => ⟨m - 1, by omega, by omega, p'⟩, fun x H' y => hs i x H H' hlt p y⟩
  · have e : i = n := by omega
    subst e
    exact .inl ⟨hst H p, hd H p⟩
/-- one sign against one sign -/
theorem sign_lt (a b : Nat) : decide ((⟨#[a]⟩ : Str).cps.toList < (⟨#[b]⟩ : Str).cps.toList) = decide (a < b) := by
  rw [decide_eq_decide]
  show ([a] : List Nat) < [b] ↔ a < b
  constructor
  · intro h
    rcases (List.cons_lt_cons_iff).mp h with h | ⟨_, h⟩
    · exact h
    · exact absurd h (List.not_lt_nil _)
  · exact fun h => List.cons_lt_cons_iff.mpr (.inl h)
end Ly
namespace Ly
open PySem PySem.Spec PyProof.Rows L2
theorem join_cps : ∀ ys : List Str, (Str.join Str.empty ys).cps.toList = ys.flatMap fun y => y.cps.toList
  | [] => rfl
  | [x] => by
    show x.cps.toList = _
    simp
  | x :: y :: r => by
    have h := join_cps (y :: r)
    show ((x ++ Str.empty ++ Str.join Str.empty (y :: r)) : Str).cps.toList = _
    rw [Str.cps_append, Str.append_empty, Array.toList_append, h]
    rfl
theorem txt_join (ys : List Str) : (Txt.join Str.empty ys).cps.toList = ys.flatMap fun y => y.cps.toList := by
  rw [show Txt.join Str.empty ys = Str.join Str.empty ys from StrLaws.glued_eq_join _ _, join_cps]
theorem app_cps (a b : Str) : (a ++ b).cps.toList = a.cps.toList ++ b.cps.toList := by
  rw [Str.cps_append, Array.toList_append]
theorem app_len (a b : Str) : (a ++ b).length = a.length + b.length := Str.length_append a b
theorem cut_to (z : Str) (k : Nat) (h : k ≤ z.length) : (cutS z none (some (k : Int))).cps.toList = z.cps.toList.take k := by
  unfold cutS
  rw [HT.sIx_none, HT.sIx_nat]
  show (List.take (min k z.length - 0) (z.cps.toList.drop 0)) = _
  rw [Nat.min_eq_left h]
  rfl
theorem cut_from (z : Str) (k : Nat) (h : k ≤ z.length) : (cutS z (some (k : Int)) none).cps.toList = z.cps.toList.drop k := by
  unfold cutS
  rw [HT.sIx_none, HT.sIx_nat, Nat.min_eq_left h]
  show (List.take (z.length - k) (z.cps.toList.drop k)) = _
  refine List.take_of_length_le ?_
  rw [List.length_drop, str_len]
  omega
theorem len_of_cps {z : Str} {l : List Nat} (h : z.cps.toList = l) : z.length = l.length := by
  rw [← h, str_len]
theorem Chg.dice {H H' : Hp} {d : Addr} (c : Chg d H H') {p : Addr} {o : HO} (n : p ≠ d) (h : H p = some o) : H' p = some o := c p o n h
theorem dice_ne {H : Hp} {d p : Addr} (h : Dice H d) (n : H p = none) : d ≠ p := by
  obtain ⟨a, b, c, e, _⟩ := h
  exact ne_of_none e n
theorem Dice.new {H : Hp} {d p : Addr} {o : HO} (h : Dice H d) (n : H p = none) : Dice (L2.upd H p o) d := h.keep (same_new n)
end Ly
namespace Ly
open PySem PySem.Spec PyProof.Rows L2
theorem ifF {c : Bool} {A B : Prop} (h : c = false) (b : B) : if c = true then A else B := by
  subst h
  exact iteF b
theorem ifT {c : Bool} {A B : Prop} (h : c = true) (b : A) : if c = true then A else B := by
  subst h
  exact iteT b
/-- if c: .., not taken -/
theorem ifNo {c : TT} {t r : TS} {D : Ends} {σ : L2.St} {H : Hp} (P : Hp → Prop) (h : ∀ Q' : Bool → Hp → Prop, (∀ H', P H' → Q' false H') → c σ H Q') (k : ∀ H', P H' → r D σ H') : tSeq (tIfS c t tNext) r D σ H :=
  h _ fun H' p => iteF (k H' p)
/-- things that are no text -/
def Odd (H : Hp) (x : V) : Prop := x = .non ∨ (∃ b, x = .bl b) ∨ (∃ i, x = .int i) ∨ ∃ p, x = .ref p ∧ ((∃ xs, H p = some (.lst xs)) ∨ (∃ xs, H p = some (.tup xs)) ∨ ∃ kvs, H p = some (.dK kvs))
theorem Odd.keep {H H' : Hp} {x : V} (s : Same H H') (h : Odd H x) : Odd H' x := by
  rcases h with h | h | h | ⟨p, e, h⟩
  · exact .inl h
  · exact .inr (.inl h)
  · exact .inr (.inr (.inl h))
  · refine .inr (.inr (.inr ⟨p, e, ?_⟩))
    rcases h with ⟨_, h⟩ | ⟨_, h⟩ | ⟨_, h⟩
    · exact .inl ⟨_, s _ _ h⟩
    · exact .inr (.inl ⟨_, s _ _ h⟩)
    · exact .inr (.inr ⟨_, s _ _ h⟩)
theorem Odd.ty {K : PySem.W.Frag} {H : Hp} {x : V} (h : Odd H x) : ∃ t, TyB K H x t ∧ kitB t "str" = some false := by
  rcases h with rfl | ⟨b, rfl⟩ | ⟨i, rfl⟩ | ⟨p, rfl, ⟨_, h⟩ | ⟨_, h⟩ | ⟨_, h⟩⟩
  · exact ⟨"NoneType", .base .non, by decide +kernel⟩
  · exact ⟨"bool", .base (.bl b), by decide +kernel⟩
  · exact ⟨"int", .base (.int i), by decide +kernel⟩
  · exact ⟨"list", .base (.lst h), by decide +kernel⟩
  · exact ⟨"tuple", .base (.tup h), by decide +kernel⟩
  · exact ⟨"dict", .base (.dK h), by decide +kernel⟩
theorem same_new2 {H : Hp} {p : Addr} {o u : HO} (h : H p = none) : Same H (upd (upd H p o) p u) := by
  rw [upd_upd]
  exact same_new h
theorem log_ok {n : Int} (h0 : 0 ≤ n) (h : n < 2 ^ 200) : n.natAbs.log2 < 1920 := by
  have e : (2 : Int) ^ 200 = ((2 ^ 200 : Nat) : Int) := by decide +kernel
  rw [e] at h
  have h2 : n.natAbs < 2 ^ 200 := by
    generalize (2 ^ 200 : Nat) = m at *
    omega
  exact Nat.lt_trans (PySem.Flt.log2_lt_of (by decide) h2) (by decide)
end Ly
namespace Ly
open PySem PySem.Spec PyProof.Rows L2
theorem or_ok {P : Program} {w : World} {K : PySem.W.Frag} {mg : Str → Option Value} {base : Heap} {CX : CXT} {k : Nat} {f : Addr} {fd : FuncData} {ps : List Str} {sp1 sp2 : Sp} (h1 : FnOk P w K mg base CX k f fd ps sp1) (h2 : FnOk P w K mg base CX k f fd ps sp2) :
    FnOk P w K mg base CX k f fd ps (fun vs H Q E => sp1 vs H Q E ∨ sp2 vs H Q E) :=
  ⟨fun vs H Q E h => h.elim (h1.len vs H Q E) (h2.len vs H Q E), fun A outer s H args us vs Q E hr e0 hb hv hs => hs.elim (h1.run A outer s H args us vs Q E hr e0 hb hv) (h2.run A outer s H args us vs Q E hr e0 hb hv)⟩
def timesS (z : Str) (k : Int) : Str := ⟨(List.replicate k.toNat z.cps).foldl (· ++ ·) #[]⟩
def MulS (z : Str) (k : Int) : Bool := decide (1 < k) && decide (k ≤ 1000) && decide (0 < z.length) && !decide ((z.length : Int) > (2 ^ 63 - 1) / k) && !Builtin.Str.tooLong (z.length * k.toNat) && decide ((timesS z k).length ≤ sizeLine)
theorem op_mul_str {X : Cx} : OpR X (binaryOp .Mult) (fun x y H Q => ∃ z k, x = .str z ∧ y = .int k ∧ MulS z k = true ∧ Q (.str (timesS z k)) H) := by
  intro pins s σ H x y v u Q I rx ry h
  obtain ⟨z, k, rfl, rfl, hm, q⟩ := h
  obtain ⟨t, rfl⟩ := rx
  obtain ⟨t', rfl⟩ := ry
  unfold MulS at hm
  simp only [Bool.and_eq_true, Bool.not_eq_true', decide_eq_true_eq, decide_eq_false_iff_not] at hm
  obtain ⟨⟨⟨⟨⟨h1, h2⟩, h3⟩, h4⟩, h5⟩, h6⟩ := hm
  refine PySem.P.mul_str ?_ (fun _ _ => h4) (fun _ _ => h5) ?_
  · rw [decide_eq_false (by omega), decide_eq_false (by omega)]
    rfl
  · rw [if_neg (by omega)]
    have e1 : (k == 1) = false := beq_eq_false_iff_ne.mpr (by omega)
    have e2 : (z.length == 0) = false := beq_eq_false_iff_ne.mpr (by omega)
    rw [e1, e2, if_neg (by decide)]
    exact ⟨h6, ⟨.str (timesS z k), H, I.tok _, ⟨_, rfl⟩, q⟩⟩
end Ly

set_option Elab.async false
set_option linter.all false
set_option maxRecDepth 100000
set_option maxHeartbeats 4000000
/-! own layer: defs that ask for repr of lists: the promise is told where no repr is under way -/
namespace Ly
open PySem PySem.Spec PyProof.Rows L2
abbrev Quiet (A : Around) : Prop := A.guards = some []
/-- the promise of a def, called where no repr is under way -/
def FnG (P : Program) (w : World) (K : PySem.W.Frag) (mg : Str → Option Value) (base : Heap) (CX : CXT) (k : Nat) (f : Addr) (sp : Sp) : Prop :=
  ∀ (A : Around) (outer : List Env) (s : Shared) (H : Hp) (us : List Value) (vs : List V) (Q : VK) (E : XK), Room k A → Quiet A →
    Env0 P w K mg base A outer s H → Vals vs us → sp vs H Q E → codeAny (model P w) A (.call (.ref f) ⟨us, []⟩) (CR CX outer P w H s Q E) s
section
variable {P : Program} {w : World} {K : PySem.W.Frag} {mg : Str → Option Value} {base : Heap} {CX : CXT} {k : Nat}
/-- a def's body, walked where no repr is under way -/
theorem fnG_of {x qual : Str} {st : Stmt} {f : Addr} {fd : FuncData} {N ps : List Str} {sp : Sp} (F : Fun K x qual st f fd) (S : FnScope N ps (defScope st)) (b : Binds K fd ps []) (len : ∀ vs H Q E, sp vs H Q E → vs.length = ps.length)
    (hbody : ∀ (cdv : Value) (A : Around) (outer : List Env) (s : Shared) (H : Hp) (vs : List V) (Q : VK) (E : XK), Room k (A.deeper (envOfC qual (defScope st) s.heap.objs.size f cdv)) → Quiet (A.deeper (envOfC qual (defScope st) s.heap.objs.size f cdv)) →
      sp vs H Q E → ∃ t, PSs (cxOf CX P w K mg base N qual (defScope st) f cdv A outer s H E).nox (defBody st) t ∧ t { nx := fun _ H' => Q .non H', rt := Q } (start N vs) H) :
    FnG P w K mg base CX (k + 1) f sp := by
  obtain ⟨oc, od, kV, doc, pm, an, cdv, ct, osl, rfl, lk, hcd⟩ := F.ex
  intro A outer s H us vs Q E hr hq e0 r hsp
  have hl := len vs H Q E hsp
  have hl2 : (us ++ ([] : List Value)).length = ps.length := by
    rw [List.append_nil, ← r.length]
    exact hl
  have hb := b s us (e0.mod.kin.keeps fun b o e => (e0.bs b o e).1) hl2
  rw [List.append_nil] at hb
  refine StX.run_bnd (G := fun xs H2 => xs = vs ∧ H2 = H) lk hcd S hr e0 (fun A' Ex Q' h => hb _ A' Ex Q' (h s H vs us e0 .refl rfl (fun _ _ z => z) r hl ⟨rfl, rfl⟩)) fun s2 H2 xs g hr' => ?_
  obtain ⟨rfl, rfl⟩ := g
  obtain ⟨t, h, q⟩ := hbody cdv A outer s2 H2 xs Q E hr' hq hsp
  exact ⟨t, h.nox, q⟩
theorem FnG.or {f : Addr} {sp1 sp2 : Sp} (h1 : FnG P w K mg base CX k f sp1) (h2 : FnG P w K mg base CX k f sp2) : FnG P w K mg base CX k f (fun vs H Q E => sp1 vs H Q E ∨ sp2 vs H Q E) :=
  fun A outer s H us vs Q E hr hq e0 r hs => hs.elim (h1 A outer s H us vs Q E hr hq e0 r) (h2 A outer s H us vs Q E hr hq e0 r)
theorem _root_.L2.FnOk.quiet {f : Addr} {fd : FuncData} {ps : List Str} {sp : Sp} (F : FnOk P w K mg base CX k f fd ps sp) (b : Binds K fd ps []) : FnG P w K mg base CX k f sp := by
  intro A outer s H us vs Q E hr _ e0 r hs
  have z := F.raw b .nil A outer s H us vs Q E hr e0 r
  simp only [List.append_nil] at z
  exact z hs
end
section
variable {X : Cx} {CX : CXT} {k : Nat} {f : Addr} {sp : Sp} {E : XK}
/-- such a def as a thing that is called -/
theorem callG (F : FnG X.prog X.w X.K X.mg X.base CX k f sp) (hr : Room k X.A) (hq : Quiet X.A) (hx : Passes CX X E) : CallR X (.ref f) (fun vs H Q => sp vs H Q E) := by
  intro pins s σ H vs us Q I r h
  refine wpAny_call (codeAny_mono (F X.A X.stack s H us vs Q E hr hq I.env0 r h) fun res s' hres => ?_)
  cases res with
  | error e => exact hx pins σ H s e s' I hres
  | ok fl =>
    cases fl with
    | ret u => exact I.after hres
    | next => exact False.elim hres
    | brk => exact False.elim hres
    | cont => exact False.elim hres
/-- x(..), x a def of the module, by what its call is worth -/
theorem pe_callV {x : Str} {p pos : Pos} {e : Expr} {es : List Expr} {t : TA} {r : List V → Hp → VK → Prop} (c : CallR X (.ref f) r) (hg : Gl X x) (hm : X.mg x = some (.ref f)) (hk : PySem.W.keepIn X.K (.ref f) = true) (ha : PA X (e :: es) t)
    (hdb : (x == ("__debug__" : Str)) = false := by decide) (he : starEach (e :: es) X.env = (false, eval e X.env) :: starEach es X.env := by rfl) (hpl : (backTo pos (starEach es X.env)).any (·.1) = false := by rfl) :
    PE X (.Call (.Name x p) (e :: es) [] pos) (tCB r t) := ⟨fun pins s σ H Q I h => wpAny_Call_Name_kw (ld_glob I hg hm
  (PySem.W.callWith_K (h₀ := X.base) I.ok.mod.kin hk (thn (ha.run pos pins s σ H _ I h) fun us s1 ⟨vs, H1, I1, rv, q⟩ => ⟨I1.kIn, c pins s1 σ H1 vs us Q I1 rv q⟩) he hpl) hdb)⟩
end
/-! ### the law's own end -/
section
variable {P : Program} {w : World} {K : PySem.W.Frag} {mg mb : Str → Option Value} {CX : CXT} {k : Nat} {fa a : Addr} {sp : Sp} {s1 : Shared} {vs : List Value} {ns : List Int}
/-- what is asked of the call of the law -/
abbrev LawGoal (P : Program) (w : World) (fa a : Addr) (s1 : Shared) : Prop :=
  codeAny (model P w) callerA (.call (.ref fa) ⟨[.ref a], []⟩) (fun r s' => r = .ok (.ret (.bool true)) ∧ OldK s1.heap s'.heap ∧ s'.os = s1.os ∧ AllBare s'.gens) s1
theorem lawG_core (KX : K.In s1.heap) (hns : s1.heap.Ns mainGlobals mg) (hb : s1.heap.Ns builtinsNs mb) (hbb : ∀ x : Str, x ≠ "__name__" → mb x = bootBuiltins x) (hlim : s1.heap.NoLimit) (hg : s1.gens = #[])
    (ha : s1.heap.get? a = some { cls := .type "list", data := .seq vs.toArray }) (hr : Room k callerA) (F : ∀ base : Heap, K.In base → base.Ns mainGlobals mg → FnG P w K mg base CX k fa sp)
    (hCX : ∀ H e s', CX [] H s1 (fun _ _ _ => False) e s' → False) {H : Hp} (hO : Only H) (hok : HOk P w H s1.heap) (hA : ∀ b, H b ≠ none → b = a ∧ K.lookup a = none) (hsp : sp [.ref a] H (fun v _ => v = .bl true) fun _ _ _ => False) : LawGoal P w fa a s1 := by
  -- what is tracked is the script alone: it is no dict and no part of K
  have plain : ∀ {b : Addr} {o : Obj}, s1.heap.get? b = some o → (∀ its n, o.data ≠ .seq its n) → H b = none := by
    intro b o e d
    rcases hO b with z | ⟨ob, xs, z⟩
    · exact z
    · obtain ⟨rfl, _⟩ := hA b (by rw [z]; exact fun q => nomatch q)
      rw [ha] at e
      cases e
      exact absurd rfl (d _ _)
  have nsB : ∀ {b : Addr} {m : Str → Option Value}, s1.heap.Ns b m → (hidT s1.heap H).Ns b m := fun {b m} h => by
    obtain ⟨o, es, ep, e, d, r⟩ := h
    exact ⟨o, es, ep, hidT_get e (plain e fun its n z => by rw [d] at z; cases z), d, r⟩
  have kB : K.In (hidT s1.heap H) := fun b o e => hidT_get (KX b o e) (by
    rcases hO b with z | ⟨ob, xs, z⟩
    · exact z
    · obtain ⟨rfl, n⟩ := hA b (by rw [z]; exact fun q => nomatch q)
      rw [n] at e
      cases e)
  obtain ⟨mc, l1, l2⟩ := hlim
  have e0 : Env0 P w K mg (hidT s1.heap H) callerA [] s1 H := {
    frames := rfl
    mod := ⟨kB, nsB hns, ⟨mb, nsB hb, hbb⟩, ⟨mc, nsB l1, l2⟩⟩
    bs := fun b o e => of_hidT e
    bsz := Nat.le_of_eq (hidT_size _ _)
    funs := trivial
    frf := fun b hb' => by cases hb'
    hok := hok
    bare := .of_eq hg }
  refine codeAny_mono (F _ kB (nsB hns) callerA [] s1 H [.ref a] [.ref a] _ _ hr rfl e0 (.cons rfl .nil) hsp) fun r s' h => ?_
  match r, h with
  | .error e, h => exact (hCX H e s' h).elim
  | .ok .next, h => exact False.elim h
  | .ok .brk, h => exact False.elim h
  | .ok .cont, h => exact False.elim h
  | .ok (.ret u), h =>
    obtain ⟨v, H', os, bare, un, hok', r', q⟩ := h
    have q' : v = .bl true := q
    subst q'
    obtain rfl : u = Value.bool true := r'
    refine ⟨rfl, OldK.of_keep fun b o e => ?_, os, bare⟩
    rcases hO b with z | ⟨ob, xs, z⟩
    · exact un.keep b o e z (fun z => by cases z) (fun z => by cases z)
    · obtain ⟨e1, _⟩ := hok b _ z
      obtain ⟨e2, _⟩ := hok' b _ (un.frzs b ob _ z)
      rw [e] at e1
      cases e1
      exact e2
theorem lawG (KX : K.In s1.heap) (hns : s1.heap.Ns mainGlobals mg) (hb : s1.heap.Ns builtinsNs mb) (hbb : ∀ x : Str, x ≠ "__name__" → mb x = bootBuiltins x) (hlim : s1.heap.NoLimit) (hg : s1.gens = #[])
    (ha : s1.heap.get? a = some { cls := .type "list", data := .seq vs.toArray }) (hi : IntsAre vs ns) (hl : ns.length ≤ sizeLine) (hr : Room k callerA) (F : ∀ base : Heap, K.In base → base.Ns mainGlobals mg → FnG P w K mg base CX k fa sp)
    (hsp : ∀ H : Hp, Only H → SqL K H a (ns.map V.int) → sp [.ref a] H (fun v _ => v = .bl true) fun _ _ _ => False) (hCX : ∀ H e s', CX [] H s1 (fun _ _ _ => False) e s' → False) : LawGoal P w fa a s1 := by
  have rv := vals_ints hi
  have lv := hi.length
  cases hk : K.lookup a with
  | some o =>
    have e := KX a o hk
    rw [ha] at e
    cases e
    exact lawG_core KX hns hb hbb hlim hg ha hr F hCX (H := fun _ => none) (fun _ => .inl rfl) (fun b u z => by cases z) (fun b z => absurd rfl z)
      (hsp _ (fun _ => .inl rfl) (.inr ⟨_, vs.toArray, _, hk, rfl, rfl, rfl, by rw [List.size_toArray, lv]; exact hl, by simpa using rv⟩))
  | none =>
    have at_ : ∀ b, (upd (fun _ => none) a (.frz { cls := .type "list", data := .seq vs.toArray } (.lst (ns.map V.int)))) b ≠ none → b = a := fun b z => by
      by_cases hb : b = a
      · exact hb
      · exact absurd (upd_ne hb) z
    have only : Only (upd (fun _ => none) a (.frz { cls := .type "list", data := .seq vs.toArray } (.lst (ns.map V.int)))) := fun b => by
      by_cases hb : b = a
      · exact .inr ⟨_, _, by rw [hb]; exact upd_same⟩
      · exact .inl (upd_ne hb)
    refine lawG_core KX hns hb hbb hlim hg ha hr F hCX only (fun b u z => ?_) (fun b z => ⟨at_ b z, hk⟩) (hsp _ only (.inl (.inr ⟨_, upd_same⟩)))
    have eb := at_ b (by rw [z]; exact fun q => nomatch q)
    subst eb
    rw [upd_same] at z
    cases z
    exact ⟨ha, by rw [List.length_map]; exact hl, vs, _, rv, ha⟩
end
theorem walk_ofG {l : PySem.W.OpenLaw} {n k : Nat} {q : Program} {loose : List Str} {XP : (Str → Option Value) → Heap → Prop} {YP : World → Heap → Prop} {d : DefRec} {K : Params → PySem.W.Frag} {sp : World → Sp}
    (hn : l.most = some n) (hn2 : n ≤ sizeLine) (hdf : d.params.defaults = []) (hr : Room k callerA) (hY : ∀ (w : World) (h : Heap), YP w h → (K w.params).In h)
    (F : ∀ (w : World) (mg : Str → Option Value) (fa : Addr) (h : Heap), (K w.params).In h → h.Ns mainGlobals mg → mg d.name = some (.ref fa) →
      ∀ base : Heap, (K w.params).In base → base.Ns mainGlobals mg → FnG l.prog w (K w.params) mg base CX0 k fa (sp w))
    (hsp : ∀ (w : World) (H : Hp) (a : Addr) (ns : List Int), ns.length ≤ n → Only H → SqL (K w.params) H a (ns.map V.int) → sp w [.ref a] H (fun v _ => v = .bl true) fun _ _ _ => False) :
    PySem.W.WalkO q loose XP YP l.row.toRowW d [] (fun f vs => PySem.call f vs) :=
  Att.attach_call hn hdf fun w _ _ mg _ fa _ _ _ _ a vs ns G Y ho hd hcd hmg hobj hints hlen hg =>
    lawG (hY w _ Y) G.T.g G.T.b G.T.builtins G.T.nolimit hg hobj hints (Nat.le_trans hlen hn2) hr (F w mg fa _ (hY w _ Y) G.T.g hmg) (fun H hO hS => hsp w H a ns hlen hO hS) fun _ _ _ z => z
/-! ### repr of data -/
mutual
/-- the value v is the datum, by the abstract heap; its repr is short enough to be told by its size -/
def Rp (H : Hp) : PyData → V → Prop
  | .none, v => v = .non
  | .bool b, v => v = .bl b
  | .int i, v => v = .int i ∧ i.natAbs.log2 < 1920
  | .str x, v => v = .str x ∧ ∀ c ∈ x.cps.toList, c < 16 ^ 8
  | .list ds, v => ∃ a xs, v = .ref a ∧ a ≠ sysModules ∧ H a = some (.lst xs) ∧ RpAll H ds xs
  | .tuple ds, v => ∃ a xs, v = .ref a ∧ H a = some (.tup xs) ∧ RpAll H ds xs
  | .dict [], v => ∃ a, v = .ref a ∧ H a = some (.dK [])
  | .dict (_ :: _), _ => False
def RpAll (H : Hp) : List PyData → List V → Prop
  | [], xs => xs = []
  | d :: ds, xs => ∃ x r, xs = x :: r ∧ Rp H d x ∧ RpAll H ds r
end
mutual
theorem Rp.ok {H : Hp} : ∀ (d : PyData) (v : V), Rp H d v → d.showable = true ∧ d.leavesShort 1921 = true
  | .none, _, _ => ⟨rfl, rfl⟩
  | .bool _, _, _ => ⟨rfl, rfl⟩
  | .int i, v, h => by
    obtain ⟨_, h⟩ := (show v = .int i ∧ i.natAbs.log2 < 1920 from h)
    exact ⟨decide_eq_true h, decide_eq_true (int_text_len_1921 h)⟩
  | .str x, v, h => by
    obtain ⟨_, h⟩ := (show v = .str x ∧ ∀ c ∈ x.cps.toList, c < 16 ^ 8 from h)
    exact ⟨rfl, List.all_eq_true.mpr fun c hc => decide_eq_true (h c hc)⟩
  | .list ds, v, h => by
    obtain ⟨_, xs, _, _, _, h⟩ := (show ∃ a xs, v = .ref a ∧ a ≠ sysModules ∧ H a = some (.lst xs) ∧ RpAll H ds xs from h)
    exact RpAll.ok ds xs h
  | .tuple ds, v, h => by
    obtain ⟨_, xs, _, _, h⟩ := (show ∃ a xs, v = .ref a ∧ H a = some (.tup xs) ∧ RpAll H ds xs from h)
    exact RpAll.ok ds xs h
  | .dict [], _, _ => ⟨rfl, rfl⟩
  | .dict (_ :: _), _, h => (show False from h).elim
theorem RpAll.ok {H : Hp} : ∀ (ds : List PyData) (xs : List V), RpAll H ds xs → PyData.showableAll ds = true ∧ PyData.leavesShortAll 1921 ds = true
  | [], _, _ => ⟨rfl, rfl⟩
  | d :: ds, xs, h => by
    obtain ⟨x, r, _, h1, h2⟩ := (show ∃ x r, xs = x :: r ∧ Rp H d x ∧ RpAll H ds r from h)
    obtain ⟨a1, a2⟩ := Rp.ok d x h1
    obtain ⟨b1, b2⟩ := RpAll.ok ds r h2
    exact ⟨by simp only [PyData.showableAll, a1, b1, Bool.and_self], by simp only [PyData.leavesShortAll, a2, b2, Bool.and_self]⟩
end
mutual
theorem Rp.keep {H H' : Hp} (s : Same H H') : ∀ (d : PyData) (v : V), Rp H d v → Rp H' d v
  | .none, _, h => h
  | .bool _, _, h => h
  | .int _, _, h => h
  | .str _, _, h => h
  | .list ds, v, h => by
    obtain ⟨a, xs, e, n, ha, h⟩ := (show ∃ a xs, v = .ref a ∧ a ≠ sysModules ∧ H a = some (.lst xs) ∧ RpAll H ds xs from h)
    exact ⟨a, xs, e, n, s _ _ ha, RpAll.keep s ds xs h⟩
  | .tuple ds, v, h => by
    obtain ⟨a, xs, e, ha, h⟩ := (show ∃ a xs, v = .ref a ∧ H a = some (.tup xs) ∧ RpAll H ds xs from h)
    exact ⟨a, xs, e, s _ _ ha, RpAll.keep s ds xs h⟩
  | .dict [], v, h => by
    obtain ⟨a, e, ha⟩ := (show ∃ a, v = .ref a ∧ H a = some (.dK []) from h)
    exact ⟨a, e, s _ _ ha⟩
  | .dict (_ :: _), _, h => (show False from h).elim
theorem RpAll.keep {H H' : Hp} (s : Same H H') : ∀ (ds : List PyData) (xs : List V), RpAll H ds xs → RpAll H' ds xs
  | [], _, h => h
  | d :: ds, xs, h => by
    obtain ⟨x, r, e, h1, h2⟩ := (show ∃ x r, xs = x :: r ∧ Rp H d x ∧ RpAll H ds r from h)
    exact ⟨x, r, e, Rp.keep s d x h1, RpAll.keep s ds r h2⟩
end
section
variable {X : Cx} {pins : List (Addr × Obj)} {σ : L2.St} {H : Hp} {s : Shared}
mutual
theorem Rp.reads (I : Inv X pins σ H s) : ∀ (d : PyData) (v : V) (u : Value), Rp H d v → RelV v u → ∃ as, Reads s.heap u d as ∧ sysModules ∉ as
  | .none, v, u, h, r => by
    obtain rfl := (show v = .non from h)
    cases r
    exact ⟨_, .none, by simp⟩
  | .bool b, v, u, h, r => by
    obtain rfl := (show v = .bl b from h)
    cases r
    exact ⟨_, .bool b, by simp⟩
  | .int i, v, u, h, r => by
    obtain ⟨rfl, _⟩ := (show v = .int i ∧ i.natAbs.log2 < 1920 from h)
    obtain ⟨t, rfl⟩ := r
    exact ⟨_, .int i t, by simp⟩
  | .str x, v, u, h, r => by
    obtain ⟨rfl, _⟩ := (show v = .str x ∧ ∀ c ∈ x.cps.toList, c < 16 ^ 8 from h)
    obtain ⟨t, rfl⟩ := r
    exact ⟨_, .str x t, by simp⟩
  | .list ds, v, u, h, r => by
    obtain ⟨a, xs, rfl, n, ha, h⟩ := (show ∃ a xs, v = .ref a ∧ a ≠ sysModules ∧ H a = some (.lst xs) ∧ RpAll H ds xs from h)
    cases r
    obtain ⟨_, its, m, rv, e⟩ := (show ObjOk X.prog X.w H s.heap a (.lst xs) from I.hok a _ ha)
    obtain ⟨as, ra, na⟩ := RpAll.reads I ds xs its h rv
    exact ⟨_, .list e rfl rfl ra, fun z => (List.mem_cons.mp z).elim (fun z => n z.symm) na⟩
  | .tuple ds, v, u, h, r => by
    obtain ⟨a, xs, rfl, ha, h⟩ := (show ∃ a xs, v = .ref a ∧ H a = some (.tup xs) ∧ RpAll H ds xs from h)
    cases r
    obtain ⟨_, its, rv, o, e, c, m, dd⟩ := (show ObjOk X.prog X.w H s.heap a (.tup xs) from I.hok a _ ha)
    obtain ⟨as, ra, na⟩ := RpAll.reads I ds xs its h rv
    exact ⟨_, .tuple e c dd ra, na⟩
  | .dict [], v, u, h, r => by
    obtain ⟨a, rfl, ha⟩ := (show ∃ a, v = .ref a ∧ H a = some (.dK []) from h)
    cases r
    obtain ⟨_, ns, vs, kv, dk⟩ := (show ObjOk X.prog X.w H s.heap a (.dK []) from I.hok a _ ha)
    cases kv
    obtain ⟨o, es, ep, e, ex, dd, _, hes, _⟩ := dk
    have e0 : es.toList = [] := by
      generalize es.toList = l at hes
      cases hes
      rfl
    refine ⟨_, .dict (kvs := []) e ex.1 dd (by rw [e0]; exact .nil) (by rw [e0]; exact .nil), fun z => ?_⟩
    have z' : sysModules = a := by simpa using z
    rw [← z'] at ns
    exact absurd ns (by decide)
  | .dict (_ :: _), _, _, h, _ => (show False from h).elim
theorem RpAll.reads (I : Inv X pins σ H s) : ∀ (ds : List PyData) (xs : List V) (us : List Value), RpAll H ds xs → Vals xs us → ∃ as, ReadsAll s.heap us ds as ∧ sysModules ∉ as
  | [], xs, us, h, r => by
    obtain rfl := (show xs = [] from h)
    cases r
    exact ⟨_, .nil, by simp⟩
  | d :: ds, xs, us, h, r => by
    obtain ⟨x, rr, rfl, h1, h2⟩ := (show ∃ x r, xs = x :: r ∧ Rp H d x ∧ RpAll H ds r from h)
    cases r with
    | cons q qs =>
      obtain ⟨as, ra, na⟩ := Rp.reads I d x _ h1 q
      obtain ⟨bs, rb, nb⟩ := RpAll.reads I ds rr _ h2 qs
      exact ⟨_, .cons ra rb, fun z => (List.mem_append.mp z).elim na nb⟩
end
end
/-- repr of a list, a tuple, a dict of data -/
def rRepr : List V → Hp → VK → Prop := fun vs H Q => ∃ (x : V) (d : PyData), vs = [x] ∧ Rp H d x ∧ d.bulk ≤ 8000 ∧ d.depth ≤ 60 ∧ Q (.str d.shown) H
theorem call_repr {X : Cx} (hq : Quiet X.A) (hu : X.A.units + 64 < cLine) : CallR X (.builtin "repr") rRepr := by
  intro pins s σ H xs us Q I r h
  obtain ⟨x, d, rfl, hd, hb, hdp, q⟩ := h
  obtain ⟨u, rfl, r1⟩ := vals1 r
  obtain ⟨k1, k2⟩ := Rp.ok d x hd
  have sz : d.shown.length ≤ sizeLine := by
    have z := PyData.shown_le_bulk 1921 (by decide) d k2
    have e : (1921 + 2) * d.bulk ≤ 1923 * 8000 := Nat.mul_le_mul_left _ hb
    rw [sizeLine_eq]
    omega
  obtain ⟨as, ra, na⟩ := Rp.reads I d x u hd r1
  have goal : ∀ a, u = .ref a → wpAny (model X.prog X.w) X.A (call (.builtin "repr") [u]) (EP X pins σ Q) X.xe s := by
    rintro a rfl
    exact repr_of_reads' ra k1 (fun _ => na) hq (by omega) (fun _ _ e => e) (fun h' t tk hk => ⟨.str d.shown, H, I.kept hk, ⟨_, rfl⟩, q⟩) sz
  match d, hd with
  | .none, hd =>
    obtain rfl := (show x = .non from hd)
    cases r1
    exact PySem.P.repr_of_none ⟨.str _, H, I.tok _, ⟨_, rfl⟩, q⟩
  | .bool b, hd =>
    obtain rfl := (show x = .bl b from hd)
    cases r1
    exact PySem.P.repr_of_bool ⟨.str _, H, I.tok _, ⟨_, rfl⟩, q⟩
  | .int i, hd =>
    obtain ⟨rfl, hi⟩ := (show x = .int i ∧ i.natAbs.log2 < 1920 from hd)
    obtain ⟨t, rfl⟩ := r1
    exact PySem.P.repr_of_int hi ⟨.str _, H, I.tok _, ⟨_, rfl⟩, q⟩
  | .str y, hd =>
    obtain ⟨rfl, _⟩ := (show x = .str y ∧ ∀ c ∈ y.cps.toList, c < 16 ^ 8 from hd)
    obtain ⟨t, rfl⟩ := r1
    exact PySem.P.repr_of_str ⟨.str _, H, I.tok _, ⟨_, rfl⟩, q⟩ sz
  | .list ds, hd =>
    obtain ⟨a, _, rfl, _⟩ := (show ∃ a xs, x = .ref a ∧ a ≠ sysModules ∧ H a = some (.lst xs) ∧ RpAll H ds xs from hd)
    exact goal a r1
  | .tuple ds, hd =>
    obtain ⟨a, _, rfl, _⟩ := (show ∃ a xs, x = .ref a ∧ H a = some (.tup xs) ∧ RpAll H ds xs from hd)
    exact goal a r1
  | .dict [], hd =>
    obtain ⟨a, rfl, _⟩ := (show ∃ a, x = .ref a ∧ H a = some (.dK []) from hd)
    exact goal a r1
  | .dict (_ :: _), hd => exact (show False from hd).elim
/-- a list display whose place is told not to be the modules' own -/
theorem pe_lstN {X : Cx} {es : List Expr} {t : TA} {pos : Pos} (h : PA X es t) : PE X (.List es pos) (fun σ H Q => t σ H fun xs H1 => xs.length ≤ sizeLine ∧ ∀ p, H1 p = none → p ≠ sysModules → Q (.ref p) (upd H1 p (.lst xs))) := by
  refine ⟨fun pins s σ H Q I hq => ?_⟩
  refine wpAny_List_spliced (thn (h.run pos pins s σ H _ I hq) fun us s1 hh => ?_)
  obtain ⟨xs, H1, I1, r, z, q⟩ := hh
  have big := I1.big
  refine ⟨by rw [← r.length]; exact z, ⟨.ref s1.heap.objs.size, _, I1.laid (t' := s1.toks) (o := .lst xs) (fun b u e => Heap.get?_push_of_some _ e) (Nat.le_refl _) ⟨z, us, 0, r, Heap.get?_push_size _ rfl⟩, rfl, q _ (I1.hok.fresh (Nat.le_refl _)) fun e => ?_⟩⟩
  rw [e] at big
  exact absurd big (Nat.lt_irrefl _)
end Ly
namespace Ly
open PySem PySem.Spec PyProof.Rows L2
/-! ### the same rules, said of the written part that a block shares with its def -/
section
variable {X : Cx} {K : PySem.W.Frag}
theorem ixL (h : X.K = K) : IxR X (rIxL K) := h ▸ ix_list
theorem ixT (h : X.K = K) : IxR X (rIxT K) := h ▸ ix_tup
theorem isiK (h : X.K = K) : CallR X (.builtin "isinstance") (rIsi K) := h ▸ call_isi
theorem inK (h : X.K = K) : OpR X (compareOp .In) (rIn K false) := h ▸ op_in_seq
theorem ninK (h : X.K = K) : OpR X (compareOp .NotIn) (rIn K true) := h ▸ op_notIn_seq
def rLenL (K : PySem.W.Frag) : List V → Hp → VK → Prop := fun xs H Q => ∃ p ys, xs = [.ref p] ∧ SqL K H p ys ∧ Q (.int ys.length) H
def rLenT (K : PySem.W.Frag) : List V → Hp → VK → Prop := fun xs H Q => ∃ p ys, xs = [.ref p] ∧ SqT K H p ys ∧ Q (.int ys.length) H
theorem lenLK (h : X.K = K) : CallR X (.builtin "len") (rLenL K) := h ▸ call_lenL
theorem lenTK (h : X.K = K) : CallR X (.builtin "len") (rLenT K) := h ▸ call_lenT
end
end Ly
namespace Ly
open PySem PySem.Spec PyProof.Rows L2
theorem sameT {K : PySem.W.Frag} {H H' : Hp} {a : Addr} {xs : List V} (e : Same H H') (h : SqT K H a xs) : SqT K H' a xs := by
  rcases h with (h | ⟨o, h⟩) | h
  · exact .inl (.inl (e _ _ h))
  · exact .inl (.inr ⟨o, e _ _ h⟩)
  · exact .inr h
/-- a loop's comprehension that maps a list's items, told at once: y = [e for x in xs] -/
theorem same_set {H H1 : Hp} {p : Addr} {o : HO} (s : Same H H1) (n : H p = none) : Same H (upd H1 p o) := fun b u e => by
  rw [upd_ne (ne_of_none e n)]
  exact s _ _ e
end Ly

set_option Elab.async false
set_option linter.all false
set_option maxRecDepth 100000
set_option maxHeartbeats 4000000
/-! cutters as plain functions: parts, what a part keeps of a row, what parts one after another keep -/
namespace Cut
inductive Part where
  | all
  | pat (f b : List Bool)
  deriving DecidableEq
/-- whether there is a plus at this index -/
def hp (l : List Bool) (i : Int) : Bool := decide (0 ≤ i) && decide (i < l.length) && l.getD i.toNat false
def kat (f b : List Bool) (n i : Nat) : Bool := hp f i || hp b ((i : Int) - ((n : Int) - b.length))
/-- the places that one part keeps of a row of n -/
def sel : Part → Nat → List Nat
  | .all, n => List.range n
  | .pat f b, n => (List.range n).filter (kat f b n)
def pick {α : Type} (p : Part) (xs : List α) : List α := (sel p xs.length).filterMap fun i => xs[i]?
def run {α : Type} (ps : List Part) (xs : List α) : List α := ps.foldl (fun l p => pick p l) xs
def places (ps : List Part) (n : Nat) : List Nat := run ps (List.range n)
def keepsAll (ps : List Part) : Bool := ps.all fun p => decide (p = .all)
def Ok : Part → Prop
  | .all => True
  | .pat f b => f.length ≤ 2 ∧ b.length ≤ 3
/-! ### rows -/
theorem get_range {α : Type} : ∀ xs : List α, (List.range xs.length).filterMap (fun i => xs[i]?) = xs
  | [] => rfl
  | x :: r => by
    rw [List.length_cons, List.range_succ_eq_map, List.filterMap_cons, List.filterMap_map]
    show x :: (List.range r.length).filterMap (fun i => r[i]?) = x :: r
    rw [get_range r]
theorem pick_all {α : Type} (xs : List α) : pick .all xs = xs := get_range xs
theorem pick_map {α β : Type} (p : Part) (g : α → β) (xs : List α) : pick p (xs.map g) = (pick p xs).map g := by
  unfold pick
  rw [List.length_map, List.map_filterMap]
  congr 1
  funext i
  rw [List.getElem?_map]
theorem run_map {α β : Type} (g : α → β) : ∀ (ps : List Part) (xs : List α), run ps (xs.map g) = (run ps xs).map g
  | [], _ => rfl
  | p :: ps, xs => by
    show run ps (pick p (xs.map g)) = (run ps (pick p xs)).map g
    rw [pick_map, run_map g ps]
theorem run_cons {α : Type} (p : Part) (ps : List Part) (xs : List α) : run (p :: ps) xs = run ps (pick p xs) := rfl
theorem run_append {α : Type} (ps qs : List Part) (xs : List α) : run (ps ++ qs) xs = run qs (run ps xs) := List.foldl_append
theorem sel_lt {p : Part} {n i : Nat} (h : i ∈ sel p n) : i < n := by
  cases p with
  | all => exact List.mem_range.mp h
  | pat f b => exact List.mem_range.mp (List.mem_filter.mp h).1
/-- the values kept are those at the kept places -/
theorem run_get {α : Type} (ps : List Part) (xs : List α) : run ps xs = (places ps xs.length).filterMap fun i => xs[i]? := by
  have key : ∀ (qs : List Part) (l : List Nat), (∀ i ∈ l, i < xs.length) → run qs (l.filterMap fun i => xs[i]?) = (run qs l).filterMap fun i => xs[i]? := by
    intro qs l hl
    cases xs with
    | nil =>
      cases l with
      | nil =>
        have e : ∀ rs : List Part, run rs ([] : List Nat) = [] := fun rs => by
          induction rs with
          | nil => rfl
          | cons p rs ih =>
            rw [run_cons]
            have e1 : pick p ([] : List Nat) = [] := by
              unfold pick
              cases p <;> rfl
            rw [e1, ih]
        have e' : ∀ rs : List Part, run rs ([] : List α) = [] := fun rs => by
          induction rs with
          | nil => rfl
          | cons p rs ih =>
            rw [run_cons]
            have e1 : pick p ([] : List α) = [] := by
              unfold pick
              cases p <;> rfl
            rw [e1, ih]
        show run qs ([] : List α) = (run qs ([] : List Nat)).filterMap fun i => ([] : List α)[i]?
        rw [e, e']
        rfl
      | cons a r => exact absurd (hl a List.mem_cons_self) (Nat.not_lt_zero _)
    | cons x r =>
      have e : ∀ l : List Nat, (∀ i ∈ l, i < (x :: r).length) → (l.filterMap fun i => (x :: r)[i]?) = l.map fun i => (x :: r).getD i x := by
        intro l
        induction l with
        | nil => intro _; rfl
        | cons a l ih =>
          intro h
          have ha := h a List.mem_cons_self
          rw [List.filterMap_cons, List.getElem?_eq_getElem ha, ih fun i hi => h i (List.mem_cons_of_mem _ hi), List.map_cons]
          rw [List.getD_eq_getElem?_getD, List.getElem?_eq_getElem ha]
          rfl
      rw [e l hl, run_map]
      refine (e _ fun i hi => ?_).symm
      -- what is kept is among what there was
      have sub : ∀ (qs : List Part) (l : List Nat), ∀ i ∈ run qs l, i ∈ l := by
        intro qs
        induction qs with
        | nil => exact fun l i h => h
        | cons p qs ih =>
          intro l i h
          have h1 := ih _ i h
          obtain ⟨j, hj, e⟩ := List.mem_filterMap.mp h1
          exact List.mem_of_getElem? e
      exact hl i (sub qs l i hi)
  have h := key ps (List.range xs.length) fun i hi => List.mem_range.mp hi
  rw [get_range] at h
  exact h
theorem run_sub {α : Type} : ∀ (ps : List Part) (xs : List α) (x : α), x ∈ run ps xs → x ∈ xs
  | [], _, _, h => h
  | p :: ps, xs, x, h => by
    have h1 := run_sub ps _ x h
    obtain ⟨j, _, e⟩ := List.mem_filterMap.mp h1
    exact List.mem_of_getElem? e
theorem places_lt {ps : List Part} {n i : Nat} (h : i ∈ places ps n) : i < n := List.mem_range.mp (run_sub ps _ i h)
theorem pick_len {α : Type} (p : Part) (xs : List α) : (pick p xs).length ≤ xs.length := by
  refine Nat.le_trans (List.length_filterMap_le _ _) ?_
  cases p with
  | all => exact Nat.le_of_eq List.length_range
  | pat f b => exact Nat.le_trans (List.length_filter_le _ _) (Nat.le_of_eq List.length_range)
theorem run_len {α : Type} : ∀ (ps : List Part) (xs : List α), (run ps xs).length ≤ xs.length
  | [], _ => Nat.le_refl _
  | p :: ps, xs => Nat.le_trans (run_len ps _) (pick_len p xs)
theorem places_len (ps : List Part) (n : Nat) : (places ps n).length ≤ n := Nat.le_trans (run_len ps _) (Nat.le_of_eq List.length_range)
theorem run_all {α : Type} : ∀ (ps : List Part) (xs : List α), keepsAll ps = true → run ps xs = xs
  | [], _, _ => rfl
  | p :: ps, xs, h => by
    have h' : (decide (p = .all) && keepsAll ps) = true := h
    rw [Bool.and_eq_true] at h'
    have e := of_decide_eq_true h'.1
    rw [e, run_cons, pick_all]
    exact run_all ps xs h'.2
/-! ### five and more places -/
/-- where the five places that patterns speak of stand in a row of n -/
def emb (n i : Nat) : Nat := if i < 2 then i else i + (n - 5)
theorem hp_neg {l : List Bool} {i : Int} (h : i < 0) : hp l i = false := by
  unfold hp
  rw [decide_eq_false (by omega)]
  rfl
theorem hp_out {l : List Bool} {i : Int} (h : (l.length : Int) ≤ i) : hp l i = false := by
  unfold hp
  rw [decide_eq_false (show ¬ i < (l.length : Int) by omega), Bool.and_false]
  rfl
theorem kat_mid {f b : List Bool} (hf : f.length ≤ 2) (hb : b.length ≤ 3) {n i : Nat} (h2 : 2 ≤ i) (h3 : i + 3 < n) : kat f b n i = false := by
  unfold kat
  rw [hp_out (by omega), hp_neg (by omega)]
  rfl
theorem kat_emb {f b : List Bool} (hf : f.length ≤ 2) (hb : b.length ≤ 3) {n i : Nat} (hn : 5 ≤ n) (hi : i < 5) : kat f b n (emb n i) = kat f b 5 i := by
  unfold kat emb
  by_cases h : i < 2
  · rw [if_pos h, hp_neg (l := b) (by omega), hp_neg (l := b) (by omega)]
  · rw [if_neg h, hp_out (l := f) (by omega), hp_out (l := f) (by omega)]
    congr 2
    omega
theorem range_five (m : Nat) : List.range (m + 5) = [0, 1] ++ ((List.range m).map (· + 2) ++ [m + 2, m + 3, m + 4]) := by
  rw [show m + 5 = 2 + (m + 3) by omega, List.range_add, List.range_add]
  congr 1
  rw [List.map_append]
  congr 1
  · exact List.map_congr_left fun i _ => Nat.add_comm 2 i
  · show [2 + (m + 0), 2 + (m + 1), 2 + (m + 2)] = _
    rw [show 2 + (m + 0) = m + 2 by omega, show 2 + (m + 1) = m + 3 by omega, show 2 + (m + 2) = m + 4 by omega]
theorem sel_five {f b : List Bool} (hf : f.length ≤ 2) (hb : b.length ≤ 3) {n : Nat} (hn : 5 ≤ n) : sel (.pat f b) n = (sel (.pat f b) 5).map (emb n) := by
  obtain ⟨m, rfl⟩ : ∃ m, n = m + 5 := ⟨n - 5, by omega⟩
  show (List.range (m + 5)).filter (kat f b (m + 5)) = ((List.range 5).filter (kat f b 5)).map (emb (m + 5))
  have mid : ((List.range m).map (· + 2)).filter (kat f b (m + 5)) = [] := by
    rw [List.filter_eq_nil_iff]
    intro i hi
    obtain ⟨j, hj, rfl⟩ := List.mem_map.mp hi
    have := List.mem_range.mp hj
    rw [kat_mid hf hb (by omega) (by omega)]
    exact Bool.false_ne_true
  rw [range_five, List.filter_append, List.filter_append, mid, List.nil_append, ← List.filter_append]
  have e : ([0, 1] ++ [m + 2, m + 3, m + 4] : List Nat) = (List.range 5).map (emb (m + 5)) := by
    show [0, 1, m + 2, m + 3, m + 4] = [emb (m + 5) 0, emb (m + 5) 1, emb (m + 5) 2, emb (m + 5) 3, emb (m + 5) 4]
    unfold emb
    rw [if_pos (by decide), if_pos (by decide), if_neg (by decide), if_neg (by decide), if_neg (by decide)]
    rw [show 2 + (m + 5 - 5) = m + 2 by omega, show 3 + (m + 5 - 5) = m + 3 by omega, show 4 + (m + 5 - 5) = m + 4 by omega]
  rw [e, List.filter_map]
  congr 1
  refine List.filter_congr fun i hi => ?_
  exact kat_emb hf hb hn (List.mem_range.mp hi)
theorem pick_five {f b : List Bool} (hf : f.length ≤ 2) (hb : b.length ≤ 3) {n : Nat} (hn : 5 ≤ n) : pick (.pat f b) (List.range n) = (pick (.pat f b) (List.range 5)).map (emb n) := by
  have e : ∀ k : Nat, pick (.pat f b) (List.range k) = sel (.pat f b) k := fun k => by
    unfold pick
    rw [List.length_range]
    have : ∀ l : List Nat, (∀ i ∈ l, i < k) → l.filterMap (fun i => (List.range k)[i]?) = l := by
      intro l
      induction l with
      | nil => intro _; rfl
      | cons a l ih =>
        intro h
        have ha := h a List.mem_cons_self
        rw [List.filterMap_cons, List.getElem?_eq_getElem (by rw [List.length_range]; exact ha), List.getElem_range, ih fun i hi => h i (List.mem_cons_of_mem _ hi)]
    exact this _ fun i hi => sel_lt hi
  rw [e, e, sel_five hf hb hn]
theorem places_five : ∀ (ps : List Part), (∀ p ∈ ps, Ok p) → keepsAll ps = false → ∀ n, 5 ≤ n → places ps n = (places ps 5).map (emb n)
  | [], _, h, _, _ => by cases h
  | .all :: ps, hok, h, n, hn => by
    show run ps (pick .all (List.range n)) = (run ps (pick .all (List.range 5))).map (emb n)
    rw [pick_all, pick_all]
    exact places_five ps (fun p hp => hok p (List.mem_cons_of_mem _ hp)) h n hn
  | .pat f b :: ps, hok, _, n, hn => by
    obtain ⟨hf, hb⟩ := (show f.length ≤ 2 ∧ b.length ≤ 3 from hok _ List.mem_cons_self)
    show run ps (pick (.pat f b) (List.range n)) = (run ps (pick (.pat f b) (List.range 5))).map (emb n)
    rw [pick_five hf hb hn, run_map]
theorem places_le5 {ps : List Part} (hok : ∀ p ∈ ps, Ok p) (h : keepsAll ps = false) (n : Nat) : (places ps n).length ≤ 5 := by
  by_cases hn : 5 ≤ n
  · rw [places_five ps hok h n hn, List.length_map]
    exact Nat.le_trans (run_len ps _) (Nat.le_of_eq List.length_range)
  · refine Nat.le_trans (run_len ps _) ?_
    rw [List.length_range]
    omega
end Cut

set_option Elab.async false
set_option linter.all false
set_option maxRecDepth 100000
set_option maxHeartbeats 4000000
/-! texts of parts -/
namespace Cut
open PySem PySem.Spec PyProof.Rows L2 Ly
def sgn (b : Bool) : Nat := if b then 43 else 45
def sT (l : List Bool) : Str := ⟨(l.map sgn).toArray⟩
def Part.text : Part → Str
  | .all => "all"
  | .pat f b => sT f ++ ".." ++ sT b
def fronts : List (List Bool) := [[], [true], [false], [true, true], [true, false], [false, true], [false, false]]
def backs : List (List Bool) := fronts ++ [[true, true, true], [true, true, false], [true, false, true], [true, false, false], [false, true, true], [false, true, false], [false, false, true], [false, false, false]]
theorem mem_fronts : ∀ f : List Bool, f.length ≤ 2 → f ∈ fronts
  | [], _ => by decide
  | [a], _ => by cases a <;> decide
  | [a, b], _ => by cases a <;> cases b <;> decide
  | _ :: _ :: _ :: r, h => by
    simp only [List.length_cons] at h
    omega
theorem mem_backs : ∀ f : List Bool, f.length ≤ 3 → f ∈ backs
  | [], _ => by decide
  | [a], _ => by cases a <;> decide
  | [a, b], _ => by cases a <;> cases b <;> decide
  | [a, b, c], _ => by cases a <;> cases b <;> cases c <;> decide
  | _ :: _ :: _ :: _ :: r, h => by
    simp only [List.length_cons] at h
    omega
def facts (f b : List Bool) : Bool :=
  decide (Txt.partition (Part.pat f b).text ".." = (sT f, (".." : Str), sT b)) && decide (Txt.split (Part.pat f b).text ".." = [sT f, sT b]) && !decide ((Part.pat f b).text = "all") && decide ((Part.pat f b).text.length ≤ 10) &&
  (Part.pat f b).text.cps.toList.all fun c => decide (c = 43 ∨ c = 45 ∨ c = 46)
theorem all_facts : (fronts.all fun f => backs.all fun b => facts f b) = true := by decide +kernel
structure Facts (f b : List Bool) : Prop where
  part : Txt.partition (Part.pat f b).text ".." = (sT f, (".." : Str), sT b)
  spl : Txt.split (Part.pat f b).text ".." = [sT f, sT b]
  ne : (Part.pat f b).text ≠ "all"
  len : (Part.pat f b).text.length ≤ 10
  cs : ∀ c ∈ (Part.pat f b).text.cps.toList, c = 43 ∨ c = 45 ∨ c = 46
theorem pat_facts {f b : List Bool} (h : Ok (.pat f b)) : Facts f b := by
  obtain ⟨hf, hb⟩ := (show f.length ≤ 2 ∧ b.length ≤ 3 from h)
  have z := List.all_eq_true.mp (List.all_eq_true.mp all_facts f (mem_fronts f hf)) b (mem_backs b hb)
  unfold facts at z
  simp only [Bool.and_eq_true, decide_eq_true_eq, Bool.not_eq_true', decide_eq_false_iff_not, List.all_eq_true] at z
  obtain ⟨⟨⟨⟨z1, z2⟩, z3⟩, z4⟩, z5⟩ := z
  exact ⟨z1, z2, z3, z4, z5⟩
theorem text_len {p : Part} (h : Ok p) : p.text.length ≤ 10 := by
  cases p with
  | all => decide +kernel
  | pat f b => exact (pat_facts h).len
theorem text_cs {p : Part} (h : Ok p) : ∀ c ∈ p.text.cps.toList, c < 16 ^ 8 := by
  cases p with
  | all => decide +kernel
  | pat f b =>
    intro c hc
    rcases (pat_facts h).cs c hc with e | e | e <;> rw [e] <;> decide
theorem text_all {p : Part} (h : Ok p) : decide (p.text = "all") = decide (p = .all) := by
  cases p with
  | all =>
    show decide ((Str.ofString "all" : Str) = Str.ofString "all") = decide (Part.all = Part.all)
    rw [decide_eq_true rfl, decide_eq_true rfl]
  | pat f b => rw [decide_eq_false (pat_facts h).ne, decide_eq_false (fun z => by cases z)]
theorem sT_len (l : List Bool) : (sT l).length = l.length := by
  show ((l.map sgn).toArray).size = l.length
  simp
theorem sT_get {l : List Bool} {i : Nat} (h : i < l.length) : (sT l).cps.toList[i]? = some (sgn (l.getD i false)) := by
  show ((l.map sgn).toArray).toList[i]? = _
  rw [List.getD_eq_getElem?_getD, List.getElem?_eq_getElem h]
  simp [h]
theorem sgn_plus (b : Bool) : decide ((⟨#[sgn b]⟩ : Str) = "+") = b := by cases b <;> decide +kernel
theorem sT_sign {l : List Bool} {c : Nat} (h : c ∈ (sT l).cps.toList) : c = 43 ∨ c = 45 := by
  have h' : c ∈ l.map sgn := by
    have e : (sT l).cps.toList = l.map sgn := by
      show ((l.map sgn).toArray).toList = _
      simp
    rw [e] at h
    exact h
  obtain ⟨b, _, rfl⟩ := List.mem_map.mp h'
  cases b
  · exact .inr rfl
  · exact .inl rfl
/-- list(range(n)) as values -/
def iV (l : List Nat) : List V := l.map fun (i : Nat) => V.int (i : Int)
theorem rgV_iV (n : Nat) : rgV 0 (n : Int) = iV (List.range n) := by
  unfold rgV iV
  rw [show ((n : Int) - 0).toNat = n by omega]
  exact List.map_congr_left fun i _ => by rw [Int.zero_add]
theorem iV_len (l : List Nat) : (iV l).length = l.length := List.length_map _
theorem iV_get {l : List Nat} {i x : Nat} (h : l[i]? = some x) : (iV l)[i]? = some (.int (x : Int)) := by
  unfold iV
  rw [List.getElem?_map, h]
  rfl
section
variable {X : Cx} {x : Str} {pos : Pos}
theorem pe_gI {n : Int} (hg : Gl X x) (h : ∃ t, X.mg x = some (.int n t)) (hd : (x == ("__debug__" : Str)) = false := by decide) : PE X (.Name x pos) (tC (.int n)) := by
  obtain ⟨t, h⟩ := h
  exact pe_glob hg h ⟨t, rfl⟩ hd
theorem pe_gS {z : Str} (hg : Gl X x) (h : ∃ t, X.mg x = some (.str z t)) (hd : (x == ("__debug__" : Str)) = false := by decide) : PE X (.Name x pos) (tC (.str z)) := by
  obtain ⟨t, h⟩ := h
  exact pe_glob hg h ⟨t, rfl⟩ hd
end
/-- the parts of a cutter as values -/
def pV (ps : List Part) : List V := ps.map fun p => V.str p.text
end Cut

set_option Elab.async false
set_option linter.all false
set_option maxRecDepth 100000
set_option maxHeartbeats 8000000
namespace K67
open PySem PySem.Spec PyProof.Rows L2 Ly Cut

def topS (i : Nat) : Stmt := PySem.Challenge.pw_namedabove_k67_texts_of_cutters_rules_an.main.body.getD i (.Pass ⟨0, 0, 0, 0⟩)
structure Zs (mg : Str → Option Value) : Prop where
  z_len : mg "len" = none
  z_int : mg "int" = none
  z_abs : mg "abs" = none
  z_max : mg "max" = none
  z_min : mg "min" = none
  z_range : mg "range" = none
  z_all : mg "all" = none
  z_isinstance : mg "isinstance" = none
  z_str : mg "str" = none
  z_repr : mg "repr" = none
  z_bool : mg "bool" = none
  z_list : mg "list" = none
  z_tuple : mg "tuple" = none
  z_enumerate : mg "enumerate" = none
  z_zip : mg "zip" = none
  z_dict : mg "dict" = none
  z_sorted : mg "sorted" = none
  g_MAX_PARTS : ∃ t, mg "MAX_PARTS" = some (.int 4 t)
  g_MAX_ROW : ∃ t, mg "MAX_ROW" = some (.int 1000 t)
  g_KEEP_ALL : ∃ t, mg "KEEP_ALL" = some (.str "all" t)
  g_DOTS : ∃ t, mg "DOTS" = some (.str ".." t)
  g_MAX_FRONT : ∃ t, mg "MAX_FRONT" = some (.int 2 t)
  g_MAX_BACK : ∃ t, mg "MAX_BACK" = some (.int 3 t)
  g_REACH : ∃ t, mg "REACH" = some (.int 5 t)
  g_MAX_NAME : ∃ t, mg "MAX_NAME" = some (.int 8 t)
  g_MAX_PEOPLE : ∃ t, mg "MAX_PEOPLE" = some (.int 4 t)
  g_BETWEEN_PARTS : ∃ t, mg "BETWEEN_PARTS" = some (.str " > " t)
  g_BETWEEN_CUTTERS : ∃ t, mg "BETWEEN_CUTTERS" = some (.str " | " t)
  g_ADDS : ∃ t, mg "ADDS" = some (.str "adds" t)
  g_HIDES : ∃ t, mg "HIDES" = some (.str "hides" t)
  g_SEES : ∃ t, mg "SEES" = some (.str "sees" t)
  g_SKIPS : ∃ t, mg "SKIPS" = some (.str "skips" t)
abbrev s_has_plus : Stmt := topS 31
abbrev N_has_plus : List Str := ["signs", "at"]
abbrev P_has_plus : List Str := ["signs", "at"]
theorem sc_has_plus : FnScope N_has_plus P_has_plus (defScope s_has_plus) := ⟨rfl, rfl, rfl, by decide +kernel, rfl, by decide +kernel, by decide +kernel⟩

abbrev s_part_places : Stmt := topS 32
abbrev N_part_places : List Str := ["part", "many", "front", "_", "back", "ahead", "at"]
abbrev P_part_places : List Str := ["part", "many"]
theorem sc_part_places : FnScope N_part_places P_part_places (defScope s_part_places) := ⟨rfl, rfl, rfl, by decide +kernel, rfl, by decide +kernel, by decide +kernel⟩

abbrev s_kept_places : Stmt := topS 33
abbrev N_kept_places : List Str := ["parts", "many", "places", "part", "at"]
abbrev P_kept_places : List Str := ["parts", "many"]
theorem sc_kept_places : FnScope N_kept_places P_kept_places (defScope s_kept_places) := ⟨rfl, rfl, rfl, by decide +kernel, rfl, by decide +kernel, by decide +kernel⟩

abbrev s_table_of : Stmt := topS 35
abbrev N_table_of : List Str := ["parts", "many"]
abbrev P_table_of : List Str := ["parts"]
theorem sc_table_of : FnScope N_table_of P_table_of (defScope s_table_of) := ⟨rfl, rfl, rfl, by decide +kernel, rfl, by decide +kernel, by decide +kernel⟩

abbrev s_is_part : Stmt := topS 29
abbrev N_is_part : List Str := ["value", "front", "dots", "back", "sign"]
abbrev P_is_part : List Str := ["value"]
theorem sc_is_part : FnScope N_is_part P_is_part (defScope s_is_part) := ⟨rfl, rfl, rfl, by decide +kernel, rfl, by decide +kernel, by decide +kernel⟩

abbrev s_check_parts : Stmt := topS 30
abbrev N_check_parts : List Str := ["parts", "at", "part"]
abbrev P_check_parts : List Str := ["parts"]
theorem sc_check_parts : FnScope N_check_parts P_check_parts (defScope s_check_parts) := ⟨rfl, rfl, rfl, by decide +kernel, rfl, by decide +kernel, by decide +kernel⟩

section
variable {P : Program} {w : World} {K : PySem.W.Frag} {mg : Str → Option Value} {base : Heap} {f : Addr} {fd : FuncData}
def spPlus : Sp := fun vs H Q _ => ∃ (l : List Bool) (i : Int), vs = [.str (sT l), .int i] ∧ l.length ≤ 3 ∧ Q (.bl (hp l i)) H
def spPlaces : Sp := fun vs H Q _ => ∃ (p : Part) (n : Nat), vs = [.str p.text, .int n] ∧ Ok p ∧ n ≤ 1001 ∧ ∀ H' q, Same H H' → H q = none → H' q = some (.lst (iV (sel p n))) → Q (.ref q) H'
def spKept (K : PySem.W.Frag) : Sp := fun vs H Q _ => ∃ (a : Addr) (ps : List Part) (n : Nat), vs = [.ref a, .int n] ∧ SqT K H a (pV ps) ∧ (∀ p ∈ ps, Ok p) ∧ n ≤ 1001 ∧
  ∀ H' q, Same H H' → H q = none → H' q = some (.tup (iV (Cut.places ps n))) → Q (.ref q) H'
theorem ok_plus (Z : Zs mg) (D : Df K mg "has_plus" s_has_plus P_has_plus f fd) : FnOk P w K mg base CX0 1 f fd P_has_plus spPlus := by
  refine D.F.ok sc_has_plus (fun vs H Q E h => ?_) (fun cdv A outer s H vs Q E hr h => ?_)
  · obtain ⟨l, i, rfl, _⟩ := h
    rfl
  · obtain ⟨l, i, rfl, hl, q⟩ := h
    have nd := sc_has_plus.nd
    refine ⟨_,
    (pss_one
    (ps_ret (pe_and (pe_chain op_le op_lt pe_int (pv 1) (pe_callB call_len_str (by rfl) Z.z_len (by decide +kernel) (pa_cons (pv 0) pa_nil))) (pe_one (pe_cmpR op_eq (pe_ix ix_str (pv 0) (pv 1) (fun _ _ => rfl)) pe_str (nomark _)))))), ?_⟩
    have hz : (sT l).length ≤ sizeLine := by rw [sT_len]; exact sz1000 (by omega)
    refine ⟨_, rfl, _, _, rfl, rfl, _, rfl, ?_⟩
    by_cases h0 : 0 ≤ i
    · refine ifT (decide_eq_true h0) ⟨_, rfl, sT l, rfl, hz, _, _, rfl, rfl, _, rfl, ?_⟩
      rw [sT_len]
      by_cases h1 : i < (l.length : Int)
      · refine ifT (decide_eq_true h1) ⟨_, rfl, _, rfl, sT l, i, sgn (l.getD i.toNat false), rfl, rfl, hz, at_nat h0 (sT_get (by omega)), rfl, ?_⟩
        have e : hp l i = decide ((V.str ⟨#[sgn (l.getD i.toNat false)]⟩) = V.str "+") := by
          unfold hp
          rw [decide_eq_true h0, decide_eq_true h1, Bool.true_and, Bool.true_and]
          refine (sgn_plus (l.getD i.toNat false)).symm.trans ?_
          rw [decide_eq_decide]
          exact ⟨fun h => congrArg V.str h, fun h => V.str.inj h⟩
        rw [e] at q
        exact q
      · refine ifF (decide_eq_false h1) ?_
        rw [hp_out (by omega)] at q
        exact q
    · refine ifF (decide_eq_false h0) ⟨_, rfl, ?_⟩
      rw [hp_neg (by omega)] at q
      exact q

theorem ok_places (Z : Zs mg) (D : Df K mg "part_places" s_part_places P_part_places f fd) {fp : Addr} {dp : FuncData} (D_has_plus : Cl P w K mg base "has_plus" 1 fp dp P_has_plus spPlus) : FnOk P w K mg base CX0 2 f fd P_part_places spPlaces := by
  refine D.F.ok sc_part_places (fun vs H Q E h => ?_) (fun cdv A outer s H vs Q E hr h => ?_)
  · obtain ⟨p, n, rfl, _⟩ := h
    rfl
  · obtain ⟨p, n, rfl, hok, hn, q⟩ := h
    have nd := sc_part_places.nd
    refine ⟨_,
    (pss_cons
    (ps_if (pt_cmpR op_eq (pv 0) (pe_gS rfl Z.g_KEEP_ALL) (nomark _))
      (pss_one
      (ps_ret (pe_listRg rfl (by rfl) Z.z_list (prg_1 (by rfl) Z.z_range (pv 1)))))
      pss_nil)
    (pss_cons
    (ps_asg (pe_partition (pv 0) (pe_gS rfl Z.g_DOTS)) (pg_tup rfl (pgs_cons (pg_name (i := 2) nd rfl (Or.inr rfl)) (pgs_cons (pg_name (i := 3) nd rfl (Or.inl rfl)) (pgs_cons (pg_name (i := 4) nd rfl (Or.inr rfl)) pgs_nil)))))
    (pss_cons
    (ps_set (i := 5) nd rfl (Or.inr rfl) (pe_op op_sub (pv 1) (pe_callB call_len_str (by rfl) Z.z_len (by decide +kernel) (pa_cons (pv 4) pa_nil))))
    (pss_one
    (ps_ret (pe_lc (own := [("at", 6)]) (g := gName 6) rfl nd (pi_range1 (by rfl) Z.z_range (pa_cons (pv 1) pa_nil)) (blkOk_by (N := N_part_places) (sc := defScope s_part_places) (by decide +kernel)) (fun _ _ _ _ _ => (pg_name (i := 6) nd rfl (Or.inl rfl))) (fun _ _ _ _ _ => (pts_one (PW.pt (pw_or (pt_val (pe_call D_has_plus.ok (hr.mono (by decide)) (by rfl) D_has_plus.g D_has_plus.kp D_has_plus.b .nil pass0 (pa_cons (pv 2) (pa_cons (pv 6) pa_nil)))) (pw_or1 (pt_val (pe_call D_has_plus.ok (hr.mono (by decide)) (by rfl) D_has_plus.g D_has_plus.kp D_has_plus.b .nil pass0 (pa_cons (pv 4) (pa_cons (pe_op op_sub (pv 6) (pv 5)) pa_nil))))))))) (fun _ _ _ _ _ => (pv 6)))))))), ?_⟩
    refine ⟨_, rfl, rfl, _, rfl, ?_⟩
    cases p with
    | all =>
      refine ifT (decide_eq_true rfl) ⟨_, rfl, n, rfl, .of_le (by decide) (by omega) (by decide) (by omega), fun a na => ?_⟩
      refine q _ a (same_new na) na ?_
      rw [upd_same, rgV_iV]
      rfl
    | pat f b =>
      have F := pat_facts hok
      obtain ⟨hf, hb⟩ := (show f.length ≤ 2 ∧ b.length ≤ 3 from hok)
      refine ifF (decide_eq_false fun z => F.ne (V.str.inj z)) ?_
      dsimp only [tNext]
      refine ⟨_, rfl, ⟨_, rfl⟩, _, _, rfl, rfl, by decide +kernel, sz1000 (Nat.lt_of_le_of_lt F.len (by decide)), fun a na => ?_⟩
      rw [F.part]
      refine ⟨a, _, rfl, .of upd_same, rfl, _, _, rfl, _, _, rfl, _, _, rfl, rfl, ?_⟩
      refine ⟨_, rfl, _, rfl, sT b, rfl, by rw [sT_len]; exact sz1000 (by omega), _, _, rfl, rfl, ?_⟩
      rw [sT_len]
      have s1 := same_new (o := .tup [V.str (sT f), .str ".." , .str (sT b)]) na
      generalize upd H a _ = H1 at s1 ⊢
      refine ⟨_, rfl, n, rfl, by omega, by omega, fun D9 nD => ?_⟩
      refine lc_range (lo := 0) (n := (n : Int).toNat) (fun i H' => Same H1 H' ∧ H' D9 = some (.lst (iV ((List.range i).filter (kat f b n))))) ⟨same_new nD, upd_same⟩ (fun i H' hi hP => ?_) (fun H' hP => ?_)
      · obtain ⟨s2, hd⟩ := hP
        have hcond : hp f (0 + (i : Int)) = hp f i := by rw [Int.zero_add]
        have hcond2 : hp b (0 + (i : Int) - ((n : Int) - b.length)) = hp b ((i : Int) - ((n : Int) - b.length)) := by rw [Int.zero_add]
        have fin1 : kat f b n i = true → ∃ acc, H' D9 = some (.lst acc) ∧ acc.length < sizeLine ∧ Same H1 (upd H' D9 (.lst (acc ++ [.int (0 + (i : Int))]))) ∧ (upd H' D9 (.lst (acc ++ [.int (0 + (i : Int))]))) D9 = some (.lst (iV ((List.range (i + 1)).filter (kat f b n)))) := fun hc => by
          refine ⟨_, hd, ?_, fun p o e => ?_, ?_⟩
          · rw [iV_len]
            refine small1000 (Nat.le_trans (List.length_filter_le _ _) ?_)
            rw [List.length_range]
            omega
          · rw [upd_ne (ne_of_none e nD)]
            exact s2 _ _ e
          · rw [upd_same, List.range_succ, List.filter_append, Int.zero_add]
            have e1 : [i].filter (kat f b n) = [i] := by rw [List.filter_cons, hc]; rfl
            rw [e1]
            unfold iV
            rw [List.map_append]
            rfl
        have fin0 : kat f b n i = false → Same H1 H' ∧ H' D9 = some (.lst (iV ((List.range (i + 1)).filter (kat f b n)))) := fun hc => by
          refine ⟨s2, ?_⟩
          rw [List.range_succ, List.filter_append]
          have e1 : [i].filter (kat f b n) = [] := by rw [List.filter_cons, hc]; rfl
          rw [e1, List.append_nil]
          exact hd
        refine ⟨rfl, _, rfl, _, rfl, f, _, rfl, by omega, _, rfl, ?_⟩
        rw [hcond]
        by_cases h1 : hp f i = true
        · refine ifT h1 (ifT rfl ⟨_, rfl, fin1 ?_⟩)
          unfold kat
          rw [h1, Bool.true_or]
        · have h1' := eq_false_of_ne_true h1
          refine ifF h1' ⟨_, rfl, _, rfl, _, rfl, _, _, rfl, rfl, b, _, rfl, by omega, _, rfl, ?_⟩
          rw [hcond2]
          have ec : kat f b n i = hp b ((i : Int) - ((n : Int) - b.length)) := by
            unfold kat
            rw [h1', Bool.false_or]
          by_cases h2 : hp b ((i : Int) - ((n : Int) - b.length)) = true
          · exact ifT h2 ⟨_, rfl, fin1 (ec.trans h2)⟩
          · have h2' := eq_false_of_ne_true h2
            exact ifF h2' (fin0 (ec.trans h2'))
      · obtain ⟨s2, hd⟩ := hP
        refine q _ _ (s1.trans s2) (s1.free nD) ?_
        rw [hd]
        rfl

theorem ok_kept (Z : Zs mg) (D : Df K mg "kept_places" s_kept_places P_kept_places f fd) {fp : Addr} {dp : FuncData} (D_part_places : Cl P w K mg base "part_places" 2 fp dp P_part_places spPlaces) : FnOk P w K mg base CX0 3 f fd P_kept_places (spKept K) := by
  refine D.F.ok sc_kept_places (fun vs H Q E h => ?_) (fun cdv A outer s H vs Q E hr h => ?_)
  · obtain ⟨a, ps, n, rfl, _⟩ := h
    rfl
  · obtain ⟨a, ps, n, rfl, hS, hok, hn, q⟩ := h
    have nd := sc_kept_places.nd
    refine ⟨_,
    (pss_cons
    (ps_set (i := 2) nd rfl (Or.inr rfl) (pe_listRg rfl (by rfl) Z.z_list (prg_1 (by rfl) Z.z_range (pv 1))))
    (pss_cons
    (ps_for PassesOwn.never rfl (pi_tup (pv 0)) (pg_name (i := 3) nd rfl (Or.inl rfl))
      (pss_one
      (ps_set (i := 2) nd rfl (Or.inr rfl) (pe_lc (own := [("at", 4)]) (g := gName 4) (tt := tYes) rfl nd (pi_list (pe_call D_part_places.ok (hr.mono (by decide)) (by rfl) D_part_places.g D_part_places.kp D_part_places.b .nil pass0 (pa_cons (pv 3) (pa_cons (pe_callB call_lenL (by rfl) Z.z_len (by decide +kernel) (pa_cons (pv 2) pa_nil)) pa_nil)))) (blkOk_by (N := N_kept_places) (sc := defScope s_kept_places) (by decide +kernel)) (fun _ _ _ _ _ => (pg_name (i := 4) nd rfl (Or.inl rfl))) (fun _ _ _ _ _ => pts_nil) (fun _ _ _ _ _ => (pe_ix (ixL (K := K) rfl) (pv 2) (pv 4) (fun _ _ => rfl)))))))
    (pss_one
    (ps_ret (pe_callTy call_tuple_of (by rfl) Z.z_tuple (by decide +kernel) (pa_cons (pv 2) pa_nil)))))), ?_⟩
    refine ⟨_, rfl, n, rfl, .of_le (by decide) (by omega) (by decide) (by omega), fun p np => ?_⟩
    rw [rgV_iV]
    have s1 := same_new (o := .lst (iV (List.range n))) np
    refine ⟨_, rfl, a, rfl, ⟨_, sameT s1 hS⟩, ?_⟩
    refine for_tup (xs := pV ps) (fun i σ' H' => Same H H' ∧ ∃ (l : Addr) (x3 x4 : Option V), σ' = [some (.ref a), some (.int n), some (.ref l), x3, x4] ∧ H l = none ∧ H' l = some (.lst (iV (run (ps.take i) (List.range n)))))
      ⟨s1, p, none, none, rfl, np, upd_same⟩ (fun i σ' H' _ hP => sameT hP.1 hS) (fun i x σ' H1 hx hP => ?_) (fun σ' H1 hP => ?_)
    · obtain ⟨s2, l, x3, x4, rfl, nl, hl⟩ := hP
      obtain ⟨pt, hpt, rfl⟩ : ∃ pt, ps[i]? = some pt ∧ x = V.str pt.text := by
        have hx' : (ps.map fun p => V.str p.text)[i]? = some x := hx
        rw [List.getElem?_map] at hx'
        cases e : ps[i]? with
        | none => rw [e] at hx'; cases hx'
        | some pt =>
          rw [e] at hx'
          exact ⟨pt, rfl, (Option.some.inj hx').symm⟩
      have hokp := hok pt (List.mem_of_getElem? hpt)
      generalize hrow : run (ps.take i) (List.range n) = row at hl
      have hrl : row.length ≤ n := by
        rw [← hrow]
        exact Nat.le_trans (run_len _ _) (Nat.le_of_eq List.length_range)
      have hnext : run (ps.take (i + 1)) (List.range n) = pick pt row := by
        rw [List.take_add_one, hpt, ← hrow]
        exact run_append _ _ _
      refine ⟨_, rfl, _, rfl, l, _, rfl, .of hl, pt, (iV row).length, rfl, hokp, by rw [iV_len]; omega, fun H2 q2 s3 nq hq2 => ?_⟩
      rw [iV_len] at hq2
      refine ⟨q2, rfl, ⟨_, .of hq2⟩, fun D9 nD => ?_⟩
      have hl2 := s3 _ _ hl
      have selt : ∀ j ∈ sel pt row.length, j < row.length := fun j hj => sel_lt hj
      refine lc_list (xs := iV (sel pt row.length)) (fun j H' => Same H2 H' ∧ H' D9 = some (.lst (iV (((sel pt row.length).take j).filterMap fun i => row[i]?))))
        ⟨same_new nD, upd_same⟩ (fun j H' _ hQ => .of (hQ.1 _ _ hq2)) (fun j y H' hy hQ => ?_) (fun H' hQ => ?_)
      · obtain ⟨s4, hd⟩ := hQ
        obtain ⟨m, hm, rfl⟩ : ∃ m, (sel pt row.length)[j]? = some m ∧ y = V.int (m : Int) := by
          have hy' : ((sel pt row.length).map fun (i : Nat) => V.int (i : Int))[j]? = some y := hy
          rw [List.getElem?_map] at hy'
          cases e : (sel pt row.length)[j]? with
          | none => rw [e] at hy'; cases hy'
          | some m =>
            rw [e] at hy'
            exact ⟨m, rfl, (Option.some.inj hy').symm⟩
        have hm2 := selt m (List.mem_of_getElem? hm)
        refine ⟨rfl, _, rfl, _, rfl, l, iV row, (m : Int), .int (row[m] : Int), rfl, rfl, .of (s4 _ _ hl2), atI_nat (iV_get (List.getElem?_eq_getElem hm2)), _, hd, ?_, same_set s4 nD, ?_⟩
        · rw [iV_len]
          refine small1000 (Nat.le_trans (List.length_filterMap_le _ _) ?_)
          rw [List.length_take]
          have h1 := List.getElem?_eq_some_iff.mp hm
          obtain ⟨h1, _⟩ := h1
          have : (sel pt row.length).length ≤ row.length := by
            cases pt with
            | all => exact Nat.le_of_eq List.length_range
            | pat f b => exact Nat.le_trans (List.length_filter_le _ _) (Nat.le_of_eq List.length_range)
          omega
        · rw [upd_same, List.take_add_one, hm, List.filterMap_append]
          have e1 : (some m).toList.filterMap (fun i => row[i]?) = [row[m]] := by
            show [m].filterMap (fun i => row[i]?) = [row[m]]
            rw [List.filterMap_cons, List.getElem?_eq_getElem hm2]
            rfl
          rw [e1]
          unfold iV
          rw [List.map_append]
          rfl
      · obtain ⟨s4, hd⟩ := hQ
        rw [List.take_of_length_le (by rw [iV_len]; exact Nat.le_refl _)] at hd
        refine ⟨((s2.trans s3).trans s4), D9, _, _, rfl, (s2.trans s3).free nD, ?_⟩
        rw [hnext]
        exact hd
    · obtain ⟨s2, l, x3, x4, rfl, nl, hl⟩ := hP
      have e1 : ps.take (pV ps).length = ps := List.take_of_length_le (by unfold pV; rw [List.length_map]; exact Nat.le_refl _)
      rw [e1] at hl
      refine ⟨_, rfl, l, _, rfl, .inl ⟨.of hl, fun t nt => q _ t (s2.trans (same_new nt)) (s2.free nt) upd_same⟩⟩

def spTable (K : PySem.W.Frag) : Sp := fun vs H Q _ => ∃ (a : Addr) (ps : List Part), vs = [.ref a] ∧ SqT K H a (pV ps) ∧ (∀ p ∈ ps, Ok p) ∧
  ∀ H' t ts, Same H H' → H t = none → H' t = some (.tup ts) → ts.length = 7 → (∀ j, j < 7 → ∃ q, ts[j]? = some (.ref q) ∧ H' q = some (.tup (iV (places ps j)))) → Q (.ref t) H'
theorem ok_table (Z : Zs mg) (D : Df K mg "table_of" s_table_of P_table_of f fd) {fp : Addr} {dp : FuncData} (D_kept_places : Cl P w K mg base "kept_places" 3 fp dp P_kept_places (spKept K)) : FnOk P w K mg base CX0 4 f fd P_table_of (spTable K) := by
  refine D.F.ok sc_table_of (fun vs H Q E h => ?_) (fun cdv A outer s H vs Q E hr h => ?_)
  · obtain ⟨a, ps, rfl, _⟩ := h
    rfl
  · obtain ⟨p, ps, rfl, hp, hok, q⟩ := h
    have nd := sc_table_of.nd
    refine ⟨_,
    (pss_one
    (ps_ret (pe_callTy call_tuple_of (by rfl) Z.z_tuple (by decide +kernel) (pa_cons (pe_lc (own := [("many", 1)]) (g := gName 1) (tt := tYes) rfl nd (pi_range1 (by rfl) Z.z_range (pa_cons (pe_op op_add (pe_gI rfl Z.g_REACH) pe_int) pa_nil)) (blkOk_by (N := N_table_of) (sc := defScope s_table_of) (by decide +kernel)) (fun _ _ _ _ _ => (pg_name (i := 1) nd rfl (Or.inl rfl))) (fun _ _ _ _ _ => pts_nil) (fun _ _ _ _ _ => (pe_call D_kept_places.ok (hr.mono (by decide)) (by rfl) D_kept_places.g D_kept_places.kp D_kept_places.b .nil pass0 (pa_cons (pv 0) (pa_cons (pv 1) pa_nil))))) pa_nil)))), ?_⟩
    refine ⟨_, _, rfl, rfl, 7, rfl, by decide, by decide, fun D9 nD => ?_⟩
    refine lc_range (lo := 0) (n := 7) (fun i H' => Same H H' ∧ ∃ ts : List V, H' D9 = some (.lst ts) ∧ ts.length = i ∧ ∀ j, j < i → ∃ q, ts[j]? = some (.ref q) ∧ H' q = some (.tup (iV (places ps j)))) ⟨same_new nD, [], upd_same, rfl, fun j hj => absurd hj (Nat.not_lt_zero _)⟩ (fun i H' hi hP => ?_) (fun H' hP => ?_)
    · obtain ⟨s2, ts, hd, hlen, hts⟩ := hP
      refine ⟨rfl, _, rfl, _, rfl, p, ps, i, by rw [Int.zero_add]; rfl, sameT s2 hp, hok, by omega, fun H3 r s3 nr hr3 => ⟨ts, s3 _ _ hd, by rw [hlen]; exact small1000 (by omega), same_set (s2.trans s3) nD, ts ++ [.ref r], upd_same, by rw [List.length_append, hlen]; rfl, fun j hj => ?_⟩⟩
      have hrD : r ≠ D9 := fun e => by rw [e, hd] at nr; cases nr
      by_cases e : j < i
      · obtain ⟨r', e1, e2⟩ := hts j e
        have hne2 : r' ≠ D9 := fun e => by rw [e, hd] at e2; cases e2
        refine ⟨r', ?_, ?_⟩
        · rw [List.getElem?_append_left (by omega)]
          exact e1
        · rw [upd_ne hne2]
          exact s3 _ _ e2
      · have e' : j = i := by omega
        subst e'
        refine ⟨r, ?_, ?_⟩
        · rw [← hlen, List.getElem?_append_right (Nat.le_refl _), Nat.sub_self]
          rfl
        · rw [upd_ne hrD]
          exact hr3
    · obtain ⟨s2, ts, hd, hlen, hts⟩ := hP
      refine ⟨D9, ts, rfl, .inl ⟨.of hd, fun t nt => ?_⟩⟩
      have s3 := same_new (o := .tup ts) nt
      exact q _ t ts (s2.trans s3) (s2.free nt) upd_same hlen fun j hj => by
        obtain ⟨r, e1, e2⟩ := hts j hj
        exact ⟨r, e1, s3 _ _ e2⟩

end
end K67
set_option Elab.async false
set_option linter.all false
set_option maxRecDepth 100000
set_option maxHeartbeats 4000000
/-! own layer: enumerate over a tuple -/
namespace PySem
open Sem (wp)
set_option maxHeartbeats 1000000 in
theorem ly_enum_new {v : Value} {o : Obj} {H : Heap → Prop} (B : Begins v o H) :
    Meets (Builtin.«enumerate.__new__» ⟨[.type "enumerate", v], []⟩) (fun _ R s => H s.heap ∧
      R (.ok (.ret (.ref (s.heap.push o).objs.size))) { s with heap := (s.heap.push o).push ({ cls := .type "enumerate", data := .fields #[.none, .bool false, .ref s.heap.objs.size, rawInt 0, .none, .none] } : Obj) }) :=
  .of_wp fun prog w A R s h => by
    obtain ⟨hp, gs, dr, tk, os⟩ := s
    obtain ⟨h1, h⟩ := h
    have sub := sub_enumerate
    have begin_ : ∀ {A' : Around} {E : Value → Shared → Prop} {Q : Value → Shared → Prop}, Q (.ref hp.objs.size) ⟨hp.push o, gs, dr, tk, os⟩ → wpAny (model prog w) A' (pyIter v) Q E ⟨hp, gs, dr, tk, os⟩ := fun q => B.iter prog w _ _ _ _ h1 q
    wp_walk using begin_
    refine wpAny_stack_any fun st => wpAny_pure ?_
    split
    · rename_i c _ _ _ _ _
      cases (c == Value.type "enumerate") <;> (wp_walk using begin_; exact ⟨_, rfl, h⟩)
    · wp_walk using begin_
      exact ⟨_, rfl, h⟩
theorem ly_enum_call {prog : Program} {w : World} {A : Around} {E : Value → Shared → Prop} {s : Shared} {v : Value} {o : Obj} {H : Heap → Prop} {Q : Value → Shared → Prop} (B : Begins v o H) (h1 : H s.heap)
    (h : ∀ h', IsEnum h' (s.heap.objs.size + 1) s.heap.objs.size 0 .none → h'.get? s.heap.objs.size = some o → (∀ b x, s.heap.get? b = some x → h'.get? b = some x) → Q (.ref (s.heap.objs.size + 1)) { s with heap := h' }) :
    wpAny (model prog w) A (call (.type "enumerate") [v]) Q E s := by
  refine callType_new F.called_enumerate (by decide) (F.typeCall_enumerate_1 _) (F.newCall_enumerate_1 _) (fun obj => F.args_object_init_2 obj _) F.entry_enumerate_new (ly_enum_new B) ⟨h1, ?_⟩
  have hz : (s.heap.push o).objs.size = s.heap.objs.size + 1 := Heap.size_push ..
  show _ ∧ _
  rw [hz]
  have he : IsEnum ((s.heap.push o).push { cls := .type "enumerate", data := .fields #[.none, .bool false, .ref s.heap.objs.size, rawInt 0, .none, .none] }) (s.heap.objs.size + 1) s.heap.objs.size 0 .none := by
    have k := Heap.get?_push_size (s.heap.push o) (o := { cls := .type "enumerate", data := .fields #[.none, .bool false, .ref s.heap.objs.size, rawInt 0, .none, .none] }) rfl
    rwa [hz] at k
  exact ⟨⟨_, he, rfl⟩, h _ he (Heap.get?_push_of_some _ (Heap.get?_push_size _ B.free)) fun b x q => Heap.get?_push_of_some _ (Heap.get?_push_of_some _ q)⟩
end PySem
namespace Ly
open PySem PySem.Spec PyProof.Rows L2
/-- the tuple at a, its items in new pairs with their places -/
def IteT (K : PySem.W.Frag) (a : Addr) : It :=
  ⟨fun i H => ∃ (xs : List V) (x : V), SqT K H a xs ∧ xs[i]? = some x, fun i H v H' => ∃ T x, v = .ref T ∧ H T = none ∧ H' = upd H T (.tup [.int (i : Nat), x]) ∧ ∀ xs, SqT K H a xs → xs[i]? = some x, fun i H => ∃ xs : List V, SqT K H a xs ∧ xs.length = i⟩
theorem turn_enumT {P : Program} {w : World} {K : PySem.W.Frag} {elts : List Expr} {kk : Nat} {tpos : Pos} (a e it : Addr) (hat : a ≠ it) (hae : e ≠ a) :
    Turn P w K (.Tuple elts kk tpos) (IteT K a) [e, it] e (fun i h => (∃ old, IsEnum h e it ((i : Nat) : Int) old) ∧ h.IsTupleIter it a i ∧ e ≠ it) where
  mem := List.mem_cons_self
  obj := fun i h st b hb => by
    obtain ⟨⟨old, he⟩, ⟨o, ho, hc, hd⟩, _⟩ := st
    rcases List.mem_cons.mp hb with z | z
    · rw [z]; exact ⟨_, he, fun v q => nomatch q⟩
    · rw [List.mem_singleton] at z
      exact ⟨o, z ▸ ho, fun v q => by rw [hd] at q; cases q⟩
  keep := fun i h h' st k => by
    obtain ⟨⟨old, he⟩, hi, hne⟩ := st
    exact ⟨⟨old, k e (by simp) _ he⟩, hi.at fun o q => k it (by simp) o q, hne⟩
  item := by
    intro X hP hw hK hc i pins s σ H E I hf st hg
    subst hP hw hK
    obtain ⟨⟨old, he⟩, hit, hne⟩ := st
    obtain ⟨xs, x, hq, hx⟩ := hg
    obtain ⟨its, rv, p, hz⟩ := I.tuple hq
    obtain ⟨u, hu, ru⟩ := rv.get hx
    have hel : e < s.heap.objs.size := Heap.lt_size he
    have hil : it < s.heap.objs.size := by
      obtain ⟨_, q, _⟩ := hit
      exact Heap.lt_size q
    have hin : i < its.toArray.size := by
      rw [List.size_toArray]
      exact (List.getElem?_eq_some_iff.mp hu).1
    refine wpAny_pyNext_enum_itemD (Draws.tuple (A := X.A.in1) (show X.A.in1.handled = none from I.ok.hd hc) it a hat its.toArray) he ⟨hit, p⟩ hin hne (by simp [hne, hae]) fun y h' tk hy ho st' hT hsz hk => ?_
    obtain ⟨hit', _⟩ := st'
    have ey : y = u := by
      have h2 : its[i]? = some y := by simpa using hy
      exact Option.some.inj (h2.symm.trans hu)
    subst ey
    refine ⟨_, rfl, wpAny_letOwnedTupleGo_enum (s := { s with heap := h', toks := tk + 1 }) ho fun h'' he' sb => ?_⟩
    have hT2 : h''.get? s.heap.objs.size = some { cls := .type "tuple", data := .seq #[.int i tk, y] } := (sb.2 _ (Nat.ne_of_gt hel)).trans hT
    have new : ObjOk X.prog X.w (upd H s.heap.objs.size (.tup [.int (i : Nat), x])) h'' s.heap.objs.size (.tup [.int (i : Nat), x]) :=
      ⟨by show 2 ≤ sizeLine; decide, [.int i tk, y], .cons ⟨_, rfl⟩ (.cons ru .nil), ⟨_, hT2, rfl, _, rfl⟩⟩
    have I1 : Inv X pins σ (upd H s.heap.objs.size (.tup [.int (i : Nat), x])) { s with heap := h'', toks := tk + 1 } :=
      I.turnedNew (ch := [e, it]) (fun b ob hb q => (sb.2 b (fun z => hb (by simp [z]))).trans (hk b ob (fun z => hb (by simp [z])) (fun z => hb (by simp [z])) q)) hf (Nat.le_refl _) new
    have e1 : ((i + 1 : Nat) : Int) = (i : Int) + 1 := by omega
    refine ⟨.ref s.heap.objs.size, _, I1, rfl, ⟨_, x, rfl, I.hok.fresh (Nat.le_refl _), rfl, fun ys hy' => by rw [I.tuple_inj hy' hq]; exact hx⟩, ⟨⟨y, by rw [e1]; exact he'⟩, hit'.at fun o q => (sb.2 it (Ne.symm hne)).trans q, hne⟩, fun b hb => ?_⟩
    have hb' : b < s.heap.objs.size := by
      rcases List.mem_cons.mp hb with z | z
      · rw [z]
        exact hel
      · rw [List.mem_singleton.mp z]
        exact hil
    rw [upd_ne (Nat.ne_of_lt hb')]
    exact (hf b hb).1
  done := by
    intro X hP hw hK hc i pins s σ H E I hf st hg
    subst hP hw hK
    obtain ⟨⟨old, he⟩, hit, hne⟩ := st
    obtain ⟨xs, hq, hx⟩ := hg
    obtain ⟨its, rv, p, hz⟩ := I.tuple hq
    obtain ⟨f0, f1, f2, f3, f4, f5⟩ := hf it (by simp)
    have hl : its.toArray.size = i := by
      rw [List.size_toArray, ← rv.length]
      exact hx
    have hit2 : s.heap.IsTupleIter it a its.toArray.size := by
      rw [hl]
      exact hit
    exact wpAny_pyNext_enum_endD (Draws.tuple (A := X.A.in1) (show X.A.in1.handled = none from I.ok.hd hc) it a hat its.toArray) he ⟨hit2, p⟩ fun h' eb => ⟨rfl, I.turned (t' := s.toks) (fun b o hb q => eb b o hb q) f0 f1 f3 f4 f5⟩
  self := fun A i s Q E st h => by
    obtain ⟨⟨_, he⟩, _⟩ := st
    exact wpAny_pyIter_enum he h
def iEnumT (K : PySem.W.Frag) (ta : TA) : TI := fun σ H R => ta σ H fun vs H1 => ∃ a xs, vs = [.ref a] ∧ SqT K H1 a xs ∧ R (IteT K a) H1
theorem pi_enumT {X : Cx} {e : Expr} {ta : TA} {p pos tpos : Pos} {elts : List Expr} {kk : Nat} (hg : Gl X "enumerate") (hm : X.mg "enumerate" = none) (ha : PA X [e] ta) (hs : starEach [e] X.env = [(false, eval e X.env)] := by rfl) :
    PI X (.Tuple elts kk tpos) (.Call (.Name "enumerate" p) [e] [] pos) (iEnumT X.K ta) := by
  refine ⟨fun pins s σ H R I h => ?_⟩
  refine Call_ (ld_blt I hg hm boot_enumerate (PyProof.Rows.callWith_type1 (thn (ha.run pos pins s σ H _ I h) fun us s1 hh => ?_) hs rfl))
  obtain ⟨vs, H1, I1, r1, a, xs, ex, hq, q⟩ := hh
  subst ex
  obtain ⟨u, rfl, ru⟩ := vals1 r1
  obtain rfl : u = Value.ref a := ru
  obtain ⟨its, rv, p', hz⟩ := I1.tuple hq
  have hal : a < s1.heap.objs.size := p'.lt
  refine ly_enum_call (begins_tuple a its.toArray) p' fun h' he hit hk => wpAny_pyIter_enum he ?_
  refine ⟨s1.heap.objs.size + 1, [s1.heap.objs.size + 1, s1.heap.objs.size], _, _, H1, rfl, I1.kept (t' := s1.toks) hk, turn_enumT a (s1.heap.objs.size + 1) s1.heap.objs.size (Nat.ne_of_lt hal) (Nat.ne_of_gt (Nat.lt_succ_of_lt hal)), ⟨⟨.none, he⟩, ⟨_, hit, rfl, rfl⟩, Nat.succ_ne_self _⟩, fun b hb => ?_, q⟩
  have hle : s1.heap.objs.size ≤ b := by
    rcases List.mem_cons.mp hb with z | z
    · rw [z]
      exact Nat.le_succ _
    · rw [List.mem_singleton.mp z]
      exact Nat.le_refl _
  exact I1.fpOk hle (I1.hok.fresh hle)
/-- the loop over it -/
theorem for_enumT {K : PySem.W.Frag} {a : Addr} {xs : List V} {g : TG} {tb : TS} {D : Ends} {σ : L2.St} {H : Hp} (Pv : Nat → L2.St → Hp → Prop) (h0 : Pv 0 σ H) (hl : ∀ i σ H, i ≤ xs.length → Pv i σ H → SqT K H a xs)
    (hs : ∀ i x σ H T, xs[i]? = some x → Pv i σ H → H T = none → g (.ref T) σ (upd H T (.tup [.int (i : Nat), x])) fun σ2 H2 => tb { D with nx := Pv (i + 1), ct := Pv (i + 1), bk := D.nx } σ2 H2) (hd : ∀ σ H, Pv xs.length σ H → D.nx σ H) :
    ∃ W : Nat → Nat → L2.St → Hp → Prop, (∃ m, W 0 m σ H) ∧ ∀ i m σ H, W i m σ H → ((IteT K a).stop i H ∧ D.nx σ H) ∨ ((IteT K a).go i H ∧ ∃ N : L2.St → Hp → Prop, (∀ σ' H', N σ' H' → ∃ m', m' < m ∧ W (i + 1) m' σ' H') ∧
      ∀ x H', (IteT K a).yld i H x H' → g x σ H' fun σ2 H2 => tb { D with nx := N, ct := N, bk := D.nx } σ2 H2) := by
  refine ⟨fun i m σ H => m + i = xs.length ∧ Pv i σ H, ⟨xs.length, by omega, h0⟩, ?_⟩
  rintro i m σ H ⟨em, p⟩
  have q := hl i σ H (by omega) p
  by_cases hlt : i < xs.length
  · refine .inr ⟨⟨xs, xs[i], q, List.getElem?_eq_getElem hlt⟩, Pv (i + 1), fun σ' H' p' => ⟨m - 1, by omega, by omega, p'⟩, fun v H' y => ?_⟩
    obtain ⟨T, x, rfl, nT, rfl, hx⟩ := y
    exact hs i x σ H T (hx xs q) p nT
  · have e : i = xs.length := by omega
    subst e
    exact .inl ⟨⟨xs, q, rfl⟩, hd σ H p⟩
end Ly

set_option Elab.async false
set_option linter.all false
set_option maxRecDepth 100000
set_option maxHeartbeats 4000000
/-! own classes: len, str, ==, != by their own defs; classes held by a variable, called with a star; made without arguments -/
namespace Ly
open PySem PySem.Spec PyProof.Rows L2
section
variable {X : Cx} {CX : CXT} {k : Nat} {f g C : Addr} {sp : Sp} {E : XK} {Q : VK} {us : List Value} {vs : List V} {A : Around} {pins : List (Addr × Obj)} {σ : L2.St} {H : Hp} {s : Shared}
theorem run_fnRA (F : FnR X.prog X.w X.K X.mg X.base CX k f sp) (hr : Room k A) (hf : A.frames = X.A.frames) (hx : Passes CX X E) (I : Inv X pins σ H s) (r : Vals vs us) (h : sp vs H Q E) :
    wpAny (model X.prog X.w) A (call (.ref f) us) (EP X pins σ Q) X.xe s := by
  have e := I.env0
  have e0 : Env0 X.prog X.w X.K X.mg X.base A X.stack s H := ⟨by rw [hf]; exact e.frames, e.mod, e.bs, e.bsz, e.funs, e.frf, e.hok, e.bare⟩
  refine wpAny_call (codeAny_mono (F A X.stack s H us vs Q E hr e0 r h) fun r s' hq => ?_)
  cases r with
  | error e => exact hx pins σ H s e s' I hq
  | ok fl =>
    cases fl with
    | ret u => exact I.after hq
    | next => exact False.elim hq
    | brk => exact False.elim hq
    | cont => exact False.elim hq
/-- the class at C has the def at g as its special m -/
structure Sp1 (K : PySem.W.Frag) (C g : Addr) (m : Str) : Prop where
  at_ : PySem.W.findIn K (.ref C) m = some (some (.ref g))
  fn : PySem.W.isFn K (.ref g) = true
theorem ins_inst {a C dx : Addr} {fs : List (Str × V)} (I : Inv X pins σ H s) (ea : H a = some (.ins C dx fs)) : ∃ ox od, PySem.W.InstAt s.heap a ox C od := by
  obtain ⟨mA, O, _⟩ := ins_get I.hok ea
  obtain ⟨od, J, _⟩ := O.look
  exact ⟨_, _, J⟩
def rLenO (C : Addr) (sp : Sp) (E : XK) : List V → Hp → VK → Prop := fun xs H Q => ∃ a dx fs, xs = [.ref a] ∧ H a = some (.ins C dx fs) ∧ sp [.ref a] H (fun v H' => ∃ n : Nat, v = .int n ∧ n < 2 ^ 62 ∧ Q (.int n) H') E
theorem call_lenO (c : Sp1 X.K C g "__len__") (F : FnR X.prog X.w X.K X.mg X.base CX k g sp) (hr : Room (k + 1) X.A) (hx : Passes CX X E) : CallR X (.builtin "len") (rLenO C sp E) := by
  intro pins s σ H xs us Q I r h
  obtain ⟨a, dx, fs, rfl, ea, q⟩ := h
  obtain ⟨u, rfl, r1⟩ := vals1 r
  obtain rfl : u = Value.ref a := r1
  obtain ⟨ox, od, J⟩ := ins_inst I ea
  obtain ⟨m, hF⟩ := I.fr
  refine PySem.W.len_K hF I.ok.mod.kin J c.at_ c.fn (wpAny_mono (run_fnRA (us := [.ref a]) (vs := [.ref a]) F hr.in1 rfl hx I (.cons rfl .nil) q) (fun v s' z => ?_) fun _ _ z => z)
  obtain ⟨w, H', I', rw_, n, rfl, hn, q'⟩ := z
  obtain ⟨t, rfl⟩ := (show ∃ t, v = Value.int (n : Int) t from rw_)
  have hn' : (n : Int) < 2 ^ 62 := by exact_mod_cast hn
  exact ⟨⟨Int.natCast_nonneg _, Int.lt_trans hn' (by decide)⟩, .int n, H', I'.tok _, ⟨_, rfl⟩, q'⟩
def rStrO (C : Addr) (sp : Sp) (E : XK) : List V → Hp → VK → Prop := fun xs H Q => ∃ a dx fs, xs = [.ref a] ∧ H a = some (.ins C dx fs) ∧ sp [.ref a] H (fun v H' => ∃ x : Str, v = .str x ∧ Q (.str x) H') E
theorem call_strO (c : Sp1 X.K C g "__str__") (F : FnR X.prog X.w X.K X.mg X.base CX k g sp) (hr : Room (k + 2) X.A) (hx : Passes CX X E) : CallR X (.type "str") (rStrO C sp E) := by
  intro pins s σ H xs us Q I r h
  obtain ⟨a, dx, fs, rfl, ea, q⟩ := h
  obtain ⟨u, rfl, r1⟩ := vals1 r
  obtain rfl : u = Value.ref a := r1
  obtain ⟨ox, od, J⟩ := ins_inst I ea
  refine PySem.W.kso_call hr.in1.in1.units0 I.kIn J c.at_ c.fn (wpAny_mono (run_fnRA (us := [.ref a]) (vs := [.ref a]) F hr.in1.in1 rfl hx I (.cons rfl .nil) q) (fun v s' z => ?_) fun _ _ z => z)
  obtain ⟨w, H', I', rw_, x, rfl, q'⟩ := z
  obtain ⟨t, rfl⟩ := (show ∃ t, v = Value.str x t from rw_)
  exact ⟨.str x, H', I', ⟨_, rfl⟩, q'⟩
/-! ### == and != of two instances of a class -/
def rEqO (C : Addr) (sp : Sp) (E : XK) (neg : Bool) : R2 := fun x y H Q => ∃ a b dx dy fs gs, x = .ref a ∧ y = .ref b ∧ H a = some (.ins C dx fs) ∧ H b = some (.ins C dy gs) ∧
  sp [.ref a, .ref b] H (fun v H' => ∃ t : Bool, v = .bl t ∧ Q (.bl (t != neg)) H') E
theorem op_eqO (c : Sp1 X.K C g "__eq__") (F : FnR X.prog X.w X.K X.mg X.base CX k g sp) (hr : Room k X.A) (hx : Passes CX X E) : OpR X (compareOp .Eq) (rEqO C sp E false) := by
  intro pins s σ H x y u v Q I rx ry h
  obtain ⟨a, b, dx, dy, fs, gs, rfl, rfl, ea, eb, q⟩ := h
  obtain rfl : u = Value.ref a := rx
  obtain rfl : v = Value.ref b := ry
  obtain ⟨ox, od, J⟩ := ins_inst I ea
  obtain ⟨oy, od', J'⟩ := ins_inst I eb
  obtain ⟨m, hF⟩ := I.fr
  refine PySem.W.cmp_ofEq (PySem.W.cmp_K (op := .Eq) (tb := .ref C) hr.units0 hF I.ok.mod.kin J J'.type (by simp [PySem.W.notFirst]) c.at_ c.fn ?_)
  refine wpAny_mono (run_fnRA (us := [.ref a, .ref b]) (vs := [.ref a, .ref b]) F hr rfl hx I (.cons rfl (.cons rfl .nil)) q) (fun v s' z => ?_) fun _ _ z => z
  obtain ⟨w, H', I', rw_, t, rfl, q'⟩ := z
  obtain rfl : v = Value.bool t := rw_
  refine ⟨.bl t, H', I', rfl, ?_⟩
  rw [Bool.bne_false] at q'
  exact q'
theorem ifBound_objNe {M : Model} {K : PySem.W.Frag} {A : Around} {E : Value → Shared → Prop} {s : Shared} {x C : Addr} {ox : Obj} {od : Option Obj} {args : List Value} {Q : Option Value → Shared → Prop} (X : K.In s.heap) (I : PySem.W.InstAt s.heap x ox C od)
    (hs : PySem.W.findIn K (.ref C) "__ne__" = some (some (.builtin "object.__ne__")))
    (h : wpAny M A (call (.builtin "object.__ne__") (.ref x :: args)) (fun v => Q (some v)) E s) : wpAny M A (callSpecialIfBound? (.ref x) "__ne__" args) Q E s := by
  simp only [callSpecialIfBound?, bindSpecialIfBound?]
  refine wpAny_holding (wpAny_bind (wpAny_bind (wpAny_bind (I.type.here ((PySem.W.looks_findIn X hs).here ?_)))))
  refine wpAny_bind (wpAny_askSetting (wpAny_ite ?_))
  have fin : wpAny M A (call (.builtin "object.__ne__") ([.ref x] ++ args) >>= fun v => pure (some v)) Q E s := wpAny_bind (wpAny_mono h (fun v s' h' => wpAny_pure h') fun _ _ h' => h')
  split
  · exact wpAny_bind (wpAny_of_eq (F.cmp_object.ne.bind _) (wpAny_pure (by exact fin)))
  · exact wpAny_tryCatch (wpAny_bind (wpAny_of_eq (F.cmp_object.ne.bind _) (wpAny_pure (by exact fin))))
theorem rc_ne {prog : Program} {w : World} {K : PySem.W.Frag} {A : Around} {E : Value → Shared → Prop} {s : Shared} {x C f : Addr} {ox : Obj} {od : Option Obj} {b tb : Value} {Q : Value → Shared → Prop} (hu : A.units + 1 < cLine) (X : K.In s.heap) (I : PySem.W.InstAt s.heap x ox C od)
    (hb : PySem.W.Looks (model prog w) s.heap (typeOf b) tb) (hn : PySem.W.notFirst K C tb = true) (hm : PySem.W.mroIn K C (.type "object") = some true) (hs : PySem.W.findIn K (.ref C) "__ne__" = some (some (.builtin "object.__ne__")))
    (he : PySem.W.findIn K (.ref C) "__eq__" = some (some (.ref f))) (hf : PySem.W.isFn K (.ref f) = true)
    (h : wpAny (model prog w) A.in1 (call (.ref f) [.ref x, b]) (fun v s' => ∃ t, v = .bool t ∧ Q (.bool (!t)) s') E s) : wpAny (model prog w) A (richCompare .NotEq (.ref x) b) Q E s := by
  have one : wpAny (model prog w) A (tryCompare (.ref x) "__ne__" b) (fun r s' => ∃ v, r = some v ∧ Q v s') E s := by
    unfold tryCompare
    refine wpAny_bind (ifBound_objNe X I hs (wpAny_call (codeAny_call_builtin F.cmp_object.ne.plain F.cmpEntry_ne (PySem.W.check_slot F.cmpKind_ne F.cmpSplit_ne (I.type.andThen (PySem.W.looks_mroIn X hm)) (F.cmpArgs_ne _ _) ?_))))
    unfold Builtin.«object.__ne__»
    refine wpAny_bind (wpAny_pure ?_)
    refine wpAny_bind (wpAny_cRoomFor hu ?_)
    refine wpAny_bind (m := callSpecialIfBound? (.ref x) (Str.ofString "__eq__") [b]) (PySem.W.ifBound_K X I he hf (wpAny_mono h (fun v s' hv => ?_) fun _ _ e => e))
    obtain ⟨t, rfl, q⟩ := hv
    refine wpAny_bind (wpAny_truthy_bool ?_)
    exact wpAny_pure (by exact wpAny_pure ⟨_, rfl, q⟩)
  unfold richCompare
  simp only [oneThing_ref, cmpInfo_NotEq]
  refine wpAny_holding (wpAny_bind (wpAny_cRoomFor (Nat.lt_of_succ_lt hu) ?_))
  refine wpAny_bind (I.type.here (wpAny_bind (hb.here ?_)))
  split
  · rename_i q
    have e : PySem.W.subIn K tb (.ref C) = some false := by
      rcases Bool.or_eq_true_iff.mp hn with e | e
      · rw [beq_iff_eq.mp e] at q; simp at q
      · exact beq_iff_eq.mp e
    refine wpAny_bind ((PySem.W.looks_subIn X e).here ?_)
    simp only [Bool.false_eq_true, if_false]
    refine wpAny_bind (wpAny_mono one (fun r s' z => ?_) fun _ _ e => e)
    obtain ⟨v, rfl, hq⟩ := z
    exact wpAny_pure hq
  · refine wpAny_bind (wpAny_pure ?_)
    simp only [Bool.false_eq_true, if_false]
    refine wpAny_bind (wpAny_mono one (fun r s' z => ?_) fun _ _ e => e)
    obtain ⟨v, rfl, hq⟩ := z
    exact wpAny_pure hq
/-- the class keeps object's own != -/
structure NeO (K : PySem.W.Frag) (C : Addr) : Prop where
  at_ : PySem.W.findIn K (.ref C) "__ne__" = some (some (.builtin "object.__ne__"))
  mro : PySem.W.mroIn K C (.type "object") = some true
theorem op_neO (c : Sp1 X.K C g "__eq__") (n : NeO X.K C) (F : FnR X.prog X.w X.K X.mg X.base CX k g sp) (hr : Room (k + 1) X.A) (hx : Passes CX X E) : OpR X (compareOp .NotEq) (rEqO C sp E true) := by
  intro pins s σ H x y u v Q I rx ry h
  obtain ⟨a, b, dx, dy, fs, gs, rfl, rfl, ea, eb, q⟩ := h
  obtain rfl : u = Value.ref a := rx
  obtain rfl : v = Value.ref b := ry
  obtain ⟨ox, od, J⟩ := ins_inst I ea
  obtain ⟨oy, od', J'⟩ := ins_inst I eb
  have hu : X.A.units + 1 < cLine := by have := hr.un; omega
  refine PySem.W.cmp_ofNotEq (rc_ne hu I.kIn J J'.type (by simp [PySem.W.notFirst]) n.mro n.at_ c.at_ c.fn ?_)
  refine wpAny_mono (run_fnRA (us := [.ref a, .ref b]) (vs := [.ref a, .ref b]) F hr.in1 rfl hx I (.cons rfl (.cons rfl .nil)) q) (fun v s' z => ?_) fun _ _ z => z
  obtain ⟨w, H', I', rw_, t, rfl, q'⟩ := z
  obtain rfl : v = Value.bool t := rw_
  refine ⟨t, rfl, .bl (!t), H', I', rfl, ?_⟩
  rw [Bool.bne_true] at q'
  exact q'
end
/-! ### making -/
section
variable {X : Cx} {CX : CXT} {k i : Nat} {f C : Addr} {sp : Sp} {E : XK} {x : Str} {e : Expr} {te : TE} {p pos sp_ : Pos}
theorem pe_makeR0 (M : Mk X.K C f) (F : FnR X.prog X.w X.K X.mg X.base CX k f sp) (hr : Room (k + 1) X.A) (hg : Gl X x) (hm : X.mg x = some (.ref C)) (hx : Passes CX X E) (hdb : (x == ("__debug__" : Str)) = false := by decide) :
    PE X (.Call (.Name x p) [] [] pos) (StX.tMakeR C sp E tNil) := by
  refine ⟨fun pins s σ H Q I h => ?_⟩
  refine wpAny_Call_Name_kw (ld_glob I hg hm ?_ hdb)
  exact PySem.W.callWith_K0 I.kIn M.kp (StX.run_makeR (us := []) M F hr hx I .nil h)
/-- x(*e), x a variable that holds the class at C -/
def tMakeVS (K : PySem.W.Frag) (C : Addr) (sp : Sp) (E : XK) (tx te : TE) : TE := fun σ H Q => tx σ H fun c H0 => c = .ref C ∧ te σ H0 fun y H1 => ∃ a xs, y = .ref a ∧ (SqT K H1 a xs ∨ SqL K H1 a xs) ∧
  ∀ x dx, H1 x = none → H1 dx = none → dx ≠ x → sp (V.ref x :: xs) (upd (upd H1 dx (.own x)) x (.ins C dx [])) (fun v H2 => v = .non ∧ Q (.ref x) H2) E
theorem pe_makeVS {tx : TE} (M : Mk X.K C f) (F : FnR X.prog X.w X.K X.mg X.base CX k f sp) (hr : Room (k + 1) X.A) (hx : Passes CX X E) (hv : PE X (.Name x p) tx) (he : PE X e te)
    (hst : starEach [.Starred e sp_] X.env = [(true, eval e X.env)] := by rfl) : PE X (.Call (.Name x p) [.Starred e sp_] [] pos) (tMakeVS X.K C sp E tx te) := by
  refine ⟨fun pins s σ H Q I h => ?_⟩
  refine wpAny_Call_Name_kw (thn (hv.run pins s σ H _ I h) fun u s1 ⟨c, H0, I0, rc, ec, q⟩ => ?_)
  subst ec
  obtain rfl : u = Value.ref C := rc
  refine PySem.W.callWith_S (h₀ := X.base) I.ok.mod.kin M.kp (thn (he.run pins s1 σ H0 _ I0 q) fun v s2 ⟨y, H1, I1, ry, a, xs, ey, hxs, q1⟩ => ?_) hst
  subst ey
  obtain rfl : v = Value.ref a := ry
  exact StX.star_any I1 hxs fun us s3 I3 rv => ⟨I3.kIn, StX.run_makeR M F hr hx I3 rv q1⟩
/-- C(*e), C a class of the module -/
theorem pe_makeS (M : Mk X.K C f) (F : FnR X.prog X.w X.K X.mg X.base CX k f sp) (hr : Room (k + 1) X.A) (hg : Gl X x) (hm : X.mg x = some (.ref C)) (hx : Passes CX X E) (he : PE X e te) (hdb : (x == ("__debug__" : Str)) = false := by decide)
    (hst : starEach [.Starred e sp_] X.env = [(true, eval e X.env)] := by rfl) : PE X (.Call (.Name x p) [.Starred e sp_] [] pos) (tMakeVS X.K C sp E (tC (.ref C)) te) :=
  pe_makeVS M F hr hx (pe_glob (v := .ref C) hg hm rfl hdb) he hst
end
end Ly

namespace Ly
open PySem PySem.Spec PyProof.Rows L2
section
variable {P : Program} {w : World} {K : PySem.W.Frag} {mg : Str → Option Value} {base : Heap} {k : Nat} {f : Addr} {fd : FuncData} {x qual : Str} {st : Stmt} {N ps : List Str} {pv : Str} {sp : Sp}
/-- a def whose last parameter takes what is left -/
theorem fun_star (F : Fun K x qual st f fd) (S : FnScope N (ps ++ [pv]) (defScope st))
    (hb : ∀ (kV doc pm : Value) (an : Option Addr) (cdv ct : Value) (us rest : List Value), us.length = ps.length → bindArgs (PySem.W.fnOf x qual (defArgs st) (defBody st) (defScope st) .none kV doc pm an cdv ct) ⟨us ++ rest, []⟩ = (newTuple rest >>= fun t => pure (ps.zip us ++ [(pv, t)])))
    (hbody : ∀ (cdv : Value) (A : Around) (outer : List Env) (s : Shared) (H : Hp) (vs : List V) (Q : VK) (E : XK), Room k (A.deeper (envOfC qual (defScope st) s.heap.objs.size f cdv)) → sp vs H Q E →
      ∃ t, PSs (cxOf CX0 P w K mg base N qual (defScope st) f cdv A outer s H E).nox (defBody st) t ∧ t { nx := fun _ H' => Q .non H', rt := Q } (start N vs) H) :
    FnR P w K mg base CX0 (k + 1) f (fun vs H Q E => ∃ ws rest, vs = ws ++ rest ∧ ws.length = ps.length ∧ rest.length ≤ sizeLine ∧ ∀ p, H p = none → sp (ws ++ [V.ref p]) (upd H p (.tup rest)) Q E) := by
  obtain ⟨oc, od, kV, doc, pm, an, cdv, ct, osl, rfl, lk, hcd⟩ := F.ex
  refine StX.fn_star lk hcd S StX.cxUp_none (fun us rest h => hb kV doc pm an cdv ct us rest h) fun A outer s H vs Q E hr hsp => ?_
  obtain ⟨t, h, q⟩ := hbody cdv A outer s H vs Q E hr hsp
  exact ⟨t, h.nox, q⟩
/-- a def of a class -/
structure Dm (K : PySem.W.Frag) (x qual : Str) (st : Stmt) (ps : List Str) (f : Addr) (fd : FuncData) : Prop where
  F : Fun K x qual st f fd
  b : Binds K fd ps []
theorem Dm.raw {CX : CXT} {x qual : Str} {st : Stmt} (D : Dm K x qual st ps f fd) (o : FnOk P w K mg base CX k f fd ps sp) : FnR P w K mg base CX k f sp := by
  have z := o.raw D.b .nil
  exact z.imp fun vs H Q E h => by rw [List.append_nil]; exact h
end
end Ly
namespace Ly
open PySem PySem.Spec PyProof.Rows L2
/-- a comprehension over things that stay: what is kept is told by f -/
theorem lc_fm {J : It} {g : TG} {tt : TT} {te : TE} {vs : List Nat} {σ : L2.St} {H1 : Hp} {D : Addr} {Qd : Hp → Prop} (xs : List V) (f : V → Option V) (nD : H1 D = none) (hz : xs.length ≤ sizeLine)
    (hgo : ∀ (i : Nat) (H : Hp), i < xs.length → Same H1 H → J.go i H) (hst : ∀ H, Same H1 H → J.stop xs.length H) (hy : ∀ (i : Nat) (x : V) (H H' : Hp), Same H1 H → J.yld i H x H' → H' = H ∧ xs[i]? = some x)
    (hs : ∀ (i : Nat) (x : V) (H : Hp) (Q : VK) (N : Hp → Prop), xs[i]? = some x → Same H1 H → (∀ y H4, f x = some y → Same H H4 → Q y H4) → (f x = none → ∀ H4, Same H H4 → N H4) →
      g x (wipe σ vs) H fun σ2 H2 => wipe σ2 vs = wipe σ vs ∧ tt σ2 H2 fun b H3 => if b = true then te σ2 H3 Q else N H3)
    (hd : ∀ H', Same H1 H' → H' D = some (.lst (xs.filterMap f)) → Qd H') : LcW J g tt te vs σ H1 D Qd := by
  refine lc_gen (n := xs.length) (fun i H => Same H1 H ∧ H D = some (.lst ((xs.take i).filterMap f))) ⟨same_new nD, upd_same⟩ (fun i H hi p => hgo i H hi p.1) (fun H p => hst H p.1) (fun i x H H' hi p y => ?_) (fun H p => ?_)
  · obtain ⟨s, hd'⟩ := p
    obtain ⟨rfl, hx⟩ := hy i x H H' s y
    have hstep : ∀ o : Option V, f x = o → (xs.take (i + 1)).filterMap f = (xs.take i).filterMap f ++ o.toList := fun o e => by
      rw [List.take_add_one, hx, List.filterMap_append]
      show _ ++ [x].filterMap f = _
      rw [List.filterMap_cons, e]
      cases o <;> rfl
    refine hs i x H' _ _ hx s (fun y H4 e s4 => ⟨_, s4 _ _ hd', ?_, same_set (s.trans s4) nD, ?_⟩) fun e H4 s4 => ⟨s.trans s4, ?_⟩
    · refine Nat.lt_of_le_of_lt (List.length_filterMap_le _ _) ?_
      rw [List.length_take]
      omega
    · rw [upd_same, hstep _ e]
      rfl
    · rw [hstep _ e, s4 _ _ hd']
      show _ = some (HO.lst (_ ++ []))
      rw [List.append_nil]
  · obtain ⟨s, hd'⟩ := p
    rw [List.take_of_length_le (Nat.le_refl _)] at hd'
    exact hd H s hd'
theorem filterMap_some {α β : Type} (f : α → β) : ∀ xs : List α, xs.filterMap (fun x => some (f x)) = xs.map f
  | [] => rfl
  | x :: xs => by
    rw [List.filterMap_cons, filterMap_some f xs]
    rfl
/-- .. over a tuple, all of it -/
theorem lc_mapT {K : PySem.W.Frag} {a : Addr} {g : TG} {tt : TT} {te : TE} {vs : List Nat} {σ : L2.St} {H1 : Hp} {D : Addr} {Qd : Hp → Prop} (xs : List V) (f : V → V) (hS : SqT K H1 a xs) (nD : H1 D = none) (hz : xs.length ≤ sizeLine)
    (hs : ∀ (i : Nat) (x : V) (H : Hp) (Q : VK) (N : Hp → Prop), xs[i]? = some x → Same H1 H → (∀ H4, Same H H4 → Q (f x) H4) → g x (wipe σ vs) H fun σ2 H2 => wipe σ2 vs = wipe σ vs ∧ tt σ2 H2 fun b H3 => if b = true then te σ2 H3 Q else N H3)
    (hd : ∀ H', Same H1 H' → H' D = some (.lst (xs.map f)) → Qd H') : LcW (Itt K a) g tt te vs σ H1 D Qd := by
  refine lc_tup (xs := xs) (fun i H => Same H1 H ∧ H D = some (.lst ((xs.take i).map f))) ⟨same_new nD, upd_same⟩ (fun i H _ p => sameT p.1 hS) (fun i x H hx p => ?_) (fun H p => ?_)
  · obtain ⟨s, hd'⟩ := p
    refine hs i x H _ _ hx s fun H4 s4 => ⟨_, s4 _ _ hd', ?_, same_set (s.trans s4) nD, ?_⟩
    · rw [List.length_map, List.length_take]
      have := (List.getElem?_eq_some_iff.mp hx).1
      omega
    · rw [upd_same, List.take_add_one, hx, List.map_append]
      rfl
  · obtain ⟨s, hd'⟩ := p
    rw [List.take_of_length_le (Nat.le_refl _)] at hd'
    exact hd H s hd'
/-- .. over a list -/
theorem lc_mapL {K : PySem.W.Frag} {a : Addr} {g : TG} {tt : TT} {te : TE} {vs : List Nat} {σ : L2.St} {H1 : Hp} {D : Addr} {Qd : Hp → Prop} (xs : List V) (f : V → Option V) (hS : SqL K H1 a xs) (nD : H1 D = none) (hz : xs.length ≤ sizeLine)
    (hs : ∀ (i : Nat) (x : V) (H : Hp) (Q : VK) (N : Hp → Prop), xs[i]? = some x → Same H1 H → (∀ y H4, f x = some y → Same H H4 → Q y H4) → (f x = none → ∀ H4, Same H H4 → N H4) →
      g x (wipe σ vs) H fun σ2 H2 => wipe σ2 vs = wipe σ vs ∧ tt σ2 H2 fun b H3 => if b = true then te σ2 H3 Q else N H3)
    (hd : ∀ H', Same H1 H' → H' D = some (.lst (xs.filterMap f)) → Qd H') : LcW (Itl K a) g tt te vs σ H1 D Qd := by
  have hS' : ∀ H, Same H1 H → SqL K H a xs := fun H s => by
    rcases hS with (h | ⟨o, h⟩) | h
    · exact .inl (.inl (s _ _ h))
    · exact .inl (.inr ⟨o, s _ _ h⟩)
    · exact .inr h
  refine lc_list (xs := xs) (fun i H => Same H1 H ∧ H D = some (.lst ((xs.take i).filterMap f))) ⟨same_new nD, upd_same⟩ (fun i H _ p => hS' H p.1) (fun i x H hx p => ?_) (fun H p => ?_)
  · obtain ⟨s, hd'⟩ := p
    have hi := (List.getElem?_eq_some_iff.mp hx).1
    have hstep : ∀ o : Option V, f x = o → (xs.take (i + 1)).filterMap f = (xs.take i).filterMap f ++ o.toList := fun o e => by
      rw [List.take_add_one, hx, List.filterMap_append]
      show _ ++ [x].filterMap f = _
      rw [List.filterMap_cons, e]
      cases o <;> rfl
    refine hs i x H _ _ hx s (fun y H4 e s4 => ⟨_, s4 _ _ hd', ?_, same_set (s.trans s4) nD, ?_⟩) fun e H4 s4 => ⟨s.trans s4, ?_⟩
    · refine Nat.lt_of_le_of_lt (List.length_filterMap_le _ _) ?_
      rw [List.length_take]
      omega
    · rw [upd_same, hstep _ e]
      rfl
    · rw [hstep _ e, s4 _ _ hd']
      show _ = some (HO.lst (_ ++ []))
      rw [List.append_nil]
  · obtain ⟨s, hd'⟩ := p
    rw [List.take_of_length_le (Nat.le_refl _)] at hd'
    exact hd H s hd'
end Ly

set_option Elab.async false
set_option linter.all false
set_option maxRecDepth 100000
set_option maxHeartbeats 8000000
namespace K67
open PySem PySem.Spec PyProof.Rows L2 Ly Cut

abbrev s_init : Stmt := inClass (topS 36) 0
abbrev N_init : List Str := ["self", "parts"]
abbrev P_init : List Str := ["self", "parts"]
theorem sc_init : FnScope N_init P_init (defScope s_init) := ⟨rfl, rfl, rfl, by decide +kernel, rfl, by decide +kernel, by decide +kernel⟩

section
variable {P : Program} {w : World} {K : PySem.W.Frag} {mg : Str → Option Value} {base : Heap} {f : Addr} {fd : FuncData}
def spIsPart : Sp := fun vs H Q _ => ∃ p : Part, vs = [.str p.text] ∧ Ok p ∧ ∀ H', Same H H' → Q (.bl true) H'
def spCheck (K : PySem.W.Frag) : Sp := fun vs H Q _ => ∃ (a : Addr) (ps : List Part), vs = [.ref a] ∧ SqT K H a (pV ps) ∧ (∀ p ∈ ps, Ok p) ∧ ps.length ≤ 4 ∧ ∀ H', Same H H' → Q .non H'
theorem ok_is_part (Z : Zs mg) (D : Df K mg "is_part" s_is_part P_is_part f fd) : FnOk P w K mg base CX0 1 f fd P_is_part spIsPart := by
  refine D.F.ok sc_is_part (fun vs H Q E h => ?_) (fun cdv A outer s H vs Q E hr h => ?_)
  · obtain ⟨p, rfl, _⟩ := h
    rfl
  · obtain ⟨p, rfl, hok, q⟩ := h
    have nd := sc_is_part.nd
    refine ⟨_,
    (pss_cons
    (ps_if (pt_not (pt_val (pe_callB call_isi (by rfl) Z.z_isinstance (by decide +kernel) (pa_cons (pv 0) (pa_cons (pe_bltn (v := .ty "str") (by rfl) Z.z_str (by decide +kernel) rfl) pa_nil)))))
      (pss_one
      (ps_ret pe_bl))
      pss_nil)
    (pss_cons
    (ps_if (pt_cmpR op_eq (pv 0) (pe_gS rfl Z.g_KEEP_ALL) (nomark _))
      (pss_one
      (ps_ret pe_bl))
      pss_nil)
    (pss_cons
    (ps_asg (pe_partition (pv 0) (pe_gS rfl Z.g_DOTS)) (pg_tup rfl (pgs_cons (pg_name (i := 1) nd rfl (Or.inl rfl)) (pgs_cons (pg_name (i := 2) nd rfl (Or.inl rfl)) (pgs_cons (pg_name (i := 3) nd rfl (Or.inl rfl)) pgs_nil)))))
    (pss_cons
    (ps_if (PW.pt (pw_or (pt_cmpR op_ne (pv 2) (pe_gS rfl Z.g_DOTS) (nomark _)) (pw_or (pt_cmpR op_gt (pe_callB call_len_str (by rfl) Z.z_len (by decide +kernel) (pa_cons (pv 1) pa_nil)) (pe_gI rfl Z.g_MAX_FRONT) (nomark _)) (pw_or1 (pt_cmpR op_gt (pe_callB call_len_str (by rfl) Z.z_len (by decide +kernel) (pa_cons (pv 3) pa_nil)) (pe_gI rfl Z.g_MAX_BACK) (nomark _))))))
      (pss_one
      (ps_ret pe_bl))
      pss_nil)
    (pss_one
    (ps_ret (pe_callB (cr_all rfl) (by rfl) Z.z_all (by decide +kernel) (pa_cons (pe_lc (own := [("sign", 4)]) (g := gName 4) (tt := tYes) rfl nd (pi_str (pe_op op_add_str (pv 1) (pv 3))) (blkOk_by (N := N_is_part) (sc := defScope s_is_part) (by decide +kernel)) (fun _ _ _ _ _ => (pg_name (i := 4) nd rfl (Or.inl rfl))) (fun _ _ _ _ _ => pts_nil) (fun _ _ _ _ _ => (pe_cmpR (inK (K := K) rfl) (pv 4) (pe_tup (pa_cons pe_str (pa_cons pe_str pa_nil))) (by rfl)))) pa_nil)))))))), ?_⟩
    refine ⟨_, rfl, .str p.text, .ty "str", _, _, true, rfl, .ty _, .base (.str p.text), kit_ty (by decide +kernel), true, rfl, ?_⟩
    refine ⟨_, rfl, rfl, _, rfl, ?_⟩
    cases p with
    | all => exact ifT (decide_eq_true rfl) (q H (Same.refl H))
    | pat f b =>
      have F := pat_facts hok
      obtain ⟨hf, hb⟩ := (show f.length ≤ 2 ∧ b.length ≤ 3 from hok)
      refine ifF (decide_eq_false fun z => F.ne (V.str.inj z)) ?_
      dsimp only [tNext]
      refine ⟨_, rfl, ⟨_, rfl⟩, _, _, rfl, rfl, by decide +kernel, sz1000 (Nat.lt_of_le_of_lt F.len (by decide)), fun a na => ?_⟩
      rw [F.part]
      refine ⟨a, _, rfl, .of upd_same, rfl, _, _, rfl, _, _, rfl, _, _, rfl, rfl, ?_⟩
      have s1 := same_new (o := .tup [V.str (sT f), .str ".." , .str (sT b)]) na
      generalize upd H a _ = H1 at s1 ⊢
      refine ⟨_, rfl, rfl, _, rfl, ifF rfl ?_⟩
      refine ⟨_, rfl, sT f, rfl, by rw [sT_len]; exact sz1000 (by omega), _, _, rfl, rfl, _, rfl, ?_⟩
      rw [sT_len]
      refine ifF (decide_eq_false (by omega)) ?_
      refine ⟨_, rfl, sT b, rfl, by rw [sT_len]; exact sz1000 (by omega), _, _, rfl, rfl, _, rfl, ?_⟩
      rw [sT_len]
      refine ifF (decide_eq_false (by omega)) ?_
      dsimp only [tNext]
      refine ⟨_, rfl, _, rfl, sT f, sT b, rfl, rfl, by rw [sT_len, sT_len]; exact sz1000 (by omega), sT f ++ sT b, rfl, fun D9 nD => ?_⟩
      have hall : ∀ c ∈ (sT f ++ sT b).cps.toList, c = 43 ∨ c = 45 := fun c hc => by
        rw [app_cps] at hc
        rcases List.mem_append.mp hc with h | h
        · exact sT_sign h
        · exact sT_sign h
      have hlen : (sT f ++ sT b).cps.toList.length ≤ 5 := by
        rw [app_cps, List.length_append, str_len, str_len, sT_len, sT_len]
        omega
      generalize sT f ++ sT b = z at hall hlen ⊢
      refine lc_gen (n := z.cps.size) (fun i H' => Same H1 H' ∧ H' D9 = some (.lst ((List.replicate i true).map V.bl))) ⟨same_new nD, upd_same⟩ (fun i H' hi _ => hi) (fun H' _ => Nat.le_refl _) ?_ ?_
      · intro i x H2 H' hi hP y
        obtain ⟨rfl, c, hc, rfl⟩ := y
        obtain ⟨s2, hd⟩ := hP
        have hl : z.cps.size = z.cps.toList.length := by simp
        have hc' : c = 43 ∨ c = 45 := hall c (List.mem_of_getElem? (by simpa using hc))
        refine ⟨rfl, _, rfl, by show 2 ≤ sizeLine; decide, fun t nt => ⟨t, _, rfl, .inr (.of upd_same), rfl, rfl, _, same_new nt _ _ hd, ?_, ?_, ?_⟩⟩
        · rw [List.length_map, List.length_replicate]
          exact small1000 (by omega)
        · refine same_set (s2.trans (same_new nt)) ?_
          exact nD
        · rw [upd_same]
          have e1 : (if false = true then !inV (V.str ⟨#[c]⟩) [V.str "+", V.str "-"] else inV (V.str ⟨#[c]⟩) [V.str "+", V.str "-"]) = true := by
            rcases hc' with e | e <;> rw [e] <;> decide +kernel
          rw [e1, List.replicate_succ', List.map_append]
          rfl
      · intro H' hP
        obtain ⟨s2, hd⟩ := hP
        refine ⟨D9, _, rfl, .of hd, ?_⟩
        have e1 : (List.replicate z.cps.size true).all id = true := by
          rw [List.all_eq_true]
          intro x hx
          rw [(List.mem_replicate.mp hx).2]
          rfl
        rw [e1]
        exact q H' (s1.trans s2)

theorem ok_check (Z : Zs mg) (D : Df K mg "check_parts" s_check_parts P_check_parts f fd) {fp : Addr} {dp : FuncData} (D_is_part : Cl P w K mg base "is_part" 1 fp dp P_is_part spIsPart) : FnOk P w K mg base CX0 2 f fd P_check_parts (spCheck K) := by
  refine D.F.ok sc_check_parts (fun vs H Q E h => ?_) (fun cdv A outer s H vs Q E hr h => ?_)
  · obtain ⟨a, ps, rfl, _⟩ := h
    rfl
  · obtain ⟨a, ps, rfl, hS, hok, hl, q⟩ := h
    have nd := sc_check_parts.nd
    refine ⟨_,
    (pss_one
    (ps_for PassesOwn.never rfl (pi_enumT (by rfl) Z.z_enumerate (pa_cons (pv 0) pa_nil)) (pg_tup rfl (pgs_cons (pg_name (i := 1) nd rfl (Or.inl rfl)) (pgs_cons (pg_name (i := 2) nd rfl (Or.inl rfl)) pgs_nil)))
      (pss_cons
      (ps_if (pt_cmpR op_ge (pv 1) (pe_gI rfl Z.g_MAX_PARTS) (nomark _))
        (pss_one
        ps_never)
        pss_nil)
      (pss_one
      (ps_if (pt_not (pt_val (pe_call D_is_part.ok (hr.mono (by decide)) (by rfl) D_is_part.g D_is_part.kp D_is_part.b .nil pass0 (pa_cons (pv 2) pa_nil))))
        (pss_one
        ps_never)
        pss_nil))))), ?_⟩
    refine ⟨_, rfl, a, _, rfl, hS, ?_⟩
    refine for_enumT (xs := pV ps) (fun i σ' H' => Same H H' ∧ ∃ x1 x2, σ' = [some (.ref a), x1, x2]) ⟨Same.refl H, none, none, rfl⟩ (fun i σ' H' _ hP => sameT hP.1 hS) (fun i x σ' H1 T hx hP nT => ?_) (fun σ' H1 hP => ?_)
    · obtain ⟨s1, x1, x2, rfl⟩ := hP
      obtain ⟨pt, hpt, rfl⟩ : ∃ pt, ps[i]? = some pt ∧ x = V.str pt.text := by
        have hx' : (ps.map fun p => V.str p.text)[i]? = some x := hx
        rw [List.getElem?_map] at hx'
        cases e : ps[i]? with
        | none => rw [e] at hx'; cases hx'
        | some pt =>
          rw [e] at hx'
          exact ⟨pt, rfl, (Option.some.inj hx').symm⟩
      have hi := (List.getElem?_eq_some_iff.mp hpt).1
      refine ⟨T, _, rfl, .of upd_same, rfl, _, _, rfl, _, _, rfl, rfl, ?_⟩
      refine ⟨_, rfl, _, _, rfl, rfl, _, rfl, ifF (decide_eq_false (by omega)) ?_⟩
      dsimp only [tNext]
      refine ⟨_, rfl, pt, rfl, hok pt (List.mem_of_getElem? hpt), fun H2 s2 => ⟨true, rfl, ifF rfl ?_⟩⟩
      exact ⟨(s1.trans (same_new nT)).trans s2, _, _, rfl⟩
    · obtain ⟨s1, x1, x2, rfl⟩ := hP
      exact q H1 s1

end
end K67
set_option Elab.async false
set_option linter.all false
set_option maxRecDepth 100000
set_option maxHeartbeats 4000000
/-! cutters as objects -/
namespace Cut
open PySem PySem.Spec PyProof.Rows L2 Ly
theorem pV_len (ps : List Part) : (pV ps).length = ps.length := List.length_map _
theorem pV_get {ps : List Part} {i : Nat} {x : V} (hx : (pV ps)[i]? = some x) : ∃ pt, ps[i]? = some pt ∧ x = V.str pt.text := by
  have hx' : (ps.map fun p => V.str p.text)[i]? = some x := hx
  rw [List.getElem?_map] at hx'
  cases e : ps[i]? with
  | none => rw [e] at hx'; cases hx'
  | some pt =>
    rw [e] at hx'
    exact ⟨pt, rfl, (Option.some.inj hx').symm⟩
/-- the value at a place -/
def atV (xs : List V) : V → V
  | .int i => xs.getD i.toNat .non
  | _ => .non
theorem map_atV (ps : List Part) (xs : List V) : (iV (places ps xs.length)).map (atV xs) = run ps xs := by
  rw [run_get]
  have h : ∀ l : List Nat, (∀ i ∈ l, i < xs.length) → (iV l).map (atV xs) = l.filterMap fun i => xs[i]? := by
    intro l
    induction l with
    | nil => intro _; rfl
    | cons a l ih =>
      intro h
      have ha := h a List.mem_cons_self
      rw [List.filterMap_cons, List.getElem?_eq_getElem ha, ← ih fun i hi => h i (List.mem_cons_of_mem _ hi)]
      show xs.getD (a : Int).toNat .non :: _ = _
      rw [Int.toNat_natCast, List.getD_eq_getElem?_getD, List.getElem?_eq_getElem ha]
      rfl
  exact h _ fun i hi => places_lt hi
/-- where the five places stand in a longer row, as values -/
def embV (n : Nat) : V → V
  | .int i => .int (if i < 2 then i else i + ((n : Int) - 5))
  | _ => .non
theorem map_embV {ps : List Part} (hok : ∀ p ∈ ps, Ok p) (h : keepsAll ps = false) {n : Nat} (hn : 5 ≤ n) : (iV (places ps 5)).map (embV n) = iV (places ps n) := by
  rw [places_five ps hok h n hn]
  unfold iV
  rw [List.map_map, List.map_map]
  refine List.map_congr_left fun i _ => ?_
  show V.int (if (i : Int) < 2 then (i : Int) else (i : Int) + ((n : Int) - 5)) = V.int ((emb n i : Nat) : Int)
  unfold emb
  by_cases h2 : i < 2
  · rw [if_pos h2, if_pos (by omega)]
  · rw [if_neg h2, if_neg (by omega)]
    refine congrArg V.int ?_
    omega
theorem iV_getI {l : List Nat} {i : Nat} {x : V} (hx : (iV l)[i]? = some x) : ∃ m : Nat, l[i]? = some m ∧ x = .int (m : Int) := by
  have hx' : (l.map fun (i : Nat) => V.int (i : Int))[i]? = some x := hx
  rw [List.getElem?_map] at hx'
  cases e : l[i]? with
  | none => rw [e] at hx'; cases hx'
  | some m =>
    rw [e] at hx'
    exact ⟨m, rfl, (Option.some.inj hx').symm⟩
/-- a cutter with these parts stands at x -/
structure CutAt (C : Addr) (H : Hp) (x : Addr) (ps : List Part) : Prop where
  ok : ∀ p ∈ ps, Ok p
  le : ps.length ≤ 8
  ex : ∃ (dx p t : Addr) (ts : List V), H x = some (.ins C dx [("_parts", .ref p), ("_table", .ref t), ("_keeps_all", .bl (keepsAll ps))]) ∧ H p = some (.tup (pV ps)) ∧ H t = some (.tup ts) ∧ ts.length = 7 ∧ ∀ i, i < 7 → ∃ q, ts[i]? = some (.ref q) ∧ H q = some (.tup (iV (places ps i)))
theorem CutAt.mono {C x : Addr} {H H' : Hp} {ps : List Part} (c : CutAt C H x ps) (k : ∀ b o, (∀ xs, o ≠ .lst xs) → H b = some o → H' b = some o) : CutAt C H' x ps := by
  obtain ⟨dx, p, t, ts, h1, h2, h3, hl, h4⟩ := c.ex
  refine ⟨c.ok, c.le, dx, p, t, ts, k _ _ (fun _ z => nomatch z) h1, k _ _ (fun _ z => nomatch z) h2, k _ _ (fun _ z => nomatch z) h3, hl, fun i hi => ?_⟩
  obtain ⟨q, e, hq⟩ := h4 i hi
  exact ⟨q, e, k _ _ (fun _ z => nomatch z) hq⟩
theorem CutAt.same {C x : Addr} {H H' : Hp} {ps : List Part} (c : CutAt C H x ps) (s : Same H H') : CutAt C H' x ps := c.mono fun b o _ h => s b o h
theorem CutAt.chg {C x d : Addr} {H H' : Hp} {ps : List Part} {xs : List V} (c : CutAt C H x ps) (s : Chg d H H') (hd : H d = some (.lst xs)) : CutAt C H' x ps :=
  c.mono fun b o n h => s b o (fun e => n xs (by rw [e, hd] at h; exact (Option.some.inj h).symm)) h
/-- what the class must have -/
structure CK (K : PySem.W.Frag) (C : Addr) : Prop where
  cls : Cls K C
  np : NoAttr K C "_parts"
  nt : NoAttr K C "_table"
  nk : NoAttr K C "_keeps_all"
  cc : PySem.W.findIn K (.ref C) "__class__" = some (some (.builtin "object.__class__"))
  cg : PySem.W.specialIn K (.builtin "object.__class__") "__get__" = some (some (.builtin "getset_descriptor.__get__"))
  ct : PySem.W.takesIn K (.builtin "object.__class__") = some true
  cm : PySem.W.mroIn K C (.type "object") = some true
  kit : PySem.W.kitOne K (.ref C) (.ref C) = some true
theorem CK.ty {K : PySem.W.Frag} {C : Addr} (c : CK K C) {H : Hp} {a dx : Addr} {fs : List (Str × V)} (e : H a = some (.ins C dx fs)) : TyX K H (.ref a) (.ref C) := .base (.ins e c.cls c.cc c.cg c.ct c.cm)
/-! ### tables as data -/
def dI (l : List Nat) : PyData := .tuple (l.map fun (i : Nat) => PyData.int (i : Int))
def dT (ps : List Part) : PyData := .tuple ((List.range 7).map fun i => dI (places ps i))
/-- the two keep the same of up to six places -/
def alike (ps qs : List Part) : Bool := (List.range 7).all fun i => decide (places ps i = places qs i)
theorem dpAll_iV {K : PySem.W.Frag} {H : Hp} : ∀ l : List Nat, DpAll K H (iV l) (l.map fun (i : Nat) => PyData.int (i : Int))
  | [] => .nil
  | i :: l => .cons (.int _) (dpAll_iV l)
theorem dp_iV {K : PySem.W.Frag} {H : Hp} {q : Addr} {l : List Nat} (h : H q = some (.tup (iV l))) : Dp K H (.ref q) (dI l) := .tup (.of h) (dpAll_iV l)
theorem dpAll_of {K : PySem.W.Frag} {H : Hp} {α : Type} (d : α → PyData) : ∀ (l : List α) (ts : List V), ts.length = l.length → (∀ (i : Nat) (x : α), l[i]? = some x → ∃ v, ts[i]? = some v ∧ Dp K H v (d x)) → DpAll K H ts (l.map d)
  | [], [], _, _ => .nil
  | [], _ :: _, h, _ => by cases h
  | _ :: _, [], h, _ => by cases h
  | x :: l, t :: ts, h, k => by
    obtain ⟨v, e, hv⟩ := k 0 x rfl
    cases e
    exact .cons hv (dpAll_of d l ts (Nat.succ.inj h) fun i y hy => k (i + 1) y hy)
theorem dp_table {K : PySem.W.Frag} {H : Hp} {t : Addr} {ts : List V} {ps : List Part} (h : H t = some (.tup ts)) (hl : ts.length = 7) (k : ∀ i, i < 7 → ∃ q, ts[i]? = some (.ref q) ∧ H q = some (.tup (iV (places ps i)))) : Dp K H (.ref t) (dT ps) := by
  refine .tup (.of h) (dpAll_of (fun i => dI (places ps i)) _ _ (by rw [hl, List.length_range]) fun i x hx => ?_)
  obtain ⟨hi, e⟩ := List.getElem?_eq_some_iff.mp hx
  rw [List.length_range] at hi
  rw [List.getElem_range] at e
  subst e
  obtain ⟨q, e1, e2⟩ := k i hi
  exact ⟨_, e1, dp_iV e2⟩
theorem eqvAll_ints : ∀ a b : List Nat, PyData.eqvAll (a.map fun (i : Nat) => PyData.int (i : Int)) (b.map fun (i : Nat) => PyData.int (i : Int)) = decide (a = b)
  | [], [] => rfl
  | [], _ :: _ => rfl
  | _ :: _, [] => rfl
  | x :: a, y :: b => by
    show (((x : Int) == (y : Int)) && PyData.eqvAll (a.map fun (i : Nat) => PyData.int (i : Int)) (b.map fun (i : Nat) => PyData.int (i : Int))) = _
    rw [eqvAll_ints a b]
    by_cases h : x = y
    · subst h
      rw [beq_self_eq_true, Bool.true_and, decide_eq_decide]
      exact ⟨fun h => by rw [h], fun h => (List.cons.inj h).2⟩
    · rw [show ((x : Int) == (y : Int)) = false from beq_eq_false_iff_ne.mpr (by omega), Bool.false_and]
      exact (decide_eq_false fun z => h (List.cons.inj z).1).symm
theorem eqv_dI (a b : List Nat) : PyData.eqv (dI a) (dI b) = decide (a = b) := eqvAll_ints a b
theorem eqvAll_map {α : Type} (f g : α → List Nat) : ∀ l : List α, PyData.eqvAll (l.map fun i => dI (f i)) (l.map fun i => dI (g i)) = l.all fun i => decide (f i = g i)
  | [] => rfl
  | x :: l => by
    show (PyData.eqv (dI (f x)) (dI (g x)) && PyData.eqvAll (l.map fun i => dI (f i)) (l.map fun i => dI (g i))) = _
    rw [eqv_dI, eqvAll_map f g l, List.all_cons]
theorem eqv_dT (ps qs : List Part) : PyData.eqv (dT ps) (dT qs) = alike ps qs := eqvAll_map _ _ _
theorem shp_ints : ∀ l : List Nat, PyData.canLayAll0 (l.map fun (i : Nat) => PyData.int (i : Int)) = true ∧ PyData.depthAll (l.map fun (i : Nat) => PyData.int (i : Int)) = 0
  | [] => ⟨rfl, rfl⟩
  | x :: l => by
    obtain ⟨h1, h2⟩ := shp_ints l
    exact ⟨h1, by show max 0 _ = 0; rw [h2]; rfl⟩
theorem shp_dI (l : List Nat) : SeqAt.shaped (dI l) = true := by
  obtain ⟨h1, h2⟩ := shp_ints l
  show (PyData.canLayAll0 (l.map fun (i : Nat) => PyData.int (i : Int)) && decide (PyData.depthAll (l.map fun (i : Nat) => PyData.int (i : Int)) + 1 ≤ 64)) = true
  rw [h1, h2]
  rfl
theorem shp_map {α : Type} (f : α → List Nat) : ∀ l : List α, PyData.canLayAll0 (l.map fun i => dI (f i)) = true ∧ PyData.depthAll (l.map fun i => dI (f i)) ≤ 1
  | [] => ⟨rfl, Nat.zero_le _⟩
  | x :: l => by
    obtain ⟨h1, h2⟩ := shp_map f l
    obtain ⟨h3, h4⟩ := shp_ints (f x)
    refine ⟨?_, ?_⟩
    · show (PyData.canLayAll0 ((f x).map fun (i : Nat) => PyData.int (i : Int)) && PyData.canLayAll0 (l.map fun i => dI (f i))) = true
      rw [h3, h1]
      rfl
    · show max (PyData.depthAll ((f x).map fun (i : Nat) => PyData.int (i : Int)) + 1) (PyData.depthAll (l.map fun i => dI (f i))) ≤ 1
      rw [h4]
      omega
theorem shp_dT (ps : List Part) : SeqAt.shaped (dT ps) = true := by
  obtain ⟨h1, h2⟩ := shp_map (fun i => places ps i) (List.range 7)
  show (PyData.canLayAll0 ((List.range 7).map fun i => dI (places ps i)) && decide (PyData.depthAll ((List.range 7).map fun i => dI (places ps i)) + 1 ≤ 64)) = true
  rw [h1]
  show decide _ = true
  exact decide_eq_true (by omega)
/-! ### what its defs promise -/
def cutText (ps : List Part) : Str := if ps = [] then "all" else Txt.join " > " (ps.map Part.text)
def spParts (C : Addr) : Sp := fun vs H Q _ => ∃ (x : Addr) (ps : List Part), vs = [.ref x] ∧ CutAt C H x ps ∧ ∀ p, H p = some (.tup (pV ps)) → Q (.ref p) H
def spKeeps (C : Addr) : Sp := fun vs H Q _ => ∃ (x : Addr) (ps : List Part), vs = [.ref x] ∧ CutAt C H x ps ∧ ∀ H', Same H H' → Q (.bl (keepsAll ps)) H'
def spCutLen (C : Addr) : Sp := fun vs H Q _ => ∃ (x : Addr) (ps : List Part), vs = [.ref x] ∧ CutAt C H x ps ∧ Q (.int ps.length) H
def spCutStr (C : Addr) : Sp := fun vs H Q _ => ∃ (x : Addr) (ps : List Part), vs = [.ref x] ∧ CutAt C H x ps ∧ ∀ H', Same H H' → Q (.str (cutText ps)) H'
def spCutEq (C : Addr) : Sp := fun vs H Q _ => ∃ (x y : Addr) (ps qs : List Part), vs = [.ref x, .ref y] ∧ CutAt C H x ps ∧ CutAt C H y qs ∧ Q (.bl (alike ps qs)) H
def spCutPlaces (C : Addr) : Sp := fun vs H Q _ => ∃ (x : Addr) (ps : List Part) (n : Nat), vs = [.ref x, .int n] ∧ CutAt C H x ps ∧ n ≤ 1000 ∧ ∀ H' q, Same H H' → H' q = some (.tup (iV (places ps n))) → Q (.ref q) H'
def spCutCall (C : Addr) : Sp := fun vs H Q _ => ∃ (x r : Addr) (ps : List Part) (xs : List V), vs = [.ref x, .ref r] ∧ CutAt C H x ps ∧ H r = some (.tup xs) ∧ xs.length ≤ 1000 ∧ ∀ H' q, Same H H' → H q = none → H' q = some (.tup (run ps xs)) → Q (.ref q) H'
def spCutOf (C : Addr) : Sp := fun vs H Q _ => ∃ (a : Addr) (ps : List Part), vs = [.ref C, .ref a] ∧ H a = some (.tup (pV ps)) ∧ (∀ p ∈ ps, Ok p) ∧ ps.length ≤ 4 ∧ ∀ H' x, Same H H' → H x = none → CutAt C H' x ps → Q (.ref x) H'
end Cut

set_option Elab.async false
set_option linter.all false
set_option maxRecDepth 100000
set_option maxHeartbeats 8000000
namespace K67
open PySem PySem.Spec PyProof.Rows L2 Ly Cut

abbrev s_of : Stmt := inClass (topS 36) 1
abbrev N_of : List Str := ["cls", "parts"]
abbrev P_of : List Str := ["cls", "parts"]
theorem sc_of : FnScope N_of P_of (defScope s_of) := ⟨rfl, rfl, rfl, by decide +kernel, rfl, by decide +kernel, by decide +kernel⟩

abbrev s_parts : Stmt := inClass (topS 36) 3
abbrev N_parts : List Str := ["self"]
abbrev P_parts : List Str := ["self"]
theorem sc_parts : FnScope N_parts P_parts (defScope s_parts) := ⟨rfl, rfl, rfl, by decide +kernel, rfl, by decide +kernel, by decide +kernel⟩

abbrev s_keeps_all : Stmt := inClass (topS 36) 4
abbrev N_keeps_all : List Str := ["self"]
abbrev P_keeps_all : List Str := ["self"]
theorem sc_keeps_all : FnScope N_keeps_all P_keeps_all (defScope s_keeps_all) := ⟨rfl, rfl, rfl, by decide +kernel, rfl, by decide +kernel, by decide +kernel⟩

abbrev s_callc : Stmt := inClass (topS 36) 5
abbrev N_callc : List Str := ["self", "row", "at"]
abbrev P_callc : List Str := ["self", "row"]
theorem sc_callc : FnScope N_callc P_callc (defScope s_callc) := ⟨rfl, rfl, rfl, by decide +kernel, rfl, by decide +kernel, by decide +kernel⟩

abbrev s_places : Stmt := inClass (topS 36) 6
abbrev N_places : List Str := ["self", "many", "between", "at"]
abbrev P_places : List Str := ["self", "many"]
theorem sc_places : FnScope N_places P_places (defScope s_places) := ⟨rfl, rfl, rfl, by decide +kernel, rfl, by decide +kernel, by decide +kernel⟩

abbrev s_lenc : Stmt := inClass (topS 36) 11
abbrev N_lenc : List Str := ["self"]
abbrev P_lenc : List Str := ["self"]
theorem sc_lenc : FnScope N_lenc P_lenc (defScope s_lenc) := ⟨rfl, rfl, rfl, by decide +kernel, rfl, by decide +kernel, by decide +kernel⟩

abbrev s_eqc : Stmt := inClass (topS 36) 12
abbrev N_eqc : List Str := ["self", "other"]
abbrev P_eqc : List Str := ["self", "other"]
theorem sc_eqc : FnScope N_eqc P_eqc (defScope s_eqc) := ⟨rfl, rfl, rfl, by decide +kernel, rfl, by decide +kernel, by decide +kernel⟩

abbrev s_strc : Stmt := inClass (topS 36) 13
abbrev N_strc : List Str := ["self"]
abbrev P_strc : List Str := ["self"]
theorem sc_strc : FnScope N_strc P_strc (defScope s_strc) := ⟨rfl, rfl, rfl, by decide +kernel, rfl, by decide +kernel, by decide +kernel⟩

abbrev s_keep_all : Stmt := topS 34
abbrev N_keep_all : List Str := ["parts", "part"]
abbrev P_keep_all : List Str := ["parts"]
theorem sc_keep_all : FnScope N_keep_all P_keep_all (defScope s_keep_all) := ⟨rfl, rfl, rfl, by decide +kernel, rfl, by decide +kernel, by decide +kernel⟩

section
variable {P : Program} {w : World} {K : PySem.W.Frag} {mg : Str → Option Value} {base : Heap} {f C : Addr} {fd : FuncData}
def spInitB (C : Addr) : Sp := fun vs H Q _ => ∃ (x dx p : Addr) (ps : List Part), vs = [.ref x, .ref p] ∧ H x = some (.ins C dx []) ∧ H p = some (.tup (pV ps)) ∧ (∀ p ∈ ps, Ok p) ∧ ps.length ≤ 4 ∧ ∀ H', Chg x H H' → CutAt C H' x ps → Q .non H'
def spKeepAll (K : PySem.W.Frag) : Sp := fun vs H Q _ => ∃ (a : Addr) (ps : List Part), vs = [.ref a] ∧ SqT K H a (pV ps) ∧ (∀ p ∈ ps, Ok p) ∧ ps.length ≤ 8 ∧ ∀ H', Same H H' → Q (.bl (keepsAll ps)) H'
theorem ok_keep_all (Z : Zs mg) (D : Df K mg "keep_all" s_keep_all P_keep_all f fd) : FnOk P w K mg base CX0 1 f fd P_keep_all (spKeepAll K) := by
  refine D.F.ok sc_keep_all (fun vs H Q E h => ?_) (fun cdv A outer s H vs Q E hr h => ?_)
  · obtain ⟨a, ps, rfl, _⟩ := h
    rfl
  · obtain ⟨a, ps, rfl, hS, hok, hl, q⟩ := h
    have nd := sc_keep_all.nd
    refine ⟨_,
    (pss_one
    (ps_ret (pe_callB (cr_all rfl) (by rfl) Z.z_all (by decide +kernel) (pa_cons (pe_lc (own := [("part", 1)]) (g := gName 1) (tt := tYes) rfl nd (pi_tup (pv 0)) (blkOk_by (N := N_keep_all) (sc := defScope s_keep_all) (by decide +kernel)) (fun _ _ _ _ _ => (pg_name (i := 1) nd rfl (Or.inl rfl))) (fun _ _ _ _ _ => pts_nil) (fun _ _ _ _ _ => (pe_cmpR op_eq (pv 1) (pe_gS rfl Z.g_KEEP_ALL) (nomark _)))) pa_nil)))), ?_⟩
    refine ⟨_, rfl, a, rfl, ⟨_, hS⟩, fun D9 nD => ?_⟩
    refine lc_mapT (pV ps) (fun v => .bl (decide (v = V.str "all"))) hS nD (by rw [pV_len]; exact sz1000 (by omega)) (fun i v H1 Q' N hv s1 k => ?_) (fun H1 s1 hd => ?_)
    · obtain ⟨pt, _, rfl⟩ := pV_get hv
      exact ⟨rfl, _, rfl, rfl, k H1 (Same.refl H1)⟩
    · refine ⟨D9, ps.map fun p => decide (p = .all), rfl, .of ?_, ?_⟩
      · rw [hd]
        unfold pV
        rw [List.map_map, List.map_map]
        refine congrArg (fun l => some (HO.lst l)) (List.map_congr_left fun pt hpt => ?_)
        show V.bl (decide (V.str pt.text = V.str "all")) = V.bl (decide (pt = .all))
        rw [← text_all (hok pt hpt)]
        refine congrArg V.bl ?_
        rw [decide_eq_decide]
        exact ⟨fun h => V.str.inj h, fun h => congrArg V.str h⟩
      · rw [List.all_map]
        exact q H1 s1
/-- a cutter is made of these parts -/
def spInit (C : Addr) : Sp := fun vs H Q _ => ∃ (x dx : Addr) (ps : List Part), vs = .ref x :: pV ps ∧ H x = some (.ins C dx []) ∧ (∀ p ∈ ps, Ok p) ∧ ps.length ≤ 4 ∧ ∀ H', Chg x H H' → CutAt C H' x ps → Q .non H'
theorem ok_init (Z : Zs mg) (F : Fun K "__init__" "Cutter.__init__" s_init f fd) (c : CK K C) {f1 f2 : Addr} {d1 d2 : FuncData} (D_check_parts : Cl P w K mg base "check_parts" 2 f1 d1 P_check_parts (spCheck K))
    (D_table_of : Cl P w K mg base "table_of" 4 f2 d2 P_table_of (spTable K)) {f3 : Addr} {d3 : FuncData} (D_keep_all : Cl P w K mg base "keep_all" 1 f3 d3 P_keep_all (spKeepAll K)) : FnR P w K mg base CX0 5 f (spInit C) := by
  have main : FnR P w K mg base CX0 5 f (fun vs H Q E => ∃ ws rest, vs = ws ++ rest ∧ ws.length = ["self"].length ∧ rest.length ≤ sizeLine ∧ ∀ p, H p = none → spInitB C (ws ++ [V.ref p]) (upd H p (.tup rest)) Q E) := by
    refine fun_star (ps := ["self"]) (pv := "parts") (N := N_init) F sc_init (fun kV doc pm an cdv ct => StX.bind_star1 (B := fun l => bindArgs (PySem.W.fnOf "__init__" "Cutter.__init__" (defArgs s_init) (defBody s_init) (defScope s_init) .none kV doc pm an cdv ct) ⟨l, []⟩) (fun a => rfl) (fun a r rs => rfl)) (fun cdv A outer s H vs Q E hr h => ?_)
    obtain ⟨x, dx, p, ps, rfl, hx, hp, hok, hl, q⟩ := h
    have nd := sc_init.nd
    refine ⟨_,
    (pss_cons
    (ps_expr (pe_call D_check_parts.ok (hr.mono (by decide)) (by rfl) D_check_parts.g D_check_parts.kp D_check_parts.b .nil pass0 (pa_cons (pv 1) pa_nil)))
    (pss_cons
    (ps_fld (pv 0) (pv 1) rfl)
    (pss_cons
    (ps_fld (pv 0) (pe_call D_table_of.ok (hr.mono (by decide)) (by rfl) D_table_of.g D_table_of.kp D_table_of.b .nil pass0 (pa_cons (pv 1) pa_nil)) rfl)
    (pss_one
    (ps_fld (pv 0) (pe_call D_keep_all.ok (hr.mono (by decide)) (by rfl) D_keep_all.g D_keep_all.kp D_keep_all.b .nil pass0 (pa_cons (pv 1) pa_nil)) rfl))))), ?_⟩
    refine ⟨_, rfl, p, ps, rfl, .of hp, hok, hl, fun H1 s1 => ?_⟩
    have hx1 := s1 _ _ hx
    have hp1 := s1 _ _ hp
    refine ⟨_, rfl, _, rfl, x, C, dx, [], rfl, hx1, c.cls, c.np, by decide, ?_⟩
    have c1 : Chg x H (upd H1 x (.ins C dx [("_parts", .ref p)])) := (Chg.of s1).upd
    have hne : p ≠ x := fun e => by rw [e, hx] at hp; cases hp
    have hp2 : (upd H1 x (.ins C dx [("_parts", .ref p)])) p = some (.tup (pV ps)) := by rw [upd_ne hne]; exact hp1
    have hx2 : (upd H1 x (.ins C dx [("_parts", .ref p)])) x = some (.ins C dx [("_parts", .ref p)]) := upd_same
    dsimp only [putF] at *
    generalize upd H1 x (.ins C dx [("_parts", .ref p)]) = H2 at c1 hp2 hx2 ⊢
    refine ⟨_, rfl, p, ps, rfl, .of hp2, hok, fun H3 t ts s4 nt ht hlen hts => ?_⟩
    refine ⟨_, rfl, x, C, dx, [("_parts", .ref p)], rfl, s4 _ _ hx2, c.cls, c.nt, by show 1 < 1000; decide, ?_⟩
    have ntx : t ≠ x := fun e => by rw [e, hx2] at nt; cases nt
    have c4 := (c1.trans (Chg.of s4)).upd (d := x) (o := HO.ins C dx [("_parts", .ref p), ("_table", .ref t)])
    have hp4 : (upd H3 x (.ins C dx [("_parts", .ref p), ("_table", .ref t)])) p = some (.tup (pV ps)) := by rw [upd_ne hne]; exact s4 _ _ hp2
    have ht4 : (upd H3 x (.ins C dx [("_parts", .ref p), ("_table", .ref t)])) t = some (.tup ts) := by rw [upd_ne ntx]; exact ht
    have hx4 : (upd H3 x (.ins C dx [("_parts", .ref p), ("_table", .ref t)])) x = some (.ins C dx [("_parts", .ref p), ("_table", .ref t)]) := upd_same
    have hq4 : ∀ j, j < 7 → ∃ q, ts[j]? = some (.ref q) ∧ (upd H3 x (.ins C dx [("_parts", .ref p), ("_table", .ref t)])) q = some (.tup (iV (places ps j))) := fun j hj => by
      obtain ⟨r, e1, e2⟩ := hts j hj
      have nrx : r ≠ x := fun e => by rw [e, s4 _ _ hx2] at e2; cases e2
      exact ⟨r, e1, by rw [upd_ne nrx]; exact e2⟩
    rw [show putF "_table" (V.ref t) [("_parts", V.ref p)] = [((("_parts" : Str)), V.ref p), ((("_table" : Str)), V.ref t)] from rfl]
    generalize upd H3 x (.ins C dx [("_parts", .ref p), ("_table", .ref t)]) = H4 at c4 hp4 ht4 hx4 hq4 ⊢
    refine ⟨_, rfl, p, ps, rfl, .of hp4, hok, Nat.le_trans hl (by decide), fun H5 s5 => ?_⟩
    refine ⟨_, rfl, x, C, dx, [("_parts", .ref p), ("_table", .ref t)], rfl, s5 _ _ hx4, c.cls, c.nk, by show 2 < 1000; decide, ?_⟩
    refine q _ ((c4.trans (Chg.of s5)).upd) ⟨hok, Nat.le_trans hl (by decide), dx, p, t, ts, upd_same, ?_, ?_, hlen, fun j hj => ?_⟩
    · rw [upd_ne hne]
      exact s5 _ _ hp4
    · rw [upd_ne ntx]
      exact s5 _ _ ht4
    · obtain ⟨r, e1, e2⟩ := hq4 j hj
      have nrx : r ≠ x := fun e => by rw [e, hx4] at e2; cases e2
      exact ⟨r, e1, by rw [upd_ne nrx]; exact s5 _ _ e2⟩
  refine main.imp fun vs H Q E h => ?_
  obtain ⟨x, dx, ps, rfl, hx, hok, hl, q⟩ := h
  refine ⟨[.ref x], pV ps, rfl, rfl, ?_, fun p np => ⟨x, dx, p, ps, rfl, ?_, upd_same, hok, hl, fun H' c' k => q H' (fun b o hb e => c' b o hb (same_new np b o e)) k⟩⟩
  · unfold pV
    rw [List.length_map]
    exact sz1000 (by omega)
  · exact same_new np _ _ hx

abbrev s_is_whole : Stmt := topS 3
abbrev N_is_whole : List Str := ["value"]
abbrev P_is_whole : List Str := ["value"]
theorem sc_is_whole : FnScope N_is_whole P_is_whole (defScope s_is_whole) := ⟨rfl, rfl, rfl, by decide +kernel, rfl, by decide +kernel, by decide +kernel⟩

def spWhole (K : PySem.W.Frag) : Sp := fun vs H Q _ => ∃ (x : V) (t : String) (b1 b2 : Bool), vs = [x] ∧ Ly.TyB K H x t ∧ kitB t "int" = some b1 ∧ (b1 = true → kitB t "bool" = some b2) ∧ Q (.bl (b1 && !b2)) H
theorem ok_whole (Z : Zs mg) (D : Df K mg "is_whole" s_is_whole P_is_whole f fd) : FnOk P w K mg base CX0 1 f fd P_is_whole (spWhole K) := by
  refine D.F.ok sc_is_whole (fun vs H Q E h => ?_) (fun cdv A outer s H vs Q E hr h => ?_)
  · obtain ⟨x, t, _, _, rfl, _⟩ := h
    rfl
  · obtain ⟨x, t, b1, b2, rfl, ht, k1, k2, q⟩ := h
    have nd := sc_is_whole.nd
    refine ⟨_,
    (pss_one
    (ps_ret (pe_and (pe_callB call_isi (by rfl) Z.z_isinstance (by decide +kernel) (pa_cons (pv 0) (pa_cons (pe_bltn (v := .ty "int") (by rfl) Z.z_int (by decide +kernel) rfl) pa_nil))) (pe_one (pe_not (pe_callB call_isi (by rfl) Z.z_isinstance (by decide +kernel) (pa_cons (pv 0) (pa_cons (pe_bltn (v := .ty "bool") (by rfl) Z.z_bool (by decide +kernel) rfl) pa_nil)))))))), ?_⟩
    refine ⟨_, rfl, x, .ty "int", _, _, b1, rfl, .ty _, ht, kit_ty k1, b1, rfl, ?_⟩
    cases b1 with
    | false => exact q
    | true => exact ⟨_, rfl, x, .ty "bool", _, _, b2, rfl, .ty _, ht, kit_ty (k2 rfl), b2, rfl, q⟩
/-- a def of a class, called -/
structure Cm (P : Program) (w : World) (K : PySem.W.Frag) (mg : Str → Option Value) (base : Heap) (k : Nat) (f : Addr) (fd : FuncData) (ps : List Str) (sp : Sp) : Prop where
  ok : FnOk P w K mg base CX0 k f fd ps sp
  b : Binds K fd ps []

theorem okm_parts (Z : Zs mg) (D : Dm K "parts" "Cutter.parts" s_parts P_parts f fd) (c : CK K C)  : FnOk P w K mg base CX0 1 f fd P_parts (spParts C) := by
  refine D.F.ok sc_parts (fun vs H Q E h => ?_) (fun cdv A outer s H vs Q E hr h => ?_)
  · obtain ⟨x, ps, rfl, _⟩ := h
    rfl
  · obtain ⟨x, ps, rfl, hcx, q⟩ := h
    have nd := sc_parts.nd
    have hu : (A.deeper (envOfC "Cutter.parts" (defScope s_parts) s.heap.objs.size f cdv)).units + 64 < cLine := by
      have := hr.un
      omega
    obtain ⟨dx, p, t, ts, hx, hp, ht, hlen, hts⟩ := hcx.ex
    refine ⟨_,
    (pss_one
    (ps_ret (pe_fld (pv 0) rfl))), ?_⟩
    exact ⟨_, rfl, x, C, dx, _, .ref p, rfl, hx, c.cls, c.np, rfl, q p hp⟩

theorem okm_keeps_all (Z : Zs mg) (D : Dm K "keeps_all" "Cutter.keeps_all" s_keeps_all P_keeps_all f fd) (c : CK K C)  : FnOk P w K mg base CX0 1 f fd P_keeps_all (spKeeps C) := by
  refine D.F.ok sc_keeps_all (fun vs H Q E h => ?_) (fun cdv A outer s H vs Q E hr h => ?_)
  · obtain ⟨x, ps, rfl, _⟩ := h
    rfl
  · obtain ⟨x, ps, rfl, hcx, q⟩ := h
    have nd := sc_keeps_all.nd
    have hu : (A.deeper (envOfC "Cutter.keeps_all" (defScope s_keeps_all) s.heap.objs.size f cdv)).units + 64 < cLine := by
      have := hr.un
      omega
    obtain ⟨dx, p, t, ts, hx, hp, ht, hlen, hts⟩ := hcx.ex
    refine ⟨_,
    (pss_one
    (ps_ret (pe_fld (pv 0) rfl))), ?_⟩
    exact ⟨_, rfl, x, C, dx, _, .bl (keepsAll ps), rfl, hx, c.cls, c.nk, rfl, q H (Same.refl H)⟩

theorem okm_lenc (Z : Zs mg) (D : Dm K "__len__" "Cutter.__len__" s_lenc P_lenc f fd) (c : CK K C)  : FnOk P w K mg base CX0 1 f fd P_lenc (spCutLen C) := by
  refine D.F.ok sc_lenc (fun vs H Q E h => ?_) (fun cdv A outer s H vs Q E hr h => ?_)
  · obtain ⟨x, ps, rfl, _⟩ := h
    rfl
  · obtain ⟨x, ps, rfl, hcx, q⟩ := h
    have nd := sc_lenc.nd
    have hu : (A.deeper (envOfC "Cutter.__len__" (defScope s_lenc) s.heap.objs.size f cdv)).units + 64 < cLine := by
      have := hr.un
      omega
    obtain ⟨dx, p, t, ts, hx, hp, ht, hlen, hts⟩ := hcx.ex
    refine ⟨_,
    (pss_one
    (ps_ret (pe_callB call_lenT (by rfl) Z.z_len (by decide +kernel) (pa_cons (pe_fld (pv 0) rfl) pa_nil)))), ?_⟩
    refine ⟨_, rfl, x, C, dx, _, .ref p, rfl, hx, c.cls, c.np, rfl, p, pV ps, rfl, .of hp, ?_⟩
    rw [pV_len]
    exact q

theorem okm_strc (Z : Zs mg) (D : Dm K "__str__" "Cutter.__str__" s_strc P_strc f fd) (c : CK K C)  : FnOk P w K mg base CX0 1 f fd P_strc (spCutStr C) := by
  refine D.F.ok sc_strc (fun vs H Q E h => ?_) (fun cdv A outer s H vs Q E hr h => ?_)
  · obtain ⟨x, ps, rfl, _⟩ := h
    rfl
  · obtain ⟨x, ps, rfl, hcx, q⟩ := h
    have nd := sc_strc.nd
    have hu : (A.deeper (envOfC "Cutter.__str__" (defScope s_strc) s.heap.objs.size f cdv)).units + 64 < cLine := by
      have := hr.un
      omega
    obtain ⟨dx, p, t, ts, hx, hp, ht, hlen, hts⟩ := hcx.ex
    refine ⟨_,
    (pss_one
    (ps_ret (pe_join pe_str (pe_orT (pe_fld (pv 0) rfl) (pe_one (pe_tup (pa_cons (pe_gS rfl Z.g_KEEP_ALL) pa_nil))))))), ?_⟩
    refine ⟨⟨_, rfl⟩, _, rfl, x, C, dx, _, .ref p, rfl, hx, c.cls, c.np, rfl, !(pV ps).isEmpty, .inr (.inl ⟨_, .of hp, rfl⟩), ?_⟩
    cases ps with
    | nil =>
      refine ifF rfl ⟨by show 1 ≤ sizeLine; decide, fun t nt => ⟨_, t, [Part.text .all], rfl, rfl, .inr (.of upd_same), by decide +kernel, q _ (same_new nt)⟩⟩
    | cons pt r =>
      refine ifT rfl ⟨_, p, (pt :: r).map Part.text, rfl, rfl, .inr (.of ?_), ?_, q H (Same.refl H)⟩
      · rw [hp]
        unfold pV
        rw [List.map_map]
        rfl
      · have hb : ∀ l : List Part, (∀ p ∈ l, Ok p) → (l.map fun p => p.text.length).sum ≤ 10 * l.length := by
          intro l
          induction l with
          | nil => intro _; exact Nat.le_refl _
          | cons a l ih =>
            intro h
            have h1 := text_len (h a List.mem_cons_self)
            have h2 := ih fun p hp => h p (List.mem_cons_of_mem _ hp)
            rw [List.map_cons, List.sum_cons, List.length_cons]
            omega
        have h1 := hb (pt :: r) hcx.ok
        have h2 := hcx.le
        rw [List.map_map, List.length_map]
        have e3 : (Str.ofString " > ").length = 3 := by decide +kernel
        show ((pt :: r).map fun p => p.text.length).sum + (pt :: r).length * (Str.ofString " > ").length ≤ 16777216
        rw [e3]
        omega

theorem okm_eqc (Z : Zs mg) (D : Dm K "__eq__" "Cutter.__eq__" s_eqc P_eqc f fd) (c : CK K C) (hC : mg "Cutter" = some (.ref C)) : FnOk P w K mg base CX0 1 f fd P_eqc (spCutEq C) := by
  refine D.F.ok sc_eqc (fun vs H Q E h => ?_) (fun cdv A outer s H vs Q E hr h => ?_)
  · obtain ⟨x, y, ps, qs, rfl, _⟩ := h
    rfl
  · obtain ⟨x, y, ps, qs, rfl, hcx, q⟩ := h
    have nd := sc_eqc.nd
    have hu : (A.deeper (envOfC "Cutter.__eq__" (defScope s_eqc) s.heap.objs.size f cdv)).units + 64 < cLine := by
      have := hr.un
      omega
    obtain ⟨dx, p, t, ts, hx, hp, ht, hlen, hts⟩ := hcx.ex
    refine ⟨_,
    (pss_one
    (ps_ret (pe_and (pe_callB call_isi (by rfl) Z.z_isinstance (by decide +kernel) (pa_cons (pv 1) (pa_cons (pe_glob (v := .ref C) rfl hC rfl) pa_nil))) (pe_one (pe_cmpR (op_eqD hu) (pe_fld (pv 0) rfl) (pe_fld (pv 1) rfl) (nomark _)))))), ?_⟩
    obtain ⟨hcy, q⟩ := q
    obtain ⟨dy, p', t', ts', hy, hp', ht', hlen', hts'⟩ := hcy.ex
    refine ⟨_, rfl, .ref y, .ref C, _, _, true, rfl, .own C, c.ty hy, c.kit, true, rfl, ?_⟩
    refine ⟨_, rfl, x, C, dx, _, .ref t, rfl, hx, c.cls, c.nt, rfl, _, rfl, y, C, dy, _, .ref t', rfl, hy, c.cls, c.nt, rfl, dT ps, dT qs, dp_table ht hlen hts, dp_table ht' hlen' hts', shp_dT _, shp_dT _, ?_⟩
    rw [eqv_dT]
    exact q

theorem okm_places (Z : Zs mg) (D : Dm K "places" "Cutter.places" s_places P_places f fd) (c : CK K C) {f1 f2 p2 : Addr} {d1 d2 : FuncData} (D_is_whole : Cl P w K mg base "is_whole" 1 f1 d1 P_is_whole (spWhole K)) (pr_keeps_all : PropOf K C "keeps_all" p2 f2) (M_keeps_all : Cm P w K mg base 1 f2 d2 P_keeps_all (spKeeps C)) : FnOk P w K mg base CX0 3 f fd P_places (spCutPlaces C) := by
  refine D.F.ok sc_places (fun vs H Q E h => ?_) (fun cdv A outer s H vs Q E hr h => ?_)
  · obtain ⟨x, ps, n, rfl, _⟩ := h
    rfl
  · obtain ⟨x, ps, n, rfl, hcx, q⟩ := h
    have nd := sc_places.nd
    have hu : (A.deeper (envOfC "Cutter.places" (defScope s_places) s.heap.objs.size f cdv)).units + 64 < cLine := by
      have := hr.un
      omega
    obtain ⟨dx, p, t, ts, hx, hp, ht, hlen, hts⟩ := hcx.ex
    refine ⟨_,
    (pss_cons
    (ps_if (PW.pt (pw_or (pt_not (pt_truth (pe_call D_is_whole.ok (hr.mono (by decide)) (by rfl) D_is_whole.g D_is_whole.kp D_is_whole.b .nil pass0 (pa_cons (pv 1) pa_nil)) (by intro _; rfl))) (pw_or1 (pt_not (pt_chain op_le op_le pe_int (pv 1) (pe_gI rfl Z.g_MAX_ROW))))))
      (pss_one
      ps_never)
      pss_nil)
    (pss_cons
    (ps_if (pt_cmpR op_le (pv 1) (pe_gI rfl Z.g_REACH) (nomark _))
      (pss_one
      (ps_ret (pe_ix ix_tup (pe_fld (pv 0) rfl) (pv 1) (fun _ _ => rfl))))
      pss_nil)
    (pss_cons
    (ps_if (pt_val (pe_prop (pv 0) c.cls pr_keeps_all M_keeps_all.ok (hr.mono (by decide)) M_keeps_all.b .nil pass0 rfl))
      (pss_one
      (ps_ret (pe_tupRg rfl (by rfl) Z.z_tuple (prg_1 (by rfl) Z.z_range (pv 1)))))
      pss_nil)
    (pss_cons
    (ps_set (i := 2) nd rfl (Or.inr rfl) (pe_op op_sub (pv 1) (pe_gI rfl Z.g_REACH)))
    (pss_one
    (ps_ret (pe_callTy call_tuple_of (by rfl) Z.z_tuple (by decide +kernel) (pa_cons (pe_lc (own := [("at", 3)]) (g := gName 3) (tt := tYes) rfl nd (pi_tup (pe_ix ix_tup (pe_fld (pv 0) rfl) (pe_gI rfl Z.g_REACH) (fun _ _ => rfl))) (blkOk_by (N := N_places) (sc := defScope s_places) (by decide +kernel)) (fun _ _ _ _ _ => (pg_name (i := 3) nd rfl (Or.inl rfl))) (fun _ _ _ _ _ => pts_nil) (fun _ _ _ _ _ => (pe_ifExp (pt_cmpR op_lt (pv 3) (pe_gI rfl Z.g_MAX_FRONT) (nomark _)) (pv 3) (pe_op op_add (pv 3) (pv 2))))) pa_nil)))))))), ?_⟩
    obtain ⟨hn, q⟩ := q
    refine ⟨_, rfl, .int n, "int", true, false, rfl, .base (.int _), by decide +kernel, fun _ => by decide +kernel, ⟨true, rfl, ifF rfl ?_⟩⟩
    refine ⟨_, rfl, _, _, rfl, rfl, _, rfl, ifT (decide_eq_true (by omega)) ⟨_, _, rfl, rfl, _, rfl, ?_⟩⟩
    refine ifF (by rw [decide_eq_true (show (n : Int) ≤ 1000 by omega)]; rfl) ?_
    dsimp only [tNext]
    refine ⟨_, rfl, _, _, rfl, rfl, _, rfl, ?_⟩
    by_cases h5 : (n : Int) ≤ 5
    · obtain ⟨r, e1, e2⟩ := hts n (by omega)
      exact ifT (decide_eq_true h5) ⟨_, rfl, x, C, dx, _, .ref t, rfl, hx, c.cls, c.nt, rfl, _, rfl, t, ts, n, .ref r, rfl, rfl, .of ht, atI_nat e1, q H r (Same.refl H) e2⟩
    refine ifF (decide_eq_false h5) ?_
    dsimp only [tNext]
    refine ⟨_, rfl, x, dx, _, rfl, hx, x, ps, rfl, hcx, fun H1 s1 => ⟨keepsAll ps, rfl, ?_⟩⟩
    by_cases hk : keepsAll ps = true
    · refine ifT hk ⟨_, rfl, n, rfl, .of_le (by decide) (by omega) (by decide) (by omega), fun r nr => ?_⟩
      refine q _ r (s1.trans (same_new nr)) ?_
      rw [upd_same, rgV_iV]
      show _ = some (HO.tup (iV (run ps (List.range n))))
      rw [run_all ps _ hk]
    refine ifF (eq_false_of_ne_true hk) ?_
    dsimp only [tNext]
    refine ⟨_, rfl, _, _, rfl, rfl, ?_⟩
    obtain ⟨r, e1, e2⟩ := hts 5 (by omega)
    refine ⟨_, rfl, x, C, dx, _, .ref t, rfl, s1 _ _ hx, c.cls, c.nt, rfl, t, ts, (5 : Nat), .ref r, rfl, rfl, .of (s1 _ _ ht), atI_nat e1, ?_⟩
    have e2' := s1 _ _ e2
    refine ⟨r, rfl, ⟨_, .of e2'⟩, fun D9 nD => ?_⟩
    refine lc_mapT (iV (places ps 5)) (embV n) (.of e2') nD (by rw [iV_len]; exact sz1000 (by have := places_len ps 5; omega)) (fun i v H2 Q' N hv s2 k => ?_) (fun H2 s2 hd => ?_)
    · obtain ⟨m, _, rfl⟩ := iV_getI hv
      have k' := k H2 (Same.refl H2)
      refine ⟨rfl, _, rfl, _, _, rfl, rfl, _, rfl, ?_⟩
      have e : embV n (.int (m : Int)) = .int (if (m : Int) < 2 then (m : Int) else (m : Int) + ((n : Int) - 5)) := rfl
      rw [e] at k'
      by_cases h2 : (m : Int) < 2
      · rw [if_pos h2] at k'
        exact ifT (decide_eq_true h2) ⟨_, rfl, k'⟩
      · rw [if_neg h2] at k'
        exact ifF (decide_eq_false h2) ⟨_, rfl, _, rfl, _, _, rfl, rfl, k'⟩
    · refine ⟨D9, _, rfl, .inl ⟨.of hd, fun r2 nr2 => q _ r2 ((s1.trans s2).trans (same_new nr2)) ?_⟩⟩
      rw [upd_same, map_embV hcx.ok (eq_false_of_ne_true hk) (by omega)]

theorem okm_callc (Z : Zs mg) (D : Dm K "__call__" "Cutter.__call__" s_callc P_callc f fd) (c : CK K C) {f1 : Addr} {d1 : FuncData} (me_places : Meth K C "places" f1) (M_places : Cm P w K mg base 3 f1 d1 P_places (spCutPlaces C)) : FnOk P w K mg base CX0 4 f fd P_callc (spCutCall C) := by
  refine D.F.ok sc_callc (fun vs H Q E h => ?_) (fun cdv A outer s H vs Q E hr h => ?_)
  · obtain ⟨x, r, ps, xs, rfl, _⟩ := h
    rfl
  · obtain ⟨x, r, ps, xs, rfl, hcx, q⟩ := h
    have nd := sc_callc.nd
    have hu : (A.deeper (envOfC "Cutter.__call__" (defScope s_callc) s.heap.objs.size f cdv)).units + 64 < cLine := by
      have := hr.un
      omega
    obtain ⟨dx, p, t, ts, hx, hp, ht, hlen, hts⟩ := hcx.ex
    refine ⟨_,
    (pss_cons
    (ps_if (PW.pt (pw_or (pt_not (pt_val (pe_callB call_isi (by rfl) Z.z_isinstance (by decide +kernel) (pa_cons (pv 1) (pa_cons (pe_bltn (v := .ty "tuple") (by rfl) Z.z_tuple (by decide +kernel) rfl) pa_nil))))) (pw_or1 (pt_cmpR op_gt (pe_callB call_lenT (by rfl) Z.z_len (by decide +kernel) (pa_cons (pv 1) pa_nil)) (pe_gI rfl Z.g_MAX_ROW) (nomark _)))))
      (pss_one
      ps_never)
      pss_nil)
    (pss_one
    (ps_ret (pe_callTy call_tuple_of (by rfl) Z.z_tuple (by decide +kernel) (pa_cons (pe_lc (own := [("at", 2)]) (g := gName 2) (tt := tYes) rfl nd (pi_tup (pe_meth (pv 0) c.cls me_places M_places.ok (hr.mono (by decide)) M_places.b .nil pass0 (pa_cons (pe_callB call_lenT (by rfl) Z.z_len (by decide +kernel) (pa_cons (pv 1) pa_nil)) pa_nil))) (blkOk_by (N := N_callc) (sc := defScope s_callc) (by decide +kernel)) (fun _ _ _ _ _ => (pg_name (i := 2) nd rfl (Or.inl rfl))) (fun _ _ _ _ _ => pts_nil) (fun _ _ _ _ _ => (pe_ix (ixT (K := K) rfl) (pv 1) (pv 2) (fun _ _ => rfl)))) pa_nil))))), ?_⟩
    obtain ⟨hr2, hxs, q⟩ := q
    refine ⟨_, rfl, .ref r, .ty "tuple", _, _, true, rfl, .ty _, .base (.tup hr2), kit_ty (by decide +kernel), true, rfl, ifF rfl ?_⟩
    refine ⟨_, rfl, r, xs, rfl, .of hr2, _, _, rfl, rfl, _, rfl, ifF (decide_eq_false (by omega)) ?_⟩
    dsimp only [tNext]
    refine ⟨_, rfl, x, dx, _, rfl, hx, rfl, _, rfl, r, xs, rfl, .of hr2, x, ps, xs.length, rfl, hcx, hxs, fun H1 r1 s1 hr1 => ?_⟩
    refine ⟨r1, rfl, ⟨_, .of hr1⟩, fun D9 nD => ?_⟩
    refine lc_mapT (iV (places ps xs.length)) (atV xs) (.of hr1) nD (by rw [iV_len]; exact Nat.le_of_lt (small1000 (Nat.le_trans (places_len ps xs.length) hxs))) (fun i v H2 Q' N hv s2 k => ?_) (fun H2 s2 hd => ?_)
    · obtain ⟨m, hm, rfl⟩ := iV_getI hv
      have hml : m < xs.length := places_lt (List.mem_of_getElem? hm)
      have k' := k H2 (Same.refl H2)
      have e : atV xs (.int (m : Int)) = xs[m] := by
        show xs.getD (m : Int).toNat .non = _
        rw [Int.toNat_natCast, List.getD_eq_getElem?_getD, List.getElem?_eq_getElem hml]
        rfl
      rw [e] at k'
      exact ⟨rfl, _, rfl, _, rfl, r, xs, (m : Int), xs[m], rfl, rfl, .of ((s1.trans s2) _ _ hr2), atI_nat (List.getElem?_eq_getElem hml), k'⟩
    · refine ⟨D9, _, rfl, .inl ⟨.of hd, fun r2 nr2 => q _ r2 ((s1.trans s2).trans (same_new nr2)) ((s1.trans s2).free nr2) ?_⟩⟩
      rw [upd_same, map_atV]

theorem okm_of (Z : Zs mg) (D : Dm K "of" "Cutter.of" s_of P_of f fd) {fi : Addr} (M : Mk K C fi) (FI : FnR P w K mg base CX0 5 fi (spInit C)) : FnOk P w K mg base CX0 7 f fd P_of (spCutOf C) := by
  refine D.F.ok sc_of (fun vs H Q E h => ?_) (fun cdv A outer s H vs Q E hr h => ?_)
  · obtain ⟨a, ps, rfl, _⟩ := h
    rfl
  · obtain ⟨a, ps, rfl, ha, hok, hl, q⟩ := h
    have nd := sc_of.nd
    refine ⟨_,
    (pss_cons
    (ps_if (pt_not (pt_val (pe_callB call_isi (by rfl) Z.z_isinstance (by decide +kernel) (pa_cons (pv 1) (pa_cons (pe_bltn (v := .ty "tuple") (by rfl) Z.z_tuple (by decide +kernel) rfl) pa_nil)))))
      (pss_one
      ps_never)
      pss_nil)
    (pss_one
    (ps_ret (pe_makeVS M FI (hr.mono (by decide)) pass0 (pv 0) (pv 1))))), ?_⟩
    refine ⟨_, rfl, .ref a, .ty "tuple", _, _, true, rfl, .ty _, .base (.tup ha), kit_ty (by decide +kernel), true, rfl, ifF rfl ?_⟩
    dsimp only [tNext]
    refine ⟨_, rfl, rfl, _, rfl, a, pV ps, rfl, .inl (.of ha), fun x dx nx ndx hne => ⟨x, dx, ps, rfl, upd_same, hok, hl, fun H' c' k => ⟨rfl, q H' x (fun b o e => ?_) nx k⟩⟩⟩
    refine c' b o (ne_of_none e nx) ?_
    rw [upd_ne (ne_of_none e nx), upd_ne (ne_of_none e ndx)]
    exact e

end
end K67
set_option Elab.async false
set_option linter.all false
set_option maxRecDepth 100000
set_option maxHeartbeats 4000000
/-! what cutters tell, as data that repr and == see -/
namespace Cut
open PySem PySem.Spec PyProof.Rows L2 Ly
theorem log_small {i : Int} (h : i.natAbs < 2 ^ 1900) : i.natAbs.log2 < 1920 := by
  by_cases h0 : i.natAbs = 0
  · rw [h0]
    decide
  · exact Nat.lt_of_lt_of_le ((Nat.log2_lt h0).mpr h) (by decide)
theorem rpAll_iV {H : Hp} : ∀ l : List Nat, (∀ i ∈ l, i ≤ 2000) → RpAll H (l.map fun (i : Nat) => PyData.int (i : Int)) (iV l)
  | [], _ => rfl
  | i :: l, h => by
    refine ⟨.int i, iV l, rfl, ⟨rfl, log_small ?_⟩, rpAll_iV l fun j hj => h j (List.mem_cons_of_mem _ hj)⟩
    have h1 := h i List.mem_cons_self
    have h2 : (2000 : Nat) < 2 ^ 1900 := by decide +kernel
    rw [Int.natAbs_natCast]
    omega
theorem rp_iV {H : Hp} {q : Addr} {l : List Nat} (e : H q = some (.tup (iV l))) (h : ∀ i ∈ l, i ≤ 2000) : Rp H (dI l) (.ref q) := ⟨q, iV l, rfl, e, rpAll_iV l h⟩
theorem bulk_ints : ∀ l : List Nat, PyData.bulkAll (l.map fun (i : Nat) => PyData.int (i : Int)) = l.length
  | [] => rfl
  | i :: l => by
    show 0 + 1 + PyData.bulkAll (l.map fun (i : Nat) => PyData.int (i : Int)) = l.length + 1
    rw [bulk_ints l]
    omega
theorem bulk_dI (l : List Nat) : (dI l).bulk = l.length := bulk_ints l
theorem depth_dI (l : List Nat) : (dI l).depth = 1 := by
  show PyData.depthAll (l.map fun (i : Nat) => PyData.int (i : Int)) + 1 = 1
  rw [(shp_ints l).2]
/-- the parts as data -/
def dP (ps : List Part) : List PyData := ps.map fun p => PyData.str p.text
theorem rpAll_pV {H : Hp} : ∀ ps : List Part, (∀ p ∈ ps, Ok p) → RpAll H (dP ps) (pV ps)
  | [], _ => rfl
  | p :: ps, h => ⟨.str p.text, pV ps, rfl, ⟨rfl, text_cs (h p List.mem_cons_self)⟩, rpAll_pV ps fun q hq => h q (List.mem_cons_of_mem _ hq)⟩
theorem bulk_dP : ∀ ps : List Part, (∀ p ∈ ps, Ok p) → PyData.bulkAll (dP ps) ≤ 11 * ps.length
  | [], _ => Nat.le_refl _
  | p :: ps, h => by
    have h1 := text_len (h p List.mem_cons_self)
    have h2 := bulk_dP ps fun q hq => h q (List.mem_cons_of_mem _ hq)
    show p.text.cps.size + 1 + PyData.bulkAll (dP ps) ≤ 11 * (ps.length + 1)
    have h3 : p.text.cps.size ≤ 10 := h1
    omega
theorem depth_dP : ∀ ps : List Part, PyData.depthAll (dP ps) = 0
  | [] => rfl
  | p :: ps => by
    show max 0 (PyData.depthAll (dP ps)) = 0
    rw [depth_dP ps]
    rfl
theorem text_pt {p : Part} (h : Ok p) : p.text.cps.all (· < 0x110000) = true := by
  rw [← Array.all_toList, List.all_eq_true]
  intro c hc
  cases p with
  | all =>
    have : ∀ c ∈ (Part.text .all).cps.toList, decide (c < 0x110000) = true := by decide +kernel
    exact this c hc
  | pat f b =>
    rcases (pat_facts h).cs c hc with e | e | e <;> rw [e] <;> decide
theorem canLay_dP : ∀ ps : List Part, (∀ p ∈ ps, Ok p) → PyData.canLayAll0 (dP ps) = true
  | [], _ => rfl
  | p :: ps, h => by
    show (PyData.strOk p.text && PyData.canLayAll0 (dP ps)) = true
    rw [canLay_dP ps fun q hq => h q (List.mem_cons_of_mem _ hq), Bool.and_true]
    exact text_pt (h p List.mem_cons_self)
theorem shp_list {ds : List PyData} (h : PyData.canLayAll0 ds = true) (hd : PyData.depthAll ds = 0) : SeqAt.shaped (.list ds) = true := by
  show (PyData.canLayAll0 ds && decide (PyData.depthAll ds + 1 ≤ 64)) = true
  rw [h, hd]
  rfl
theorem dpAll_pV {K : PySem.W.Frag} {H : Hp} : ∀ ps : List Part, DpAll K H (pV ps) (dP ps)
  | [] => .nil
  | p :: ps => .cons (.str _) (dpAll_pV ps)
theorem eqv_empty (ds : List PyData) : PyData.eqv (.list ds) (.list []) = ds.isEmpty := by cases ds <;> rfl
/-! ### texts of cutters -/
theorem join_len (sep : Str) : ∀ xs : List Str, (Str.join sep xs).length ≤ (xs.map fun x => x.length + sep.length).sum
  | [] => Nat.zero_le _
  | [x] => by
    show x.length ≤ x.length + sep.length + 0
    omega
  | x :: y :: r => by
    have h := join_len sep (y :: r)
    show (x ++ sep ++ Str.join sep (y :: r) : Str).length ≤ _
    rw [← str_len, app_cps, app_cps, List.length_append, List.length_append, str_len, str_len, str_len, List.map_cons, List.sum_cons]
    omega
theorem join_mem (sep : Str) : ∀ (xs : List Str) (c : Nat), c ∈ (Str.join sep xs).cps.toList → c ∈ sep.cps.toList ∨ ∃ x ∈ xs, c ∈ x.cps.toList
  | [], c, h => absurd (show c ∈ ([] : List Nat) from h) List.not_mem_nil
  | [x], c, h => .inr ⟨x, List.mem_cons_self, h⟩
  | x :: y :: r, c, h => by
    have h' : c ∈ (x ++ sep ++ Str.join sep (y :: r) : Str).cps.toList := h
    rw [app_cps, app_cps, List.mem_append, List.mem_append] at h'
    rcases h' with (h' | h') | h'
    · exact .inr ⟨x, List.mem_cons_self, h'⟩
    · exact .inl h'
    · rcases join_mem sep (y :: r) c h' with h' | ⟨z, hz, h'⟩
      · exact .inl h'
      · exact .inr ⟨z, List.mem_cons_of_mem _ hz, h'⟩
theorem cutText_cs {ps : List Part} (h : ∀ p ∈ ps, Ok p) : ∀ c ∈ (cutText ps).cps.toList, c < 16 ^ 8 := by
  intro c hc
  unfold cutText at hc
  by_cases e : ps = []
  · rw [if_pos e] at hc
    have : ∀ c ∈ (Str.ofString "all").cps.toList, c < 16 ^ 8 := by decide +kernel
    exact this c hc
  · rw [if_neg e, show Txt.join " > " (ps.map Part.text) = Str.join " > " (ps.map Part.text) from StrLaws.glued_eq_join _ _] at hc
    rcases join_mem _ _ _ hc with hc | ⟨x, hx, hc⟩
    · have : ∀ c ∈ (Str.ofString " > ").cps.toList, c < 16 ^ 8 := by decide +kernel
      exact this c hc
    · obtain ⟨p, hp, rfl⟩ := List.mem_map.mp hx
      exact text_cs (h p hp) c hc
theorem cutText_len {ps : List Part} (h : ∀ p ∈ ps, Ok p) (hl : ps.length ≤ 4) : (cutText ps).length ≤ 60 := by
  unfold cutText
  by_cases e : ps = []
  · rw [if_pos e]
    decide +kernel
  · rw [if_neg e, show Txt.join " > " (ps.map Part.text) = Str.join " > " (ps.map Part.text) from StrLaws.glued_eq_join _ _]
    refine Nat.le_trans (join_len _ _) ?_
    have e3 : (Str.ofString " > ").length = 3 := by decide +kernel
    have hb : ∀ l : List Part, (∀ p ∈ l, Ok p) → ((l.map Part.text).map fun x => x.length + 3).sum ≤ 13 * l.length := by
      intro l
      induction l with
      | nil => intro _; exact Nat.le_refl _
      | cons a l ih =>
        intro h
        have h1 := text_len (h a List.mem_cons_self)
        have h2 := ih fun p hp => h p (List.mem_cons_of_mem _ hp)
        rw [List.map_cons, List.map_cons, List.sum_cons, List.length_cons]
        omega
    have := hb ps h
    show ((ps.map Part.text).map fun x => x.length + (Str.ofString " > ").length).sum ≤ 60
    rw [e3]
    omega
theorem join_size {ps : List Part} (h : ∀ p ∈ ps, Ok p) (hl : ps.length ≤ 4) : ((ps.map Part.text).map fun x => x.length).sum + (ps.map Part.text).length * (Str.ofString " > ").length ≤ 16777216 := by
  have hb : ∀ l : List Part, (∀ p ∈ l, Ok p) → ((l.map Part.text).map fun x => x.length).sum ≤ 10 * l.length := by
    intro l
    induction l with
    | nil => intro _; exact Nat.le_refl _
    | cons a l ih =>
      intro h
      have h1 := text_len (h a List.mem_cons_self)
      have h2 := ih fun p hp => h p (List.mem_cons_of_mem _ hp)
      rw [List.map_cons, List.map_cons, List.sum_cons, List.length_cons]
      omega
  have h1 := hb ps h
  have e3 : (Str.ofString " > ").length = 3 := by decide +kernel
  rw [List.length_map, e3]
  omega
/-! ### rows of small data -/
theorem rpAll_append {H : Hp} : ∀ {ds : List PyData} {xs : List V} {es : List PyData} {ys : List V}, RpAll H ds xs → RpAll H es ys → RpAll H (ds ++ es) (xs ++ ys)
  | [], xs, es, ys, h, k => by
    have h' : xs = [] := h
    subst h'
    exact k
  | d :: ds, xs, es, ys, h, k => by
    obtain ⟨x, r, rfl, h1, h2⟩ := (show ∃ x r, xs = x :: r ∧ Rp H d x ∧ RpAll H ds r from h)
    exact ⟨x, r ++ ys, rfl, h1, rpAll_append h2 k⟩
theorem rpAll_len {H : Hp} : ∀ {ds : List PyData} {xs : List V}, RpAll H ds xs → ds.length = xs.length
  | [], xs, h => by
    have h' : xs = [] := h
    subst h'
    rfl
  | d :: ds, xs, h => by
    obtain ⟨x, r, rfl, h1, h2⟩ := (show ∃ x r, xs = x :: r ∧ Rp H d x ∧ RpAll H ds r from h)
    rw [List.length_cons, List.length_cons, rpAll_len h2]
theorem rpAll_get {H : Hp} : ∀ {ds : List PyData} {xs : List V} (i : Nat), RpAll H ds xs → (∃ d x, ds[i]? = some d ∧ xs[i]? = some x ∧ Rp H d x) ∨ (ds[i]? = none ∧ xs[i]? = none)
  | [], xs, i, h => by
    have h' : xs = [] := h
    subst h'
    exact .inr ⟨rfl, rfl⟩
  | d :: ds, xs, i, h => by
    obtain ⟨x, r, rfl, h1, h2⟩ := (show ∃ x r, xs = x :: r ∧ Rp H d x ∧ RpAll H ds r from h)
    cases i with
    | zero => exact .inl ⟨d, x, rfl, rfl, h1⟩
    | succ i => exact rpAll_get i h2
theorem rpAll_sel {H : Hp} {ds : List PyData} {xs : List V} (h : RpAll H ds xs) : ∀ l : List Nat, RpAll H (l.filterMap fun i => ds[i]?) (l.filterMap fun i => xs[i]?)
  | [] => rfl
  | i :: l => by
    rw [List.filterMap_cons, List.filterMap_cons]
    rcases rpAll_get i h with ⟨d, x, e1, e2, h1⟩ | ⟨e1, e2⟩
    · rw [e1, e2]
      exact ⟨x, _, rfl, h1, rpAll_sel h l⟩
    · rw [e1, e2]
      exact rpAll_sel h l
theorem rpAll_run {H : Hp} {ds : List PyData} {xs : List V} (ps : List Part) (h : RpAll H ds xs) : RpAll H (run ps ds) (run ps xs) := by
  rw [run_get, run_get, rpAll_len h]
  exact rpAll_sel h _
/-- small data -/
def Sm (ds : List PyData) : Prop := ∀ e ∈ ds, e.bulk ≤ 3 ∧ e.depth ≤ 1
theorem Sm.bulk : ∀ {ds : List PyData}, Sm ds → PyData.bulkAll ds ≤ 4 * ds.length
  | [], _ => Nat.le_refl _
  | d :: ds, h => by
    have h1 := (h d List.mem_cons_self).1
    have h2 := Sm.bulk fun e he => h e (List.mem_cons_of_mem _ he)
    show d.bulk + 1 + PyData.bulkAll ds ≤ 4 * (ds.length + 1)
    omega
theorem Sm.depth : ∀ {ds : List PyData}, Sm ds → PyData.depthAll ds ≤ 1
  | [], _ => Nat.zero_le _
  | d :: ds, h => by
    have h1 := (h d List.mem_cons_self).2
    have h2 := Sm.depth fun e he => h e (List.mem_cons_of_mem _ he)
    show max d.depth (PyData.depthAll ds) ≤ 1
    omega
theorem Sm.run {ds : List PyData} (h : Sm ds) (ps : List Part) : Sm (run ps ds) := fun e he => h e (run_sub ps ds e he)
/-- a row of small data, whatever the dice do -/
def RowD (d : Addr) (H : Hp) (xs : List V) (ds : List PyData) : Prop := Sm ds ∧ ∀ H', Chg d H H' → RpAll H' ds xs
theorem RowD.mono {d : Addr} {H H1 : Hp} {xs : List V} {ds : List PyData} (h : RowD d H xs ds) (c : Chg d H H1) : RowD d H1 xs ds := ⟨h.1, fun H' c' => h.2 H' (c.trans c')⟩
theorem RowD.snoc {d : Addr} {H : Hp} {xs : List V} {ds : List PyData} {x : V} {e : PyData} (h : RowD d H xs ds) (hb : e.bulk ≤ 3) (hd : e.depth ≤ 1) (k : ∀ H', Chg d H H' → Rp H' e x) : RowD d H (xs ++ [x]) (ds ++ [e]) := by
  refine ⟨fun y hy => ?_, fun H' c => rpAll_append (h.2 H' c) ⟨x, [], rfl, k H' c, rfl⟩⟩
  rcases List.mem_append.mp hy with hy | hy
  · exact h.1 y hy
  · rw [List.mem_singleton.mp hy]
    exact ⟨hb, hd⟩
/-- .. and whatever the list does in which the row is gathered -/
def Chg2 (d L : Addr) (H H' : Hp) : Prop := ∀ b o, b ≠ d → b ≠ L → H b = some o → H' b = some o
theorem Chg2.trans {d L : Addr} {H H1 H2 : Hp} (a : Chg2 d L H H1) (b : Chg2 d L H1 H2) : Chg2 d L H H2 := fun x o n m h => b x o n m (a x o n m h)
theorem Chg2.of {d L : Addr} {H H' : Hp} (c : Chg d H H') : Chg2 d L H H' := fun x o n _ h => c x o n h
theorem Chg2.upd {d L : Addr} {H H' : Hp} {o : HO} (c : Chg2 d L H H') : Chg2 d L H (L2.upd H' L o) := fun x u n m h => by
  rw [upd_ne m]
  exact c x u n m h
def RowL (d L : Addr) (H : Hp) (xs : List V) (ds : List PyData) : Prop := Sm ds ∧ ∀ H', Chg2 d L H H' → RpAll H' ds xs
theorem RowL.row {d L : Addr} {H : Hp} {xs : List V} {ds : List PyData} (h : RowL d L H xs ds) : RowD d H xs ds := ⟨h.1, fun H' c => h.2 H' (.of c)⟩
theorem RowL.mono {d L : Addr} {H H1 : Hp} {xs : List V} {ds : List PyData} (h : RowL d L H xs ds) (c : Chg2 d L H H1) : RowL d L H1 xs ds := ⟨h.1, fun H' c' => h.2 H' (c.trans c')⟩
theorem RowL.snoc {d L : Addr} {H : Hp} {xs : List V} {ds : List PyData} {x : V} {e : PyData} (h : RowL d L H xs ds) (hb : e.bulk ≤ 3) (hd : e.depth ≤ 1) (k : ∀ H', Chg2 d L H H' → Rp H' e x) : RowL d L H (xs ++ [x]) (ds ++ [e]) := by
  refine ⟨fun y hy => ?_, fun H' c => rpAll_append (h.2 H' c) ⟨x, [], rfl, k H' c, rfl⟩⟩
  rcases List.mem_append.mp hy with hy | hy
  · exact h.1 y hy
  · rw [List.mem_singleton.mp hy]
    exact ⟨hb, hd⟩
/-- the parts that are not all -/
theorem noAll (ps : List Part) : (ps.filter fun p => !decide (p = .all)).isEmpty = keepsAll ps := by
  induction ps with
  | nil => rfl
  | cons p ps ih =>
    show _ = (decide (p = .all) && keepsAll ps)
    rw [List.filter_cons]
    by_cases h : p = .all
    · rw [decide_eq_true h, Bool.true_and, ← ih]
      rfl
    · rw [decide_eq_false h, Bool.false_and]
      rfl
theorem places_zero (ps : List Part) : places ps 0 = [] := List.eq_nil_of_length_eq_zero (Nat.le_zero.mp (places_len ps 0))
theorem places_one (ps : List Part) : places ps 1 = [] ∨ places ps 1 = [0] := by
  have hl := places_len ps 1
  have hlt := fun i (h : i ∈ places ps 1) => places_lt h
  generalize places ps 1 = l at hl hlt
  match l, hl, hlt with
  | [], _, _ => exact .inl rfl
  | [i], _, hlt =>
    have := hlt i List.mem_cons_self
    have e : i = 0 := by omega
    subst e
    exact .inr rfl
  | _ :: _ :: _, hl, _ =>
    simp only [List.length_cons] at hl
    omega
end Cut

set_option Elab.async false
set_option linter.all false
set_option maxRecDepth 100000
set_option maxHeartbeats 4000000
/-! texts split and parted at signs that stand nowhere else -/
namespace Lw
open PySem PySem.StrLaws PySem.Builtin PySem.Builtin.Str
/-- at k in the text stands what is looked for: its sign at j is there -/
theorem at_sign {x y : Str} {hi k j c : Nat} (h : At x y hi k) (hj : y.cps.toList[j]? = some c) : x.cps.toList[k + j]? = some c := by
  have e := h.2
  rw [subAt_eq] at e
  have e2 := eq_of_beq e
  have hjl : j < y.length := by
    have := (List.getElem?_eq_some_iff.mp hj).1
    simpa [Str.length] using this
  rw [← e2, List.getElem?_take_of_lt hjl, List.getElem?_drop] at hj
  exact hj
theorem at_of {x y : Str} {k : Nat} {a b : List Nat} (h : x.cps.toList = a ++ y.cps.toList ++ b) (hk : k = a.length) : At x y x.length k := by
  subst hk
  have hl : x.length = (a ++ y.cps.toList ++ b).length := by rw [← h]; simp [Str.length]
  have hy : y.cps.toList.length = y.length := by simp [Str.length]
  refine ⟨?_, ?_⟩
  · rw [hl, List.length_append, List.length_append, hy]
    omega
  · rw [subAt_eq, h, List.append_assoc, List.drop_left, List.take_left' hy]
    exact beq_self_eq_true _
/-- the sign c stands in y at j, not before; and nowhere in p -/
structure Sep (y : Str) (j c : Nat) : Prop where
  at_ : y.cps.toList[j]? = some c
  bef : ∀ i, i < j → y.cps.toList[i]? ≠ some c
theorem Sep.pos {y : Str} {j c : Nat} (s : Sep y j c) : 1 ≤ y.length := by
  have := (List.getElem?_eq_some_iff.mp s.at_).1
  have hy : y.cps.toList.length = y.length := by simp [Str.length]
  omega
theorem not_in {x y : Str} {j c : Nat} (s : Sep y j c) {a p b : List Nat} (h : x.cps.toList = a ++ p ++ b) (hb : b = [] ∨ ∃ b', b = y.cps.toList ++ b') (hp : c ∉ p) {k : Nat} (h1 : a.length ≤ k) (h2 : k < a.length + p.length ∨ b = []) : ¬ At x y x.length k := by
  intro hA
  have e := at_sign hA s.at_
  have hl := (List.getElem?_eq_some_iff.mp e).1
  rw [h, List.append_assoc, List.getElem?_append_right (by omega)] at e
  by_cases hk : k + j - a.length < p.length
  · rw [List.getElem?_append_left hk] at e
    exact hp (List.mem_of_getElem? e)
  · rw [List.getElem?_append_right (by omega)] at e
    rcases hb with rfl | ⟨b', rfl⟩
    · simp at e
    · rcases h2 with h2 | h2
      · have hj : k + j - a.length - p.length < j := by omega
        have hjl : j < y.cps.toList.length := (List.getElem?_eq_some_iff.mp s.at_).1
        rw [List.getElem?_append_left (by omega)] at e
        exact s.bef _ hj e
      · have h3 := congrArg List.length h2
        have hjl : j < y.cps.toList.length := (List.getElem?_eq_some_iff.mp s.at_).1
        rw [List.length_append, List.length_nil] at h3
        omega
/-- texts with y between -/
def gl (y : List Nat) : List (List Nat) → List Nat
  | [] => []
  | [p] => p
  | p :: q :: r => p ++ y ++ gl y (q :: r)
def cuts (w : Nat) : Nat → List (List Nat) → List Nat
  | _, [] => []
  | _, [_] => []
  | a, p :: q :: r => (a + p.length) :: cuts w (a + p.length + w) (q :: r)
theorem len_cps (x : Str) : x.cps.toList.length = x.length := by simp [Str.length]
theorem chain_gl {x y : Str} {j c : Nat} (s : Sep y j c) : ∀ (ps : List (List Nat)) (a : List Nat), ps ≠ [] → x.cps.toList = a ++ gl y.cps.toList ps → (∀ p ∈ ps, c ∉ p) →
    ∃ f, ChainG x y x.length a.length (cuts y.length a.length ps) f ∧ (∀ k, f ≤ k → ¬ At x y x.length k) ∧ partsFrom x y.length a.length (cuts y.length a.length ps) = ps.map fun p => (⟨p.toArray⟩ : Str)
  | [], _, h, _, _ => absurd rfl h
  | [p], a, _, h, hp => by
    refine ⟨a.length, rfl, fun k hk => not_in s (a := a) (p := p) (b := []) (by rw [List.append_nil]; exact h) (.inl rfl) (hp p List.mem_cons_self) hk (.inr rfl), ?_⟩
    show [strSub x a.length x.length] = [(⟨p.toArray⟩ : Str)]
    refine congrArg (fun z => [z]) ?_
    apply Str.ext'
    apply Array.toList_inj.mp
    rw [strSub_toList, h]
    show ((a ++ p).drop a.length).take _ = p.toArray.toList
    have hl : x.length = a.length + p.length := by rw [← len_cps, h]; show (a ++ p).length = _; rw [List.length_append]
    rw [List.drop_left, List.take_of_length_le (by omega)]
  | p :: q :: r, a, _, h, hp => by
    have h' : x.cps.toList = a ++ p ++ (y.cps.toList ++ gl y.cps.toList (q :: r)) := by
      rw [h]
      show a ++ (p ++ y.cps.toList ++ gl y.cps.toList (q :: r)) = _
      simp only [List.append_assoc]
    have e2 : (a ++ p ++ y.cps.toList).length = a.length + p.length + y.length := by rw [List.length_append, List.length_append, len_cps]
    obtain ⟨f, k1, k2, k3⟩ := chain_gl s (q :: r) (a ++ p ++ y.cps.toList) (by intro z; cases z) (by rw [h']; simp only [List.append_assoc]) (fun z hz => hp z (List.mem_cons_of_mem _ hz))
    rw [e2] at k1 k3
    refine ⟨f, ⟨by omega, ?_, fun k h1 h2 => ?_, k1⟩, k2, ?_⟩
    · exact at_of (a := a ++ p) (b := gl y.cps.toList (q :: r)) (by rw [h']; simp only [List.append_assoc]) (by rw [List.length_append])
    · exact not_in s h' (.inr ⟨_, rfl⟩) (hp p List.mem_cons_self) h1 (.inl h2)
    · show strSub x a.length (a.length + p.length) :: partsFrom x y.length (a.length + p.length + y.length) (cuts y.length (a.length + p.length + y.length) (q :: r)) = _
      rw [k3]
      refine congrArg (· :: _) ?_
      apply Str.ext'
      apply Array.toList_inj.mp
      rw [strSub_toList, h', List.append_assoc, List.drop_left]
      show List.take (a.length + p.length - a.length) _ = p
      rw [Nat.add_sub_cancel_left, List.take_left' rfl]
theorem chain_uniq {x y : Str} {hi : Nat} : ∀ {l m : List Nat} {a f g : Nat}, ChainG x y hi a l f → (∀ k, f ≤ k → ¬ At x y hi k) → ChainG x y hi a m g → (∀ k, g ≤ k → ¬ At x y hi k) → l = m
  | [], [], _, _, _, _, _, _, _ => rfl
  | [], c :: r, a, f, g, h1, n1, h2, n2 => by
    have e : f = a := h1
    subst e
    exact absurd h2.2.1 (n1 c h2.1)
  | c :: r, [], a, f, g, h1, n1, h2, n2 => by
    have e : g = a := h2
    subst e
    exact absurd h1.2.1 (n2 c h1.1)
  | c :: r, d :: t, a, f, g, h1, n1, h2, n2 => by
    have e : c = d := by
      rcases Nat.lt_trichotomy c d with h | h | h
      · exact absurd h1.2.1 (h2.2.2.1 c h1.1 h)
      · exact h
      · exact absurd h2.2.1 (h1.2.2.1 d h2.1 h)
    subst e
    rw [chain_uniq h1.2.2.2 n1 h2.2.2.2 n2]
theorem kind_pos (x : Str) : 1 ≤ PySem.Builtin.Str.strKind x := by
  unfold PySem.Builtin.Str.strKind
  split
  · decide
  · split <;> decide
/-- split gives back the texts -/
theorem split_gl {x y : Str} {j c : Nat} (s : Sep y j c) (hk : PySem.Builtin.Str.strKind y = 1) {ps : List (List Nat)} (hne : ps ≠ []) (h : x.cps.toList = gl y.cps.toList ps) (hp : ∀ p ∈ ps, c ∉ p) : Txt.split x y = ps.map fun p => (⟨p.toArray⟩ : Str) := by
  obtain ⟨f, k1, k2, k3⟩ := chain_gl (x := x) s ps [] hne (by rw [List.nil_append]; exact h) hp
  obtain ⟨g, m1, m2⟩ := occ_tight x y s.pos
  have e := chain_uniq m1 m2 k1 k2
  have hx : ps.length = 1 → x = ⟨(ps.headD []).toArray⟩ := fun hl => by
    match ps, hl with
    | [p], _ =>
      apply Str.ext'
      apply Array.toList_inj.mp
      rw [h]
      rfl
  have one : cuts y.length 0 ps = [] → [x] = ps.map fun p => (⟨p.toArray⟩ : Str) := fun hc => by
    match ps, hne, hc, hx with
    | [p], _, _, hx =>
      show [x] = [_]
      exact congrArg (fun z => [z]) (hx rfl)
    | p :: q :: r, _, hc, _ => cases hc
  unfold Txt.split
  rw [e]
  show (if _ then [x] else if (cuts y.length 0 ps).isEmpty = true then [x] else partsBetween x (cuts y.length 0 ps) y.length) = _
  by_cases hc : cuts y.length 0 ps = []
  · rw [if_pos (show (cuts y.length 0 ps).isEmpty = true by rw [hc]; rfl), ite_self]
    exact one hc
  · have h1 : (decide (x.length < y.length) || decide (PySem.Builtin.Str.strKind x < PySem.Builtin.Str.strKind y)) = false := by
      rw [hk, decide_eq_false (show ¬ PySem.Builtin.Str.strKind x < 1 by have := kind_pos x; omega), Bool.or_false]
      refine decide_eq_false fun hlt => ?_
      match hcz : cuts y.length 0 ps, hc with
      | d :: t, _ =>
        have k1' := k1
        rw [show ([] : List Nat).length = 0 from rfl, hcz] at k1'
        have := k1'.2.1.1
        omega
    rw [h1, if_neg (by decide), if_neg (by rw [List.isEmpty_iff]; exact hc), partsBetween_eq]
    exact k3
/-- partition at the first such place -/
theorem part_gl {x y : Str} {j c : Nat} (s : Sep y j c) {p q : List Nat} (h : x.cps.toList = p ++ y.cps.toList ++ q) (hp : c ∉ p) : Txt.partition x y = (⟨p.toArray⟩, y, ⟨q.toArray⟩) := by
  have hA : At x y x.length p.length := at_of h rfl
  have hn : ∀ k, k < p.length → ¬ At x y x.length k := fun k hk => not_in s (a := []) (p := p) (b := y.cps.toList ++ q) (by rw [h]; simp) (.inr ⟨_, rfl⟩) hp (Nat.zero_le _) (.inl (by simpa using hk))
  have hlen : x.length = p.length + y.length + q.length := by
    rw [← len_cps, h, List.length_append, List.length_append, len_cps]
  have key : ∃ r, occurrences x y 0 x.length 1 = p.length :: r := by
    rw [occ_eq]
    rcases occ_first x y x.length 1 (Nat.le_refl 1) (List.range' 0 (x.length + 1 - 0)) 0 (fun i _ => Nat.zero_le i) with ⟨_, h2⟩ | ⟨pre, a, post, e1, e2, e3, e4⟩
    · exact absurd hA (h2 p.length (by rw [List.mem_range'_1]; omega))
    · have ea : a = p.length := by
        rcases Nat.lt_trichotomy a p.length with h3 | h3 | h3
        · exact absurd e3 (hn a h3)
        · exact h3
        · refine absurd hA (e4 p.length ?_)
          have hpre : pre.length = a := by
            have h5 : (List.range' 0 (x.length + 1 - 0))[pre.length]? = some a := by rw [e1, List.getElem?_append_right (Nat.le_refl _), Nat.sub_self]; rfl
            rw [List.getElem?_range' (by
              have := congrArg List.length e1
              simp at this
              omega)] at h5
            simp at h5
            exact h5
          have h6 : (List.range' 0 (x.length + 1 - 0))[p.length]? = some p.length := by rw [List.getElem?_range' (by omega)]; simp
          rw [e1, List.getElem?_append_left (by omega)] at h6
          exact List.mem_of_getElem? h6
      subst ea
      refine ⟨((forIn (List.range' 0 (x.length + 1 - 0)) ((#[] : Array Nat), 0) (occBody x y x.length 1)).run.fst.toList).tail, ?_⟩
      match hz : (forIn (List.range' 0 (x.length + 1 - 0)) ((#[] : Array Nat), 0) (occBody x y x.length 1)).run.fst.toList with
      | [] =>
        rw [← Array.getElem?_toList, hz] at e2
        cases e2
      | d :: t =>
        rw [← Array.getElem?_toList, hz] at e2
        have : d = p.length := Option.some.inj e2
        rw [this]
        rfl
  obtain ⟨r, hr⟩ := key
  unfold Txt.partition
  rw [hr]
  show (strSub x 0 p.length, y, strSub x (p.length + y.length) x.length) = _
  have e1 : strSub x 0 p.length = ⟨p.toArray⟩ := by
    apply Str.ext'
    apply Array.toList_inj.mp
    rw [strSub_toList, h]
    simp
  have e2 : strSub x (p.length + y.length) x.length = ⟨q.toArray⟩ := by
    apply Str.ext'
    apply Array.toList_inj.mp
    rw [strSub_toList, h]
    have : (p ++ y.cps.toList).length = p.length + y.length := by rw [List.length_append, len_cps]
    rw [← this, List.drop_left, List.take_of_length_le]
    rw [hlen, List.length_append, len_cps]
    omega
  rw [e1, e2]
end Lw

set_option Elab.async false
set_option linter.all false
set_option maxRecDepth 100000
set_option maxHeartbeats 4000000
/-! texts of cutters, rules and turns: what they are split into -/
namespace Cut
open PySem PySem.Spec PyProof.Rows L2 Ly Lw
theorem part_cs {p : Part} (h : Ok p) : ∀ c ∈ p.text.cps.toList, c = 43 ∨ c = 45 ∨ c = 46 ∨ c = 97 ∨ c = 108 := by
  cases p with
  | all => decide +kernel
  | pat f b =>
    intro c hc
    rcases (pat_facts h).cs c hc with e | e | e
    · exact .inl e
    · exact .inr (.inl e)
    · exact .inr (.inr (.inl e))
/-- the parts that a text says -/
def rd (ps : List Part) : List Part := if ps = [] then [.all] else ps
theorem rd_ne (ps : List Part) : rd ps ≠ [] := by
  unfold rd
  by_cases e : ps = []
  · rw [if_pos e]
    intro z
    cases z
  · rw [if_neg e]
    exact e
theorem rd_ok {ps : List Part} (h : ∀ p ∈ ps, Ok p) : ∀ p ∈ rd ps, Ok p := by
  unfold rd
  by_cases e : ps = []
  · rw [if_pos e]
    intro p hp
    rw [List.mem_singleton.mp hp]
    exact trivial
  · rw [if_neg e]
    exact h
theorem rd_len {ps : List Part} {n : Nat} (h : ps.length ≤ n) (h1 : 1 ≤ n) : (rd ps).length ≤ n := by
  unfold rd
  by_cases e : ps = []
  · rw [if_pos e]
    exact h1
  · rw [if_neg e]
    exact h
theorem rd_text (ps : List Part) : cutText (rd ps) = cutText ps := by
  unfold rd
  by_cases e : ps = []
  · rw [if_pos e, e]
    decide +kernel
  · rw [if_neg e]
theorem places_all (n : Nat) : places [.all] n = places [] n := run_all [.all] _ rfl
theorem join_gl (y : Str) : ∀ ys : List Str, (Str.join y ys).cps.toList = gl y.cps.toList (ys.map fun z => z.cps.toList)
  | [] => rfl
  | [x] => rfl
  | x :: z :: r => by
    show ((x ++ y ++ Str.join y (z :: r)) : Str).cps.toList = _
    rw [app_cps, app_cps, join_gl y (z :: r)]
    rfl
theorem txt_gl (y : Str) (ys : List Str) : (Txt.join y ys).cps.toList = gl y.cps.toList (ys.map fun z => z.cps.toList) := by
  rw [show Txt.join y ys = Str.join y ys from StrLaws.glued_eq_join _ _, join_gl]
theorem cutText_gl (ps : List Part) : (cutText ps).cps.toList = gl (Str.ofString " > ").cps.toList ((rd ps).map fun p => p.text.cps.toList) := by
  unfold cutText rd
  by_cases e : ps = []
  · rw [if_pos e, if_pos e]
    decide +kernel
  · rw [if_neg e, if_neg e, txt_gl, List.map_map]
    rfl
theorem str_of (z : Str) : (⟨z.cps.toList.toArray⟩ : Str) = z := rfl
theorem sep1 {y : Str} {a c d : Nat} (h : y.cps.toList = [a, c, d]) (n : a ≠ c) : Sep y 1 c := ⟨by rw [h]; rfl, fun i hi => by
  have : i = 0 := by omega
  subst this
  rw [h]
  intro z
  exact n (Option.some.inj z)⟩
theorem sep0 {y : Str} {c : Nat} (h : y.cps.toList = [c]) : Sep y 0 c := ⟨by rw [h]; rfl, fun i hi => by omega⟩
theorem split_cut {ps : List Part} (h : ∀ p ∈ ps, Ok p) : Txt.split (cutText ps) " > " = (rd ps).map Part.text := by
  have e := split_gl (x := cutText ps) (y := " > ") (sep1 (a := 32) (c := 62) (d := 32) (by decide +kernel) (by decide)) (by decide +kernel) (ps := (rd ps).map fun p => p.text.cps.toList) (fun z => rd_ne ps (List.map_eq_nil_iff.mp z)) (cutText_gl ps) (fun l hl => ?_)
  · rw [e, List.map_map]
    rfl
  · obtain ⟨p, hp, rfl⟩ := List.mem_map.mp hl
    intro hc
    rcases part_cs (rd_ok h p hp) _ hc with e | e | e | e | e <;> exact absurd e (by decide)
theorem gl_mem {y : List Nat} {c : Nat} : ∀ {ls : List (List Nat)}, c ∈ gl y ls → c ∈ y ∨ ∃ l ∈ ls, c ∈ l
  | [], h => by cases h
  | [p], h => .inr ⟨p, List.mem_cons_self, h⟩
  | p :: q :: r, h => by
    rcases List.mem_append.mp h with h | h
    · rcases List.mem_append.mp h with h | h
      · exact .inr ⟨p, List.mem_cons_self, h⟩
      · exact .inl h
    · rcases gl_mem (ls := q :: r) h with h | ⟨l, hl, h⟩
      · exact .inl h
      · exact .inr ⟨l, List.mem_cons_of_mem _ hl, h⟩
theorem cutText_signs {ps : List Part} (h : ∀ p ∈ ps, Ok p) : ∀ c ∈ (cutText ps).cps.toList, c = 32 ∨ c = 62 ∨ c = 43 ∨ c = 45 ∨ c = 46 ∨ c = 97 ∨ c = 108 := by
  intro c hc
  rw [cutText_gl] at hc
  rcases gl_mem hc with hc | ⟨l, hl, hc⟩
  · have : ∀ c ∈ (Str.ofString " > ").cps.toList, c = 32 ∨ c = 62 ∨ c = 43 ∨ c = 45 ∨ c = 46 ∨ c = 97 ∨ c = 108 := by decide +kernel
    exact this c hc
  · obtain ⟨p, hp, rfl⟩ := List.mem_map.mp hl
    exact .inr (.inr (part_cs (rd_ok h p hp) c hc))
theorem join_size8 {ps : List Part} (h : ∀ p ∈ ps, Ok p) (hl : ps.length ≤ 8) : ((ps.map Part.text).map fun x => x.length).sum + (ps.map Part.text).length * (Str.ofString " > ").length ≤ 16777216 := by
  have hb : ∀ l : List Part, (∀ p ∈ l, Ok p) → ((l.map Part.text).map fun x => x.length).sum ≤ 10 * l.length := by
    intro l
    induction l with
    | nil => intro _; exact Nat.le_refl _
    | cons a l ih =>
      intro h
      have h1 := text_len (h a List.mem_cons_self)
      have h2 := ih fun p hp => h p (List.mem_cons_of_mem _ hp)
      rw [List.map_cons, List.map_cons, List.sum_cons, List.length_cons]
      omega
  have h1 := hb ps h
  have e3 : (Str.ofString " > ").length = 3 := by decide +kernel
  rw [List.length_map, e3]
  omega
theorem gl_len (y : List Nat) {m : Nat} : ∀ {ls : List (List Nat)}, (∀ l ∈ ls, l.length ≤ m) → (gl y ls).length ≤ (m + y.length) * ls.length
  | [], _ => Nat.zero_le _
  | [p], h => by
    have := h p List.mem_cons_self
    show p.length ≤ (m + y.length) * 1
    omega
  | p :: q :: r, h => by
    have h1 := h p List.mem_cons_self
    have h2 := gl_len y (ls := q :: r) fun l hl => h l (List.mem_cons_of_mem _ hl)
    show (p ++ y ++ gl y (q :: r)).length ≤ (m + y.length) * ((q :: r).length + 1)
    rw [List.length_append, List.length_append, Nat.mul_succ]
    omega
theorem cutText_len8 {ps : List Part} (h : ∀ p ∈ ps, Ok p) (hl : ps.length ≤ 8) : (cutText ps).length ≤ 104 := by
  rw [← str_len, cutText_gl]
  have h2 := rd_len hl (by decide)
  have h3 : (Str.ofString " > ").cps.toList.length = 3 := by decide +kernel
  refine Nat.le_trans (gl_len _ (m := 10) fun l hl => ?_) ?_
  · obtain ⟨p, hp, rfl⟩ := List.mem_map.mp hl
    rw [str_len]
    exact text_len (rd_ok h p hp)
  · rw [h3, List.length_map]
    omega
/-- a text of one line -/
def Line (z : Str) : Prop := 10 ∉ z.cps.toList ∧ z.length ≤ 500
theorem Line.split {z : Str} (h : Line z) : Txt.split z "\n" = [z] := split_gl (x := z) (y := "\n") (sep0 (c := 10) (by decide +kernel)) (by decide +kernel) (ps := [z.cps.toList]) (by intro e; cases e) rfl (fun l hl => by rw [List.mem_singleton.mp hl]; exact h.1)
theorem cut_line {ps : List Part} (h : ∀ p ∈ ps, Ok p) (hl : ps.length ≤ 8) : Line (cutText ps) := ⟨fun hc => by
  rcases cutText_signs h _ hc with e | e | e | e | e | e | e <;> exact absurd e (by decide), Nat.le_trans (cutText_len8 h hl) (by decide)⟩
/-! ### rules -/
def ruleW (b : Bool) : Str := if b then "sees" else "skips"
def ruleText (ps : List Part) (b : Bool) : Str := ruleW b ++ " " ++ cutText ps
theorem rule_cps (ps : List Part) (b : Bool) : (ruleText ps b).cps.toList = (ruleW b).cps.toList ++ (Str.ofString " ").cps.toList ++ (cutText ps).cps.toList := by
  unfold ruleText
  rw [app_cps, app_cps]
theorem rule_part (ps : List Part) (b : Bool) : Txt.partition (ruleText ps b) " " = (ruleW b, (" " : Str), cutText ps) := by
  refine part_gl (x := ruleText ps b) (y := " ") (sep0 (c := 32) (by decide +kernel)) (p := (ruleW b).cps.toList) (q := (cutText ps).cps.toList) (rule_cps ps b) ?_
  cases b <;> decide +kernel
theorem rule_line {ps : List Part} (h : ∀ p ∈ ps, Ok p) (hl : ps.length ≤ 8) (b : Bool) : Line (ruleText ps b) := by
  constructor
  · rw [rule_cps]
    intro hc
    rcases List.mem_append.mp hc with hc | hc
    · revert hc
      cases b <;> decide +kernel
    · exact (cut_line h hl).1 hc
  · have e := cutText_len8 h hl
    rw [← str_len, rule_cps, List.length_append, str_len]
    have : ((ruleW b).cps.toList ++ (Str.ofString " ").cps.toList).length ≤ 6 := by cases b <;> decide +kernel
    omega
theorem rule_law (ps : List Part) (b : Bool) : (if b then (Str.ofString "sees ") else (Str.ofString "skips ")) ++ cutText ps = ruleText ps b := by
  unfold ruleText
  have : ruleW b ++ " " = (if b then (Str.ofString "sees ") else (Str.ofString "skips ")) := by cases b <;> decide +kernel
  rw [this]
/-! ### turns -/
def turnW (b : Bool) : Str := if b then "adds" else "hides"
def turnText (ps : List Part) (b : Bool) (qs : List Part) : Str := Txt.join " | " [cutText ps, turnW b, cutText qs]
theorem turn_gl (ps qs : List Part) (b : Bool) : (turnText ps b qs).cps.toList = gl (Str.ofString " | ").cps.toList [(cutText ps).cps.toList, (turnW b).cps.toList, (cutText qs).cps.toList] := by
  unfold turnText
  rw [txt_gl]
  rfl
theorem cut_bar {ps : List Part} (h : ∀ p ∈ ps, Ok p) : 124 ∉ (cutText ps).cps.toList := fun hc => by
  rcases cutText_signs h _ hc with e | e | e | e | e | e | e <;> exact absurd e (by decide)
theorem turn_split {ps qs : List Part} (h : ∀ p ∈ ps, Ok p) (h' : ∀ p ∈ qs, Ok p) (b : Bool) : Txt.split (turnText ps b qs) " | " = [cutText ps, turnW b, cutText qs] := by
  have e := split_gl (x := turnText ps b qs) (y := " | ") (sep1 (a := 32) (c := 124) (d := 32) (by decide +kernel) (by decide)) (by decide +kernel) (ps := [(cutText ps).cps.toList, (turnW b).cps.toList, (cutText qs).cps.toList]) (by intro z; cases z) (turn_gl ps qs b) (fun l hl => ?_)
  · rw [e]
    rfl
  · simp only [List.mem_cons, List.not_mem_nil, or_false] at hl
    rcases hl with rfl | rfl | rfl
    · exact cut_bar h
    · cases b <;> decide +kernel
    · exact cut_bar h'
theorem turn_line {ps qs : List Part} (h : ∀ p ∈ ps, Ok p) (hl : ps.length ≤ 8) (h' : ∀ p ∈ qs, Ok p) (hl' : qs.length ≤ 8) (b : Bool) : Line (turnText ps b qs) := by
  have l1 := cut_line h hl
  have l2 := cut_line h' hl'
  have n1 := cutText_len8 h hl
  have n2 := cutText_len8 h' hl'
  constructor
  · rw [turn_gl]
    intro hc
    rcases gl_mem hc with hc | ⟨l, hl, hc⟩
    · revert hc
      decide +kernel
    · simp only [List.mem_cons, List.not_mem_nil, or_false] at hl
      rcases hl with rfl | rfl | rfl
      · exact l1.1 hc
      · revert hc
        cases b <;> decide +kernel
      · exact l2.1 hc
  · rw [← str_len, turn_gl]
    refine Nat.le_trans (gl_len _ (m := 104) fun l hl => ?_) (show (104 + (Str.ofString " | ").cps.toList.length) * 3 ≤ 500 by decide +kernel)
    simp only [List.mem_cons, List.not_mem_nil, or_false] at hl
    rcases hl with rfl | rfl | rfl
    · rw [str_len]
      exact n1
    · cases b <;> decide +kernel
    · rw [str_len]
      exact n2
theorem str_eq {a b : Str} (h : a.cps.toList = b.cps.toList) : a = b := by
  obtain ⟨a⟩ := a
  obtain ⟨b⟩ := b
  exact congrArg Str.mk (Array.toList_inj.mp h)
theorem turn_law (ps qs : List Part) (b : Bool) : cutText ps ++ (if b then (Str.ofString " | adds | ") else (Str.ofString " | hides | ")) ++ cutText qs = turnText ps b qs := by
  refine str_eq ?_
  rw [turn_gl, app_cps, app_cps]
  have : (if b then (Str.ofString " | adds | ") else (Str.ofString " | hides | ")).cps.toList = (Str.ofString " | ").cps.toList ++ ((turnW b).cps.toList ++ (Str.ofString " | ").cps.toList) := by cases b <;> decide +kernel
  rw [this]
  show _ = (cutText ps).cps.toList ++ (Str.ofString " | ").cps.toList ++ ((turnW b).cps.toList ++ (Str.ofString " | ").cps.toList ++ (cutText qs).cps.toList)
  simp only [List.append_assoc]
/-! ### alike -/
theorem alike_rd (ps : List Part) : alike (rd ps) ps = true := by
  unfold alike rd
  rw [List.all_eq_true]
  intro i _
  refine decide_eq_true ?_
  by_cases e : ps = []
  · rw [if_pos e, e]
    exact places_all i
  · rw [if_neg e]
end Cut

set_option Elab.async false
set_option linter.all false
set_option maxRecDepth 100000
set_option maxHeartbeats 8000000
namespace K67
open PySem PySem.Spec PyProof.Rows L2 Ly Cut

abbrev s_dice : Stmt := topS 89
abbrev N_dice : List Str := ["_law_script", "_law_at", "_law_cell", "_law_great", "_law_mixed"]
abbrev P_dice : List Str := ["_law_script", "_law_at"]
theorem sc_dice : FnScope N_dice P_dice (defScope s_dice) := ⟨rfl, rfl, rfl, by decide +kernel, rfl, by decide +kernel, by decide +kernel⟩

abbrev s_roll : Stmt := topS 90
abbrev N_roll : List Str := ["_law_dice_here", "_law_total", "_law_found", "_law_one", "_law_two"]
abbrev P_roll : List Str := ["_law_dice_here", "_law_total"]
theorem sc_roll : FnScope N_roll P_roll (defScope s_roll) := ⟨rfl, rfl, rfl, by decide +kernel, rfl, by decide +kernel, by decide +kernel⟩

abbrev s_one_of : Stmt := topS 91
abbrev N_one_of : List Str := ["_law_dice_here", "_law_items"]
abbrev P_one_of : List Str := ["_law_dice_here", "_law_items"]
theorem sc_one_of : FnScope N_one_of P_one_of (defScope s_one_of) := ⟨rfl, rfl, rfl, by decide +kernel, rfl, by decide +kernel, by decide +kernel⟩

abbrev s_signs : Stmt := topS 92
abbrev N_signs : List Str := ["_law_dice_here", "_law_much", "_law_turn"]
abbrev P_signs : List Str := ["_law_dice_here", "_law_much"]
theorem sc_signs : FnScope N_signs P_signs (defScope s_signs) := ⟨rfl, rfl, rfl, by decide +kernel, rfl, by decide +kernel, by decide +kernel⟩

abbrev s_part : Stmt := topS 93
abbrev N_part : List Str := ["_law_dice_here", "_law_common"]
abbrev P_part : List Str := ["_law_dice_here"]
theorem sc_part : FnScope N_part P_part (defScope s_part) := ⟨rfl, rfl, rfl, by decide +kernel, rfl, by decide +kernel, by decide +kernel⟩

section
variable {P : Program} {w : World} {K : PySem.W.Frag} {mg : Str → Option Value} {base : Heap} {f C : Addr} {fd : FuncData}
theorem ok_dice (Z : Zs mg) (D : Df K mg "_law_dice" s_dice P_dice f fd) : FnOk P w K mg base CX0 1 f fd P_dice (spDice K) := by
  refine D.F.ok sc_dice (fun vs H Q E h => ?_) (fun cdv A outer s H vs Q E hr h => ?_)
  · obtain ⟨a, ns, k, rfl, _⟩ := h
    rfl
  · obtain ⟨a, ns, k, rfl, hS, h63, hk, q⟩ := h
    have nd := sc_dice.nd
    refine ⟨_,
    (pss_cons
    (ps_set (i := 2) nd rfl (Or.inl rfl) (pe_ifExp (pt_cmpR op_lt (pv 1) (pe_callB call_lenL (by rfl) Z.z_len (by decide +kernel) (pa_cons (pv 0) pa_nil)) (nomark _)) (pe_ix ix_list (pv 0) (pv 1) (fun _ _ => rfl)) (pe_op op_add (pe_op op_mul pe_int (pv 1)) pe_int)))
    (pss_cons
    (ps_set (i := 3) nd rfl (Or.inl rfl) (pe_op op_mod (pe_callTy call_intI (by rfl) Z.z_int (by decide +kernel) (pa_cons (pe_callB call_abs (by rfl) Z.z_abs (by decide +kernel) (pa_cons (pv 2) pa_nil)) pa_nil)) (pe_op op_powW (pe_op op_powW pe_int pe_int) pe_int)))
    (pss_cons
    (ps_set (i := 4) nd rfl (Or.inl rfl) (pe_op op_add (pe_op op_add (pe_op op_add (pe_op op_mul (pe_op op_mod (pe_callTy call_intI (by rfl) Z.z_int (by decide +kernel) (pa_cons (pv 3) pa_nil)) pe_int) pe_int) (pe_op op_mul pe_int (pv 1))) (pe_op op_mul pe_int (pe_callTy call_intB (by rfl) Z.z_int (by decide +kernel) (pa_cons (pe_cmpR op_lt (pv 2) pe_int (nomark _)) pa_nil)))) pe_int))
    (pss_one
    (ps_ret (pe_lst (pa_cons (pe_callB (call_max2 rfl) (by rfl) Z.z_max (by decide +kernel) (pa_cons pe_int (pa_cons (pe_op op_sub (pv 3) (pe_op op_powW pe_int pe_int)) pa_nil))) (pa_cons (pe_op op_mod (pe_callTy call_intI (by rfl) Z.z_int (by decide +kernel) (pa_cons (pv 4) pa_nil)) pe_int) (pa_cons pe_int pa_nil))))))))), ?_⟩
    refine asgS (fun v H1 => H1 = H ∧ ∃ x : Int, v = .int x) (fun Q' q' => ?_) (fun v H' hv => ?_)
    · refine ⟨.int k, rfl, .ref a, rfl, a, _, rfl, hS, _, _, rfl, rfl, _, rfl, ite2 (fun e => ?_) (fun e => ?_)⟩
      · have e1 := of_decide_eq_true e
        rw [List.length_map] at e1
        have e2 : k < ns.length := by omega
        refine ⟨_, rfl, _, rfl, a, _, _, .int ns[k], rfl, rfl, hS, atI_nat ?_, q' _ _ ⟨rfl, _, rfl⟩⟩
        rw [List.getElem?_map, List.getElem?_eq_getElem e2]
        rfl
      · exact ⟨_, rfl, _, _, rfl, rfl, .inl ⟨by decide, by decide⟩, _, _, rfl, rfl, q' _ _ ⟨rfl, _, rfl⟩⟩
    · obtain ⟨rfl, x, rfl⟩ := hv
      have p60 : CPw 10 60 := ⟨by decide, by decide +kernel⟩
      have p600 : CPw ((10 : Int) ^ (60 : Int).toNat) 10 := ⟨by decide, by decide +kernel⟩
      have pos : (0 : Int) < ((10 : Int) ^ (60 : Int).toNat) ^ (10 : Int).toNat := by decide +kernel
      refine asgS (fun v H1 => H1 = H' ∧ ∃ gr : Int, v = .int gr ∧ 0 ≤ gr ∧ gr.natAbs < 2 ^ 2000) (fun Q' q' => ?_) (fun v H1 hv => ?_)
      · refine ⟨_, rfl, _, rfl, _, rfl, _, _, rfl, rfl, p60, _, _, rfl, rfl, p600, _, _, rfl, rfl, pos, q' _ _ ⟨rfl, _, rfl, great_ok _⟩⟩
      obtain ⟨rfl, gr, rfl, g0, gB⟩ := hv
      have cm : ∀ y : Int, CMul (y % 2147483399) 60013 := fun y => .inr ⟨by decide, by decide⟩
      refine ⟨_, rfl, _, rfl, _, _, rfl, rfl, by change (0 : Int) < _; decide, _, _, rfl, rfl, cm _, _, rfl, _, _, rfl, rfl, .inl ⟨by decide, by decide⟩, _, _, rfl, rfl, _, rfl, _, _, rfl, rfl, _, rfl, _, _, rfl, rfl, .inl ⟨by decide, by decide⟩, _, _, rfl, rfl, _, _, rfl, rfl, ?_⟩
      refine ⟨_, rfl, _, _, rfl, rfl, ⟨by decide, by decide +kernel⟩, _, _, rfl, rfl, _, _, rfl, _, rfl, _, rfl, _, _, rfl, rfl, by change (0 : Int) < _; decide, ?_⟩
      refine ⟨by show 3 ≤ sizeLine; decide, fun p hp => q _ p (same_new hp) hp ⟨_, _, _, upd_same, ?_⟩⟩
      refine ⟨?_, ?_, Int.emod_nonneg _ (by decide), Int.lt_trans (Int.emod_lt_of_pos _ (by decide)) (by decide), Int.le_refl _⟩
      · split <;> omega
      · refine less_ok g0 gB (by split <;> omega) ?_
        have t : (0 : Int) ≤ 10 ^ (18 : Int).toNat := by decide +kernel
        split <;> omega

theorem ok_roll (Z : Zs mg) (D : Df K mg "_law_roll" s_roll P_roll f fd) : FnOk P w K mg base CX0 1 f fd P_roll spRoll := by
  refine D.F.ok sc_roll (fun vs H Q E h => ?_) (fun cdv A outer s H vs Q E hr h => ?_)
  · obtain ⟨d, n, rfl, _⟩ := h
    rfl
  · obtain ⟨d, n, rfl, ⟨a, b, c, hd, B⟩, n0, n1, q⟩ := h
    have nd := sc_roll.nd
    refine ⟨_,
    (pss_cons
    (ps_if (pt_cmpR op_gt (pe_ix ix_list (pv 0) pe_int (fun _ _ => rfl)) pe_int (nomark _))
      (pss_cons
      (ps_set (i := 2) nd rfl (Or.inl rfl) (pe_op op_mod (pe_callTy call_intI (by rfl) Z.z_int (by decide +kernel) (pa_cons (pe_ix ix_list (pv 0) pe_int (fun _ _ => rfl)) pa_nil)) (pv 1)))
      (pss_cons
      (ps_asg (pe_op op_fdivW (pe_ix ix_list (pv 0) pe_int (fun _ _ => rfl)) (pv 1)) (pg_sub (pv 0) pe_int set_list))
      (pss_one
      (ps_ret (pv 2)))))
      pss_nil)
    (pss_cons
    (ps_asg (pe_op op_add (pe_ix ix_list (pv 0) pe_int (fun _ _ => rfl)) pe_int) (pg_sub (pv 0) pe_int set_list))
    (pss_cons
    (ps_set (i := 3) nd rfl (Or.inl rfl) (pe_op op_mod (pe_callTy call_intI (by rfl) Z.z_int (by decide +kernel) (pa_cons (pe_op op_add (pe_ix ix_list (pv 0) pe_int (fun _ _ => rfl)) (pe_op op_mul pe_int (pe_ix ix_list (pv 0) pe_int (fun _ _ => rfl)))) pa_nil)) pe_int))
    (pss_cons
    (ps_set (i := 4) nd rfl (Or.inl rfl) (pe_op op_add (pe_op op_mul (pe_op op_mod (pe_callTy call_intI (by rfl) Z.z_int (by decide +kernel) (pa_cons (pe_op op_mul (pv 3) (pv 3)) pa_nil)) pe_int) (pv 3)) (pe_op op_mul pe_int (pe_ix ix_list (pv 0) pe_int (fun _ _ => rfl)))))
    (pss_cons
    (ps_set (i := 4) nd rfl (Or.inl rfl) (pe_op op_mod (pe_callTy call_intI (by rfl) Z.z_int (by decide +kernel) (pa_cons (pv 4) pa_nil)) pe_int))
    (pss_one
    (ps_ret (pe_op op_mod (pe_callTy call_intI (by rfl) Z.z_int (by decide +kernel) (pa_cons (pe_op op_fdiv (pv 4) pe_int) pa_nil)) (pv 1))))))))), ?_⟩
    have nB : n.natAbs < 2 ^ 200 := by
      have e : (2 : Int) ^ 200 = ((2 ^ 200 : Nat) : Int) := by decide +kernel
      rw [e] at n1
      generalize (2 ^ 200 : Nat) = m at *
      omega
    refine ⟨_, rfl, d, _, 0, _, rfl, rfl, .of hd, rfl, a, 0, rfl, rfl, _, rfl, ite2 (fun e => ?_) (fun e => ?_)⟩
    · refine ⟨_, rfl, d, _, 0, _, rfl, rfl, .of hd, rfl, _, rfl, _, rfl, _, _, rfl, rfl, n0, ?_⟩
      refine ⟨_, rfl, d, _, 0, _, rfl, rfl, .of hd, rfl, _, rfl, _, _, rfl, rfl, wide_div n0 nB (by decide) (by decide), _, rfl, d, _, 0, 0, rfl, rfl, hd, rfl, ?_⟩
      refine ⟨_, rfl, q _ _ ((Chg.refl d H).upd) ⟨_, _, _, upd_same, ?_⟩ (Int.emod_nonneg _ (by omega)) (Int.emod_lt_of_pos _ n0)⟩
      have h1 : a / n ≤ a := Int.ediv_le_self _ B.a0
      have h2 : 0 ≤ a / n := Int.ediv_nonneg B.a0 (by omega)
      exact ⟨h2, less_ok B.a0 B.aB h2 h1, B.b0, B.b1, B.c0⟩
    · refine ⟨_, rfl, d, _, 2, _, rfl, rfl, .of hd, rfl, _, _, rfl, rfl, _, rfl, d, _, 2, 2, rfl, rfl, hd, rfl, ?_⟩
      have hd1 : (upd H d (.lst [.int a, .int b, .int (c + 1)])) d = some (.lst [.int a, .int b, .int (c + 1)]) := upd_same
      dsimp only
      refine asgS (fun v H' => H' = upd H d (.lst [.int a, .int b, .int (c + 1)]) ∧ ∃ x : Int, v = .int x ∧ 0 ≤ x ∧ x < 2305843009213693951) (fun Q' q' => ?_) (fun v H' hv => ?_)
      · refine ⟨_, rfl, d, _, 1, _, rfl, rfl, .of hd1, rfl, _, rfl, d, _, 2, _, rfl, rfl, .of hd1, rfl, _, _, rfl, rfl, .inl ⟨by decide, by decide⟩, _, _, rfl, rfl, _, rfl, _, _, rfl, rfl, by change (0 : Int) < _; decide, q' _ _ ⟨rfl, _, rfl, Int.emod_nonneg _ (by decide), Int.emod_lt_of_pos _ (by decide)⟩⟩
      obtain ⟨rfl, x, rfl, x0, x1⟩ := hv
      have y0 := Int.emod_nonneg (x * x) (show (2305843009213693921 : Int) ≠ 0 by decide)
      have y1 := Int.emod_lt_of_pos (x * x) (show (0 : Int) < 2305843009213693921 by decide)
      refine ⟨_, rfl, _, rfl, _, _, rfl, rfl, .inl ⟨by omega, by omega⟩, _, rfl, _, _, rfl, rfl, by change (0 : Int) < _; decide, _, rfl, _, _, rfl, rfl, .inl ⟨by omega, by omega⟩, _, rfl, d, _, 2, _, rfl, rfl, .of hd1, rfl, _, _, rfl, rfl, .inl ⟨by decide, by decide⟩, _, _, rfl, rfl, ?_⟩
      refine ⟨_, rfl, _, rfl, _, _, rfl, rfl, by change (0 : Int) < _; decide, ?_⟩
      refine ⟨_, rfl, _, _, rfl, rfl, ⟨by decide, by decide⟩, _, rfl, _, rfl, _, _, rfl, rfl, n0, ?_⟩
      refine q _ _ ((Chg.refl d H).upd) ⟨_, _, _, hd1, ?_⟩ (Int.emod_nonneg _ (by omega)) (Int.emod_lt_of_pos _ n0)
      have c1 := B.c0
      exact ⟨B.a0, B.aB, B.b0, B.b1, by omega⟩

theorem ok_oneL (Z : Zs mg) (D : Df K mg "_law_one_of" s_one_of P_one_of f fd) {fr : Addr} {fdr : FuncData} (D_roll : Cl P w K mg base "_law_roll" 1 fr fdr P_roll spRoll) : FnOk P w K mg base CX0 2 f fd P_one_of (spOneL K) := by
  refine D.F.ok sc_one_of (fun vs H Q E h => ?_) (fun cdv A outer s H vs Q E hr h => ?_)
  · obtain ⟨d, a, xs, rfl, _⟩ := h
    rfl
  · obtain ⟨d, a, xs, rfl, hD, ne, hS, h0, h1, q⟩ := h
    have nd := sc_one_of.nd
    refine ⟨_,
    (pss_one
    (ps_ret (pe_ix ix_list (pv 1) (pe_call D_roll.ok (hr.mono (by decide)) (by rfl) D_roll.g D_roll.kp D_roll.b .nil pass0 (pa_cons (pv 0) (pa_cons (pe_callB call_lenL (by rfl) Z.z_len (by decide +kernel) (pa_cons (pv 1) pa_nil)) pa_nil))) (fun _ _ => rfl)))), ?_⟩
    refine ⟨_, rfl, _, rfl, _, rfl, a, xs, rfl, hS, d, xs.length, rfl, hD, by omega, by omega, fun H' r c D' r0 r1 => ?_⟩
    have hr' : r.toNat < xs.length := by omega
    refine ⟨a, xs, r, xs[r.toNat], rfl, rfl, c.seq ne hS, ?_, q _ _ c D' (List.getElem_mem hr')⟩
    exact at_nat r0 (List.getElem?_eq_getElem hr')

theorem str_ext {a b : Str} (h : a.cps.toList = b.cps.toList) : a = b := by
  obtain ⟨a⟩ := a
  obtain ⟨b⟩ := b
  exact congrArg Str.mk (Array.toList_inj.mp h)
def spSigns : Sp := fun vs H Q _ => ∃ (d : Addr) (m : Nat), vs = [.ref d, .int m] ∧ Dice H d ∧ m ≤ 3 ∧ ∀ H' l, Chg d H H' → Dice H' d → l.length ≤ m → Q (.str (sT l)) H'
theorem ok_signs (Z : Zs mg) (D : Df K mg "_law_signs" s_signs P_signs f fd) {f1 f2 : Addr} {d1 d2 : FuncData} (D_roll : Cl P w K mg base "_law_roll" 1 f1 d1 P_roll spRoll) (D_oneL : Cl P w K mg base "_law_one_of" 2 f2 d2 P_one_of (spOneL K)) :
    FnOk P w K mg base CX0 3 f fd P_signs spSigns := by
  refine D.F.ok sc_signs (fun vs H Q E h => ?_) (fun cdv A outer s H vs Q E hr h => ?_)
  · obtain ⟨d, m, rfl, _⟩ := h
    rfl
  · obtain ⟨d, m, rfl, hD, hm, q⟩ := h
    have nd := sc_signs.nd
    refine ⟨_,
    (pss_one
    (ps_ret (pe_join pe_str (pe_lc (own := [("_law_turn", 2)]) (g := gName 2) (tt := tYes) rfl nd (pi_range1 (by rfl) Z.z_range (pa_cons (pe_call D_roll.ok (hr.mono (by decide)) (by rfl) D_roll.g D_roll.kp D_roll.b .nil pass0 (pa_cons (pv 0) (pa_cons (pe_op op_add (pv 1) pe_int) pa_nil))) pa_nil)) (blkOk_by (N := N_signs) (sc := defScope s_signs) (by decide +kernel)) (fun _ _ _ _ _ => (pg_name (i := 2) nd rfl (Or.inl rfl))) (fun _ _ _ _ _ => pts_nil) (fun _ _ _ _ _ => (pe_call D_oneL.ok (hr.mono (by decide)) (by rfl) D_oneL.g D_oneL.kp D_oneL.b .nil pass0 (pa_cons (pv 0) (pa_cons (pe_lst (pa_cons pe_str (pa_cons pe_str (pa_cons pe_str pa_nil)))) pa_nil)))))))), ?_⟩
    refine ⟨⟨_, rfl⟩, ?_⟩
    refine ⟨_, rfl, _, rfl, _, _, rfl, rfl, d, m + 1, rfl, hD, by omega, by omega, fun H1 r c1 D1 r0 r1 => ?_⟩
    refine ⟨r, rfl, by omega, by omega, fun D2 nD => ?_⟩
    have ne := dice_ne D1 nD
    refine lc_range (lo := 0) (n := r.toNat) (fun i H2 => Chg d H H2 ∧ Dice H2 d ∧ ∃ l : List Bool, H2 D2 = some (.lst ((l.map fun b => (⟨#[sgn b]⟩ : Str)).map V.str)) ∧ l.length = i)
      ⟨c1.new nD, D1.new nD, [], upd_same, rfl⟩ (fun i H2 hi hP => ?_) (fun H2 hP => ?_)
    · obtain ⟨c2, D2', l, hy, hl⟩ := hP
      refine ⟨rfl, _, rfl, by show 3 ≤ sizeLine; decide, fun p hp => ?_⟩
      have hpD : p ≠ D2 := fun e => by rw [e, hy] at hp; cases hp
      refine ⟨d, p, _, rfl, D2'.new hp, (dice_ne D2' hp).symm, .of upd_same, by decide, by decide, fun H3 x ch D3 mem => ?_⟩
      obtain ⟨b, rfl⟩ : ∃ b : Bool, x = .str ⟨#[sgn b]⟩ := by
        simp only [List.mem_cons, List.not_mem_nil, or_false] at mem
        rcases mem with h | h | h
        · exact ⟨true, h⟩
        · exact ⟨true, h⟩
        · exact ⟨false, h⟩
      have e3 : H3 D2 = some (.lst ((l.map fun b => (⟨#[sgn b]⟩ : Str)).map V.str)) := ch _ _ ne.symm (same_new hp _ _ hy)
      refine ⟨_, e3, by rw [List.length_map, List.length_map]; exact small1000 (by omega), ?_⟩
      refine ⟨fun x o nx e => ?_, ?_, l ++ [b], ?_, ?_⟩
      · rw [upd_ne (ne_of_none (c1 _ _ nx e) nD)]
        exact ((c2.trans (.of (same_new hp))).trans ch) _ _ nx e
      · obtain ⟨a, b, c', ed, B⟩ := D3
        exact ⟨a, b, c', by rw [upd_ne ne]; exact ed, B⟩
      · rw [upd_same, List.map_append, List.map_append]
        rfl
      · rw [List.length_append, hl]
        rfl
    · obtain ⟨c2, D2', l, hy, hl⟩ := hP
      have e0 : (Str.ofString "" : Str) = Str.empty := rfl
      have hsum : ((l.map fun b => (⟨#[sgn b]⟩ : Str)).map (·.length)).sum = l.length := by
        clear hy hl
        induction l with
        | nil => rfl
        | cons b r ih =>
          rw [List.map_cons, List.map_cons, List.sum_cons, ih, List.length_cons]
          show 1 + r.length = _
          omega
      have ej : Txt.join Str.empty (l.map fun b => (⟨#[sgn b]⟩ : Str)) = sT l := by
        refine str_ext ?_
        rw [txt_join]
        show _ = ((l.map sgn).toArray).toList
        rw [List.flatMap_map]
        clear hy hl hsum
        induction l with
        | nil => rfl
        | cons b r ih =>
          rw [List.flatMap_cons, ih]
          rfl
      refine ⟨Str.empty, D2, _, e0 ▸ rfl, rfl, .inl (.of hy), ?_, ?_⟩
      · rw [hsum, List.length_map]
        show l.length + l.length * 0 ≤ 16777216
        omega
      · rw [ej]
        exact q H2 l c2 D2' (by omega)

def spPart : Sp := fun vs H Q _ => ∃ d : Addr, vs = [.ref d] ∧ Dice H d ∧ ∀ H' p, Chg d H H' → Dice H' d → Ok p → Q (.str p.text) H'
theorem commons : ∀ x ∈ ([.str "all", .str "all", .str "..+", .str "..++", .str "+..", .str "+..+", .str "..+++", .str "..", .str "+..++", .str "..-+"] : List V), ∃ p : Part, Ok p ∧ x = .str p.text := by
  intro x hx
  simp only [List.mem_cons, List.not_mem_nil, or_false] at hx
  rcases hx with h | h | h | h | h | h | h | h | h | h <;> subst h
  · exact ⟨.all, trivial, rfl⟩
  · exact ⟨.all, trivial, rfl⟩
  · exact ⟨.pat [] [true], ⟨by decide, by decide⟩, by rw [show (Part.pat [] [true]).text = Str.ofString "..+" by decide +kernel]⟩
  · exact ⟨.pat [] [true, true], ⟨by decide, by decide⟩, by rw [show (Part.pat [] [true, true]).text = Str.ofString "..++" by decide +kernel]⟩
  · exact ⟨.pat [true] [], ⟨by decide, by decide⟩, by rw [show (Part.pat [true] []).text = Str.ofString "+.." by decide +kernel]⟩
  · exact ⟨.pat [true] [true], ⟨by decide, by decide⟩, by rw [show (Part.pat [true] [true]).text = Str.ofString "+..+" by decide +kernel]⟩
  · exact ⟨.pat [] [true, true, true], ⟨by decide, by decide⟩, by rw [show (Part.pat [] [true, true, true]).text = Str.ofString "..+++" by decide +kernel]⟩
  · exact ⟨.pat [] [], ⟨by decide, by decide⟩, by rw [show (Part.pat [] []).text = Str.ofString ".." by decide +kernel]⟩
  · exact ⟨.pat [true] [true, true], ⟨by decide, by decide⟩, by rw [show (Part.pat [true] [true, true]).text = Str.ofString "+..++" by decide +kernel]⟩
  · exact ⟨.pat [] [false, true], ⟨by decide, by decide⟩, by rw [show (Part.pat [] [false, true]).text = Str.ofString "..-+" by decide +kernel]⟩
theorem ok_part (Z : Zs mg) (D : Df K mg "_law_part" s_part P_part f fd) {f1 f2 f3 : Addr} {d1 d2 d3 : FuncData} (D_roll : Cl P w K mg base "_law_roll" 1 f1 d1 P_roll spRoll) (D_oneL : Cl P w K mg base "_law_one_of" 2 f2 d2 P_one_of (spOneL K))
    (D_signs : Cl P w K mg base "_law_signs" 3 f3 d3 P_signs spSigns) : FnOk P w K mg base CX0 4 f fd P_part spPart := by
  refine D.F.ok sc_part (fun vs H Q E h => ?_) (fun cdv A outer s H vs Q E hr h => ?_)
  · obtain ⟨d, rfl, _⟩ := h
    rfl
  · obtain ⟨d, rfl, hD, q⟩ := h
    have nd := sc_part.nd
    refine ⟨_,
    (pss_cons
    (ps_set (i := 1) nd rfl (Or.inl rfl) (pe_lst (pa_cons pe_str (pa_cons pe_str (pa_cons pe_str (pa_cons pe_str (pa_cons pe_str (pa_cons pe_str (pa_cons pe_str (pa_cons pe_str (pa_cons pe_str (pa_cons pe_str pa_nil))))))))))))
    (pss_cons
    (ps_if (pt_cmpR op_gt (pe_call D_roll.ok (hr.mono (by decide)) (by rfl) D_roll.g D_roll.kp D_roll.b .nil pass0 (pa_cons (pv 0) (pa_cons pe_int pa_nil))) pe_int (nomark _))
      (pss_one
      (ps_ret (pe_call D_oneL.ok (hr.mono (by decide)) (by rfl) D_oneL.g D_oneL.kp D_oneL.b .nil pass0 (pa_cons (pv 0) (pa_cons (pv 1) pa_nil)))))
      pss_nil)
    (pss_one
    (ps_ret (pe_op op_add_str (pe_op op_add_str (pe_call D_signs.ok (hr.mono (by decide)) (by rfl) D_signs.g D_signs.kp D_signs.b .nil pass0 (pa_cons (pv 0) (pa_cons pe_int pa_nil))) pe_str) (pe_call D_signs.ok (hr.mono (by decide)) (by rfl) D_signs.g D_signs.kp D_signs.b .nil pass0 (pa_cons (pv 0) (pa_cons pe_int pa_nil)))))))), ?_⟩
    refine ⟨by show 10 ≤ sizeLine; decide, fun p hp => ?_⟩
    have s1 := same_new (o := .lst ([.str "all", .str "all", .str "..+", .str "..++", .str "+..", .str "+..+", .str "..+++", .str "..", .str "+..++", .str "..-+"] : List V)) hp
    have hpl : (upd H p (.lst ([.str "all", .str "all", .str "..+", .str "..++", .str "+..", .str "+..+", .str "..+++", .str "..", .str "+..++", .str "..-+"] : List V))) p = some _ := upd_same
    have D1 := hD.keep s1
    have npd : p ≠ d := (dice_ne hD hp).symm
    refine ⟨_, rfl, d, 3, rfl, D1, by decide, by decide, fun H2 r c2 D2 r0 r1 => ?_⟩
    refine ⟨_, _, rfl, rfl, _, rfl, ?_⟩
    by_cases h : (0 : Int) < r
    · refine ifT (decide_eq_true h) ⟨_, rfl, _, rfl, d, p, _, rfl, D2, npd, .of (c2 _ _ npd hpl), by decide, by decide, fun H3 x c3 D3 mem => ?_⟩
      obtain ⟨pt, hpt, rfl⟩ := commons x mem
      exact q H3 pt (((Chg.of s1).trans c2).trans c3) D3 hpt
    · refine ifF (decide_eq_false h) ?_
      dsimp only [tNext]
      refine ⟨_, rfl, d, 2, rfl, D2, by decide, fun H3 l1 c3 D3 hl1 => ?_⟩
      have e2 : (Str.ofString "..").length = 2 := by decide +kernel
      refine ⟨sT l1, _, rfl, rfl, by rw [sT_len, e2]; exact sz1000 (by omega), _, rfl, d, 3, rfl, D3, by decide, fun H4 l2 c4 D4 hl2 => ?_⟩
      refine ⟨_, sT l2, rfl, rfl, ?_, q H4 (.pat l1 l2) ((((Chg.of s1).trans c2).trans c3).trans c4) D4 ⟨hl1, hl2⟩⟩
      rw [← str_len, app_cps, List.length_append, str_len, str_len, sT_len, sT_len, e2]
      exact sz1000 (by omega)

abbrev s_long : Stmt := topS 96
abbrev N_long : List Str := ["_law_dice_here", "_law_turn"]
abbrev P_long : List Str := ["_law_dice_here"]
theorem sc_long : FnScope N_long P_long (defScope s_long) := ⟨rfl, rfl, rfl, by decide +kernel, rfl, by decide +kernel, by decide +kernel⟩

abbrev s_ctext : Stmt := topS 94
abbrev N_ctext : List Str := ["_law_parts"]
abbrev P_ctext : List Str := ["_law_parts"]
theorem sc_ctext : FnScope N_ctext P_ctext (defScope s_ctext) := ⟨rfl, rfl, rfl, by decide +kernel, rfl, by decide +kernel, by decide +kernel⟩

abbrev s_ttext : Stmt := topS 95
abbrev N_ttext : List Str := ["_law_turn"]
abbrev P_ttext : List Str := ["_law_turn"]
theorem sc_ttext : FnScope N_ttext P_ttext (defScope s_ttext) := ⟨rfl, rfl, rfl, by decide +kernel, rfl, by decide +kernel, by decide +kernel⟩

def spLong : Sp := fun vs H Q _ => ∃ (d : Addr), vs = [.ref d] ∧ Dice H d ∧ ∀ H' a ps, Chg d H H' → Dice H' d → H a = none → H' a = some (.lst (pV ps)) → (∀ p ∈ ps, Ok p) → ps.length ≤ 4 → Q (.ref a) H'
theorem ok_long (Z : Zs mg) (D : Df K mg "_law_long_parts" s_long P_long f fd) {f2 f3 : Addr} {d2 d3 : FuncData} (D_roll : Cl P w K mg base "_law_roll" 1 f2 d2 P_roll spRoll)
    (D_part : Cl P w K mg base "_law_part" 4 f3 d3 P_part spPart) : FnOk P w K mg base CX0 5 f fd P_long spLong := by
  refine D.F.ok sc_long (fun vs H Q E h => ?_) (fun cdv A outer s H vs Q E hr h => ?_)
  · obtain ⟨d, rfl, _⟩ := h
    rfl
  · obtain ⟨d, rfl, hD, q⟩ := h
    have nd := sc_long.nd
    refine ⟨_,
    (pss_one
    (ps_ret (pe_lc (own := [("_law_turn", 1)]) (g := gName 1) (tt := tYes) rfl nd (pi_range1 (by rfl) Z.z_range (pa_cons (pe_call D_roll.ok (hr.mono (by decide)) (by rfl) D_roll.g D_roll.kp D_roll.b .nil pass0 (pa_cons (pv 0) (pa_cons pe_int pa_nil))) pa_nil)) (blkOk_by (N := N_long) (sc := defScope s_long) (by decide +kernel)) (fun _ _ _ _ _ => (pg_name (i := 1) nd rfl (Or.inl rfl))) (fun _ _ _ _ _ => pts_nil) (fun _ _ _ _ _ => (pe_call D_part.ok (hr.mono (by decide)) (by rfl) D_part.g D_part.kp D_part.b .nil pass0 (pa_cons (pv 0) pa_nil)))))), ?_⟩
    refine ⟨_, rfl, d, 5, rfl, hD, by decide, by decide, fun H1 r c1 D1 r0 r1 => ?_⟩
    refine ⟨r, rfl, by omega, by omega, fun D2 nD => ?_⟩
    have ne := dice_ne D1 nD
    refine lc_range (lo := 0) (n := r.toNat) (fun i H2 => Chg d H H2 ∧ Dice H2 d ∧ ∃ ps : List Part, H2 D2 = some (.lst (pV ps)) ∧ ps.length = i ∧ ∀ p ∈ ps, Ok p)
      ⟨c1.new nD, D1.new nD, [], upd_same, rfl, fun _ h => by cases h⟩ (fun i H2 hi hP => ?_) (fun H2 hP => ?_)
    · obtain ⟨c2, D2', ps, hy, hl, hok⟩ := hP
      refine ⟨rfl, _, rfl, d, rfl, D2', fun H3 pt ch D3 hpt => ?_⟩
      have e3 : H3 D2 = some (.lst (pV ps)) := ch _ _ ne.symm hy
      refine ⟨_, e3, by rw [pV_len]; exact small1000 (by omega), ?_⟩
      refine ⟨fun x o nx e => ?_, ?_, ps ++ [pt], ?_, ?_, ?_⟩
      · rw [upd_ne (ne_of_none (c1 _ _ nx e) nD)]
        exact (c2.trans ch) _ _ nx e
      · obtain ⟨a, b, c', ed, B⟩ := D3
        exact ⟨a, b, c', by rw [upd_ne ne]; exact ed, B⟩
      · rw [upd_same]
        unfold pV
        rw [List.map_append]
        rfl
      · rw [List.length_append, hl]
        rfl
      · intro y hy'
        rcases List.mem_append.mp hy' with hy' | hy'
        · exact hok y hy'
        · rw [List.mem_singleton.mp hy']
          exact hpt
    · obtain ⟨c2, D2', ps, hy, hl, hok⟩ := hP
      have nH : H D2 = none := by
        cases e : H D2 with
        | none => rfl
        | some o => exact absurd (c1 _ _ ne.symm e) (by rw [nD]; exact fun z => nomatch z)
      exact q H2 D2 ps c2 D2' nH hy hok (by omega)

def spCT (K : PySem.W.Frag) : Sp := fun vs H Q _ => ∃ (a : Addr) (ps : List Part), vs = [.ref a] ∧ SqL K H a (pV ps) ∧ (∀ p ∈ ps, Ok p) ∧ ps.length ≤ 8 ∧ ∀ H', Same H H' → Q (.str (cutText ps)) H'
theorem ok_ctext (Z : Zs mg) (D : Df K mg "_law_cutter_text" s_ctext P_ctext f fd) : FnOk P w K mg base CX0 1 f fd P_ctext (spCT K) := by
  refine D.F.ok sc_ctext (fun vs H Q E h => ?_) (fun cdv A outer s H vs Q E hr h => ?_)
  · obtain ⟨a, ps, rfl, _⟩ := h
    rfl
  · obtain ⟨a, ps, rfl, hS, hok, hl, q⟩ := h
    have nd := sc_ctext.nd
    have hu : (A.deeper (envOfC "_law_cutter_text" (defScope s_ctext) s.heap.objs.size f cdv)).units + 64 < cLine := by
      have := hr.un
      omega
    refine ⟨_,
    (pss_one
    (ps_ret (pe_ifExp (pt_cmpR (op_neD hu) (pv 0) (pe_lst pa_nil) (nomark _)) (pe_join pe_str (pv 0)) pe_str))), ?_⟩
    refine ⟨_, rfl, by show 0 ≤ sizeLine; decide, fun l nl => ?_⟩
    have s2 := same_new (o := .lst []) nl
    have hS' : SqL K _ a (pV ps) := hS.ext fun b o e => s2 b o e
    refine ⟨.list (dP ps), .list [], .lst hS' (dpAll_pV _), .lst (.of upd_same) .nil, shp_list (canLay_dP _ hok) (depth_dP _), by decide +kernel, _, rfl, ?_⟩
    rw [eqv_empty]
    by_cases e : ps = []
    · subst e
      refine ifF rfl (q _ s2)
    · refine ifT ?_ ⟨⟨_, rfl⟩, _, rfl, _, a, ps.map Part.text, rfl, rfl, .inl ?_, join_size8 hok hl, ?_⟩
      · cases ps with
        | nil => exact absurd rfl e
        | cons _ _ => rfl
      · have e4 : (ps.map Part.text).map V.str = pV ps := by
          unfold pV
          rw [List.map_map]
          rfl
        rw [e4]
        exact hS'
      · have e5 : cutText ps = Txt.join " > " (ps.map Part.text) := by
          unfold cutText
          rw [if_neg e]
        rw [← e5]
        exact q _ s2

def spTT (K : PySem.W.Frag) : Sp := fun vs H Q _ => ∃ (t a b : Addr) (ps qs : List Part) (z : Bool), vs = [.ref t] ∧ H t = some (.tup [.ref a, .bl z, .ref b]) ∧ SqL K H a (pV ps) ∧ SqL K H b (pV qs) ∧ (∀ p ∈ ps, Ok p) ∧ ps.length ≤ 8 ∧ (∀ p ∈ qs, Ok p) ∧ qs.length ≤ 8 ∧
  ∀ H', Same H H' → Q (.str (turnText ps z qs)) H'
theorem ok_ttext (Z : Zs mg) (D : Df K mg "_law_turn_text" s_ttext P_ttext f fd) {f2 : Addr} {d2 : FuncData} (D_ctext : Cl P w K mg base "_law_cutter_text" 1 f2 d2 P_ctext (spCT K)) : FnOk P w K mg base CX0 2 f fd P_ttext (spTT K) := by
  refine D.F.ok sc_ttext (fun vs H Q E h => ?_) (fun cdv A outer s H vs Q E hr h => ?_)
  · obtain ⟨t, a, b, ps, qs, z, rfl, _⟩ := h
    rfl
  · obtain ⟨t, a, b, ps, qs, z, rfl, ht, ha, hb, hok, hl, hok', hl', q⟩ := h
    have nd := sc_ttext.nd
    have n1 := cutText_len8 hok hl
    have n2 := cutText_len8 hok' hl'
    refine ⟨_,
    (pss_one
    (ps_ret (pe_op op_add_str (pe_op op_add_str (pe_call D_ctext.ok (hr.mono (by decide)) (by rfl) D_ctext.g D_ctext.kp D_ctext.b .nil pass0 (pa_cons (pe_ix ix_tup (pv 0) pe_int (fun _ _ => rfl)) pa_nil)) (pe_ifExp (pt_val (pe_ix ix_tup (pv 0) pe_int (fun _ _ => rfl))) pe_str pe_str)) (pe_call D_ctext.ok (hr.mono (by decide)) (by rfl) D_ctext.g D_ctext.kp D_ctext.b .nil pass0 (pa_cons (pe_ix ix_tup (pv 0) pe_int (fun _ _ => rfl)) pa_nil))))), ?_⟩
    refine ⟨_, rfl, t, _, (0 : Nat), .ref a, rfl, rfl, .of ht, rfl, a, ps, rfl, ha, hok, hl, fun H1 s1 => ?_⟩
    refine ⟨_, rfl, t, _, (1 : Nat), .bl z, rfl, rfl, .of (s1 _ _ ht), rfl, z, rfl, ?_⟩
    have e1 : (Str.ofString " | adds | ").length = 10 := by decide +kernel
    have e2 : (Str.ofString " | hides | ").length = 11 := by decide +kernel
    cases z with
    | true => exact ifT rfl ⟨_, _, rfl, rfl, sz1000 (by omega), _, rfl, t, _, (2 : Nat), .ref b, rfl, rfl, .of (s1 _ _ ht), rfl, b, qs, rfl, hb.ext (fun b o e => s1 b o e), hok', hl', fun H2 s2 => ⟨_, _, rfl, rfl, by rw [app_len]; exact sz1000 (by omega), by have e : cutText ps ++ Str.ofString " | adds | " ++ cutText qs = turnText ps true qs := turn_law ps qs true; rw [e]; exact q _ (s1.trans s2)⟩⟩
    | false => exact ifF rfl ⟨_, _, rfl, rfl, sz1000 (by omega), _, rfl, t, _, (2 : Nat), .ref b, rfl, rfl, .of (s1 _ _ ht), rfl, b, qs, rfl, hb.ext (fun b o e => s1 b o e), hok', hl', fun H2 s2 => ⟨_, _, rfl, rfl, by rw [app_len]; exact sz1000 (by omega), by have e : cutText ps ++ Str.ofString " | hides | " ++ cutText qs = turnText ps false qs := turn_law ps qs false; rw [e]; exact q _ (s1.trans s2)⟩⟩

end
end K67
set_option Elab.async false
set_option linter.all false
set_option maxRecDepth 100000
set_option maxHeartbeats 4000000
/-! code that is never come to; {x!s} of an own str; != of two tuples that are equal; a class held by a variable, called without arguments -/
namespace Ly
open PySem PySem.Spec PyProof.Rows L2
section
variable {X : Cx} {CX : CXT} {k : Nat} {f g C : Addr} {sp : Sp} {E : XK} {x : Str} {e : Expr} {te : TE} {p pos sp_ : Pos}
def tNev : TE := fun _ _ _ => False
theorem pe_never : PE X e tNev := ⟨fun _ _ _ _ _ _ h => h.elim⟩
/-- {e!s} where e is an instance of a class with an own str -/
def tFmtO (C : Addr) (sp : Sp) (E : XK) (te : TE) : TE := fun σ H Q => te σ H fun x H1 => ∃ a dx fs, x = .ref a ∧ H1 a = some (.ins C dx fs) ∧ sp [.ref a] H1 (fun v H' => ∃ z : Str, v = .str z ∧ z.length ≤ sizeLine ∧ Q (.str z) H') E
theorem pe_fmtO (c : Sp1 X.K C g "__str__") (F : FnR X.prog X.w X.K X.mg X.base CX k g sp) (hr : Room k X.A) (hx : Passes CX X E) (he : PE X e te) : PE X (.FormattedValue e 115 none pos) (tFmtO C sp E te) := by
  refine ⟨fun pins s σ H Q I h => ?_⟩
  refine wpAny_FormattedValue_s (thn (he.run pins s σ H _ I h) fun v s1 hv => ?_)
  obtain ⟨y, H1, I1, r1, a, dx, fs, rfl, ea, q⟩ := hv
  obtain rfl : v = Value.ref a := r1
  obtain ⟨ox, od, J⟩ := ins_inst I1 ea
  show wpAny _ _ (pyStrObj (Value.ref a)) _ _ _
  refine PySem.W.kfo_str hr.units0 I1.kIn J c.at_ c.fn (wpAny_mono (run_fnRA (us := [.ref a]) (vs := [.ref a]) F hr rfl hx I1 (.cons rfl .nil) q) (fun v s' z => ?_) fun _ _ z => z)
  obtain ⟨w, H', I', rw_, z, rfl, hz, q'⟩ := z
  obtain ⟨t, rfl⟩ := (show ∃ t, v = Value.str z t from rw_)
  exact wpAny_formatField_str ⟨.str z, H', I', ⟨t, rfl⟩, q'⟩ ⟨.str z, H', I'.tok _, ⟨_, rfl⟩, q'⟩ hz
/-- x(), x a variable that holds the class at C -/
def tMakeV0 (C : Addr) (sp : Sp) (E : XK) (tx : TE) : TE := fun σ H Q => tx σ H fun c H1 => c = .ref C ∧
  ∀ x dx, H1 x = none → H1 dx = none → dx ≠ x → sp [V.ref x] (upd (upd H1 dx (.own x)) x (.ins C dx [])) (fun v H2 => v = .non ∧ Q (.ref x) H2) E
theorem pe_makeV0 {tx : TE} (M : Mk X.K C f) (F : FnR X.prog X.w X.K X.mg X.base CX k f sp) (hr : Room (k + 1) X.A) (hx : Passes CX X E) (hv : PE X (.Name x p) tx) : PE X (.Call (.Name x p) [] [] pos) (tMakeV0 C sp E tx) := by
  refine ⟨fun pins s σ H Q I h => ?_⟩
  refine wpAny_Call_Name_kw (thn (hv.run pins s σ H _ I h) fun u s1 ⟨c, H0, I0, rc, ec, q⟩ => ?_)
  subst ec
  obtain rfl : u = Value.ref C := rc
  exact PySem.W.callWith_K0 I0.kIn M.kp (StX.run_makeR (us := []) M F hr hx I0 .nil q)
end
end Ly
namespace GQ
open PySem PySem.SeqAt
open AutoSeq1 (wpAny_loadPart')
open MeetsSeq MeetsSeq2 MeetsSeq3 SeqRoads2
section
variable {prog : Program} {w : World} {A : Around} {R : Result → Shared → Prop}
theorem tuple_neG {l b : Addr} {xs ys : Array Value} {n m : Nat} {d1 d2 : Option Addr} {z1 z2 : Array (Option Value)} {s : Shared} (J : Nat → Shared → Prop) (ez : xs.size = ys.size)
    (step : ∀ j (p1 : j < xs.size) (p2 : j < ys.size) t, J j t → wpAny (model prog w) A.in1 (eqBool xs[j] ys[j]) (fun r u => r = true ∧ J (j + 1) u) (fun x u => R (.error x) u) t)
    (done : ∀ t, J xs.size t → R (.ok (.ret (.bool false))) t) (ga : s.heap.get? l = some { cls := .type "tuple", dict := d1, data := .seq xs n, slots := z1 }) (gb : s.heap.get? b = some { cls := .type "tuple", dict := d2, data := .seq ys m, slots := z2 }) (j0 : J 0 s) :
    wpAny (model prog w) A.in1 (Builtin.«tuple.__ne__» ⟨[.ref l, .ref b], []⟩) (FinOf prog w A R) (fun x u => R (.error x) u) s := by
  have sub := AutoSeq1.sub_tuple_tuple
  have both : (xs.toList.zip ys.toList).length = xs.size := by simp [ez]
  have j1 := j0
  obtain ⟨s1, s2, s3, s4, s5⟩ := s
  wp_walk using wpAny_loadPart' ga, wpAny_loadPart' gb, wpAny_forIn_list _ (fun left c t => c.1 = none ∧ ∃ j, left = (xs.toList.zip ys.toList).drop j ∧ j ≤ xs.size ∧ J j t) _
  case turn =>
    rintro ⟨u, v⟩ left c t ⟨_, j, el, _, hJ⟩
    have p0 : j < (xs.toList.zip ys.toList).length := by
      refine Nat.lt_of_not_le fun ge => ?_
      rw [List.drop_of_length_le ge] at el
      cases el
    have p1 : j < xs.size := both ▸ p0
    have p2 : j < ys.size := ez ▸ p1
    rw [List.drop_eq_getElem_cons p0] at el
    obtain ⟨euv, er⟩ := List.cons.inj el
    have eu : u = xs[j] := (congrArg Prod.fst euv).trans (by simp)
    have ev : v = ys[j] := (congrArg Prod.snd euv).trans (by simp)
    subst eu ev
    refine wpAny_bind (wpAny_mono (step j p1 p2 t hJ) (fun r u z => ?_) fun _ _ z => z)
    obtain ⟨rfl, hJ'⟩ := z
    wp_walk
    exact ⟨rfl, _, er, p1, hJ'⟩
  case fin =>
    rintro ⟨c1, c2⟩ t ⟨ec, j, el, le, hJ⟩
    obtain rfl : c1 = none := ec
    have ej : j = xs.size := by
      refine Nat.le_antisymm le (Nat.le_of_not_lt fun lt => ?_)
      rw [List.drop_eq_getElem_cons (both.symm ▸ lt)] at el
      cases el
    have out := done t (ej ▸ hJ)
    wp_walk
    simpa [Builtin.Tuple.tupleCompareSizes, ez] using out
  case h => exact ⟨rfl, 0, rfl, Nat.zero_le _, j1⟩
end
section
variable {prog : Program} {w : World} {A : Around} {E : Value → Shared → Prop} {s : Shared}
theorem rcne_tupG {l b : Addr} {xs ys : Array Value} {Q : Value → Shared → Prop} (ez : xs.size = ys.size) (room : A.units < cLine) (J : Nat → Shared → Prop) (ta : s.heap.IsTuple l xs) (tb : s.heap.IsTuple b ys)
    (step : ∀ j (p1 : j < xs.size) (p2 : j < ys.size) t, J j t → wpAny (model prog w) A.in1 (eqBool xs[j] ys[j]) (fun r u => r = true ∧ J (j + 1) u) E t)
    (done : ∀ t, J xs.size t → Q (.bool false) t) (j0 : J 0 s) : wpAny (model prog w) A (richCompare .NotEq (.ref l) (.ref b)) Q E s := by
  rcases ta with ⟨⟨k1, d1, _, z1⟩, g1, e1, n1, f1⟩
  rcases tb with ⟨⟨k2, d2, _, z2⟩, g2, e2, n2, f2⟩
  dsimp only at e1 f1 e2 f2
  subst e1 f1 e2 f2
  exact wpAny_richCompare_same_room (op := .NotEq) ⟨_, g1, rfl⟩ ⟨_, g2, rfl⟩ F.slot_tuple_ne
    (call_here F.slot_tuple_ne ⟨_, g1, rfl⟩ F.entry_tuple_ne (F.args_tuple_ne_2 _ _) (tuple_neG (R := wants (fun v t => v ≠ .notImplemented ∧ Q v t) E) J ez step (fun t h => ⟨(fun z => nomatch z), done t h⟩) g1 g2 j0)) room
end
end GQ
namespace Ly
open PySem PySem.Spec PyProof.Rows L2
section
variable {X : Cx} {n : Nat} {D : Eqv}
/-- x != y of two tuples that are equal item by item -/
def rNeG (K : PySem.W.Frag) (D : Eqv) : R2 := fun x y H Q => DTup K D x y H ∧ ∀ H', Ext H H' → Q (.bl false) H'
theorem op_neT (hD : Mon D) (h : EqG X n D) (hr : Room (n + 1) X.A) : OpR X (compareOp .NotEq) (rNeG X.K D) := by
  intro pins s σ H x y u v Q I rx ry hq
  obtain ⟨d, q⟩ := hq
  show wpAny (model X.prog X.w) X.A (richCompare .NotEq u v) (EP X pins σ Q) X.xe s
  obtain ⟨a, b, xs, ys, rfl, rfl, ha, hb, p⟩ := d
  cases rx
  cases ry
  obtain ⟨its, r, e, z⟩ := I.tuple ha
  obtain ⟨its2, r2, e2, z2⟩ := I.tuple hb
  have hsz : its.toArray.size = its2.toArray.size := by rw [List.size_toArray, List.size_toArray, ← r.length, ← r2.length]; exact p.1
  refine GQ.rcne_tupG hsz hr.units0 (fun _ t => LoopI X pins σ H t) e e2 (fun i h1 h2 t q => turnG hD h ⟨hr, rfl⟩ p r r2 i h1 h2 t q) (fun s' l => ?_) ⟨H, I, Ext.rfl'⟩
  obtain ⟨H', I', e'⟩ := l
  exact ⟨.bl false, H', I', rfl, q H' e'⟩
end
end Ly

set_option Elab.async false
set_option linter.all false
set_option maxRecDepth 100000
set_option maxHeartbeats 8000000
namespace K67
open PySem PySem.Spec PyProof.Rows L2 Ly Cut

abbrev s_check_cutter : Stmt := topS 37
abbrev N_check_cutter : List Str := ["value"]
abbrev P_check_cutter : List Str := ["value"]
theorem sc_check_cutter : FnScope N_check_cutter P_check_cutter (defScope s_check_cutter) := ⟨rfl, rfl, rfl, by decide +kernel, rfl, by decide +kernel, by decide +kernel⟩

abbrev s_cutter_text : Stmt := topS 79
abbrev N_cutter_text : List Str := ["cutter"]
abbrev P_cutter_text : List Str := ["cutter"]
theorem sc_cutter_text : FnScope N_cutter_text P_cutter_text (defScope s_cutter_text) := ⟨rfl, rfl, rfl, by decide +kernel, rfl, by decide +kernel, by decide +kernel⟩

abbrev s_is_turn : Stmt := topS 43
abbrev N_is_turn : List Str := ["value", "road", "adds", "cutter"]
abbrev P_is_turn : List Str := ["value"]
theorem sc_is_turn : FnScope N_is_turn P_is_turn (defScope s_is_turn) := ⟨rfl, rfl, rfl, by decide +kernel, rfl, by decide +kernel, by decide +kernel⟩

abbrev s_turn_text : Stmt := topS 81
abbrev N_turn_text : List Str := ["turn", "road", "adds", "cutter"]
abbrev P_turn_text : List Str := ["turn"]
theorem sc_turn_text : FnScope N_turn_text P_turn_text (defScope s_turn_text) := ⟨rfl, rfl, rfl, by decide +kernel, rfl, by decide +kernel, by decide +kernel⟩

abbrev s_lines_of : Stmt := topS 85
abbrev N_lines_of : List Str := ["text"]
abbrev P_lines_of : List Str := ["text"]
theorem sc_lines_of : FnScope N_lines_of P_lines_of (defScope s_lines_of) := ⟨rfl, rfl, rfl, by decide +kernel, rfl, by decide +kernel, by decide +kernel⟩

abbrev s_first_line : Stmt := topS 86
abbrev N_first_line : List Str := ["text"]
abbrev P_first_line : List Str := ["text"]
theorem sc_first_line : FnScope N_first_line P_first_line (defScope s_first_line) := ⟨rfl, rfl, rfl, by decide +kernel, rfl, by decide +kernel, by decide +kernel⟩

abbrev s_read_line : Stmt := topS 87
abbrev N_read_line : List Str := ["text", "value"]
abbrev P_read_line : List Str := ["text", "value"]
theorem sc_read_line : FnScope N_read_line P_read_line (defScope s_read_line) := ⟨rfl, rfl, rfl, by decide +kernel, rfl, by decide +kernel, by decide +kernel⟩

abbrev s_of_any : Stmt := inClass (topS 36) 2
abbrev N_of_any : List Str := ["cls", "parts", "cutter"]
abbrev P_of_any : List Str := ["cls", "parts"]
theorem sc_of_any : FnScope N_of_any P_of_any (defScope s_of_any) := ⟨rfl, rfl, rfl, by decide +kernel, rfl, by decide +kernel, by decide +kernel⟩

abbrev s_cutter_in : Stmt := topS 75
abbrev N_cutter_in : List Str := ["line", "parts", "part"]
abbrev P_cutter_in : List Str := ["line"]
theorem sc_cutter_in : FnScope N_cutter_in P_cutter_in (defScope s_cutter_in) := ⟨rfl, rfl, rfl, by decide +kernel, rfl, by decide +kernel, by decide +kernel⟩

section
variable {P : Program} {w : World} {K : PySem.W.Frag} {mg : Str → Option Value} {base : Heap} {f C R O : Addr} {fd : FuncData}
def spChk (C : Addr) : Sp := fun vs H Q _ => ∃ (x : Addr) (ps : List Part), vs = [.ref x] ∧ CutAt C H x ps ∧ Q .non H
theorem ok_check_cutter (Z : Zs mg) (D : Df K mg "check_cutter" s_check_cutter P_check_cutter f fd) (c : CK K C) (hC : mg "Cutter" = some (.ref C)) : FnOk P w K mg base CX0 1 f fd P_check_cutter (spChk C) := by
  refine D.F.ok sc_check_cutter (fun vs H Q E h => ?_) (fun cdv A outer s H vs Q E hr h => ?_)
  · obtain ⟨x, ps, rfl, _⟩ := h
    rfl
  · obtain ⟨x, ps, rfl, hcx, q⟩ := h
    have nd := sc_check_cutter.nd
    obtain ⟨dx, _, _, _, hx, _⟩ := hcx.ex
    refine ⟨_,
    (pss_one
    (ps_if (pt_not (pt_val (pe_callB call_isi (by rfl) Z.z_isinstance (by decide +kernel) (pa_cons (pv 0) (pa_cons (pe_glob (v := .ref C) rfl hC rfl) pa_nil)))))
      (pss_one
      ps_never)
      pss_nil)), ?_⟩
    exact ⟨_, rfl, .ref x, .ref C, _, _, true, rfl, .own C, c.ty hx, c.kit, true, rfl, ifF rfl q⟩

theorem ok_cutter_text (Z : Zs mg) (D : Df K mg "cutter_text" s_cutter_text P_cutter_text f fd) {f9 : Addr} {f1 : Addr} {d1 : FuncData} (D_check_cutter : Cl P w K mg base "check_cutter" 1 f1 d1 P_check_cutter (spChk C)) (sp_str : Sp1 K C f9 "__str__") (F_str : FnR P w K mg base CX0 1 f9 (spCutStr C)) : FnOk P w K mg base CX0 4 f fd P_cutter_text (spCutStr C) := by
  refine D.F.ok sc_cutter_text (fun vs H Q E h => ?_) (fun cdv A outer s H vs Q E hr h => ?_)
  · obtain ⟨x, ps, rfl, _⟩ := h
    rfl
  · obtain ⟨x, ps, rfl, hcx, q⟩ := h
    have nd := sc_cutter_text.nd
    obtain ⟨dx, _, _, _, hx, _⟩ := hcx.ex
    refine ⟨_,
    (pss_cons
    (ps_expr (pe_call D_check_cutter.ok (hr.mono (by decide)) (by rfl) D_check_cutter.g D_check_cutter.kp D_check_cutter.b .nil pass0 (pa_cons (pv 0) pa_nil)))
    (pss_one
    (ps_ret (pe_callTy (call_strO sp_str F_str (hr.mono (by decide)) pass0) (by rfl) Z.z_str (by decide +kernel) (pa_cons (pv 0) pa_nil))))), ?_⟩
    refine ⟨_, rfl, x, ps, rfl, hcx, ?_⟩
    exact ⟨_, rfl, x, dx, _, rfl, hx, x, ps, rfl, hcx, fun H1 s1 => ⟨_, rfl, q H1 s1⟩⟩

def spIsTurn (C : Addr) : Sp := fun vs H Q _ => ∃ (t x y : Addr) (ps qs : List Part) (b : Bool), vs = [.ref t] ∧ H t = some (.tup [.ref x, .bl b, .ref y]) ∧ CutAt C H x ps ∧ CutAt C H y qs ∧ Q (.bl true) H
theorem ok_is_turn (Z : Zs mg) (D : Df K mg "is_turn" s_is_turn P_is_turn f fd) (c : CK K C) (hC : mg "Cutter" = some (.ref C)) : FnOk P w K mg base CX0 1 f fd P_is_turn (spIsTurn C) := by
  refine D.F.ok sc_is_turn (fun vs H Q E h => ?_) (fun cdv A outer s H vs Q E hr h => ?_)
  · obtain ⟨t, x, y, ps, qs, b, rfl, _⟩ := h
    rfl
  · obtain ⟨t, x, y, ps, qs, b, rfl, ht, hcx, hcy, q⟩ := h
    have nd := sc_is_turn.nd
    obtain ⟨dx, _, _, _, hx, _⟩ := hcx.ex
    obtain ⟨dy, _, _, _, hy, _⟩ := hcy.ex
    refine ⟨_,
    (pss_cons
    (ps_if (PW.pt (pw_or (pt_not (pt_val (pe_callB call_isi (by rfl) Z.z_isinstance (by decide +kernel) (pa_cons (pv 0) (pa_cons (pe_bltn (v := .ty "tuple") (by rfl) Z.z_tuple (by decide +kernel) rfl) pa_nil))))) (pw_or1 (pt_cmpR op_ne (pe_callB call_lenT (by rfl) Z.z_len (by decide +kernel) (pa_cons (pv 0) pa_nil)) pe_int (nomark _)))))
      (pss_one
      (ps_ret pe_bl))
      pss_nil)
    (pss_cons
    (ps_asg (pv 0) (pg_tup rfl (pgs_cons (pg_name (i := 1) nd rfl (Or.inl rfl)) (pgs_cons (pg_name (i := 2) nd rfl (Or.inl rfl)) (pgs_cons (pg_name (i := 3) nd rfl (Or.inl rfl)) pgs_nil)))))
    (pss_one
    (ps_ret (pe_and (pe_callB call_isi (by rfl) Z.z_isinstance (by decide +kernel) (pa_cons (pv 1) (pa_cons (pe_glob (v := .ref C) rfl hC rfl) pa_nil))) (pe_and (pe_callB call_isi (by rfl) Z.z_isinstance (by decide +kernel) (pa_cons (pv 2) (pa_cons (pe_bltn (v := .ty "bool") (by rfl) Z.z_bool (by decide +kernel) rfl) pa_nil))) (pe_one (pe_callB call_isi (by rfl) Z.z_isinstance (by decide +kernel) (pa_cons (pv 3) (pa_cons (pe_glob (v := .ref C) rfl hC rfl) pa_nil)))))))))), ?_⟩
    refine ⟨_, rfl, .ref t, .ty "tuple", _, _, true, rfl, .ty _, .base (.tup ht), kit_ty (by decide +kernel), true, rfl, ifF rfl ?_⟩
    refine ⟨_, rfl, t, _, rfl, .of ht, rfl, _, rfl, ifF rfl ?_⟩
    dsimp only [tNext]
    refine ⟨_, rfl, t, _, rfl, .of ht, rfl, _, _, rfl, _, _, rfl, _, _, rfl, rfl, ?_⟩
    refine ⟨_, rfl, .ref x, .ref C, _, _, true, rfl, .own C, c.ty hx, c.kit, true, rfl, ?_⟩
    refine ⟨_, rfl, .bl b, .ty "bool", _, _, true, rfl, .ty _, .base (.bl b), kit_ty (by decide +kernel), true, rfl, ?_⟩
    exact ⟨_, rfl, .ref y, .ref C, _, _, true, rfl, .own C, c.ty hy, c.kit, q⟩

def spTurnText (C : Addr) : Sp := fun vs H Q _ => ∃ (t x y : Addr) (ps qs : List Part) (b : Bool), vs = [.ref t] ∧ H t = some (.tup [.ref x, .bl b, .ref y]) ∧ CutAt C H x ps ∧ CutAt C H y qs ∧ ∀ H', Same H H' → Q (.str (turnText ps b qs)) H'
theorem ok_turn_text (Z : Zs mg) (D : Df K mg "turn_text" s_turn_text P_turn_text f fd) {f9 : Addr} {f1 : Addr} {d1 : FuncData} (D_is_turn : Cl P w K mg base "is_turn" 1 f1 d1 P_is_turn (spIsTurn C)) (sp_str : Sp1 K C f9 "__str__") (F_str : FnR P w K mg base CX0 1 f9 (spCutStr C)) : FnOk P w K mg base CX0 4 f fd P_turn_text (spTurnText C) := by
  refine D.F.ok sc_turn_text (fun vs H Q E h => ?_) (fun cdv A outer s H vs Q E hr h => ?_)
  · obtain ⟨t, x, y, ps, qs, b, rfl, _⟩ := h
    rfl
  · obtain ⟨t, x, y, ps, qs, b, rfl, ht, hcx, hcy, q⟩ := h
    have nd := sc_turn_text.nd
    obtain ⟨dx, _, _, _, hx, _⟩ := hcx.ex
    obtain ⟨dy, _, _, _, hy, _⟩ := hcy.ex
    have n1 := cutText_len8 hcx.ok hcx.le
    have n2 := cutText_len8 hcy.ok hcy.le
    refine ⟨_,
    (pss_cons
    (ps_if (pt_not (pt_val (pe_call D_is_turn.ok (hr.mono (by decide)) (by rfl) D_is_turn.g D_is_turn.kp D_is_turn.b .nil pass0 (pa_cons (pv 0) pa_nil))))
      (pss_one
      ps_never)
      pss_nil)
    (pss_cons
    (ps_asg (pv 0) (pg_tup rfl (pgs_cons (pg_name (i := 1) nd rfl (Or.inl rfl)) (pgs_cons (pg_name (i := 2) nd rfl (Or.inl rfl)) (pgs_cons (pg_name (i := 3) nd rfl (Or.inl rfl)) pgs_nil)))))
    (pss_one
    (ps_ret (pe_join (pe_gS rfl Z.g_BETWEEN_CUTTERS) (pe_lst (pa_cons (pe_callTy (call_strO sp_str F_str (hr.mono (by decide)) pass0) (by rfl) Z.z_str (by decide +kernel) (pa_cons (pv 1) pa_nil)) (pa_cons (pe_ifExp (pt_val (pv 2)) (pe_gS rfl Z.g_ADDS) (pe_gS rfl Z.g_HIDES)) (pa_cons (pe_callTy (call_strO sp_str F_str (hr.mono (by decide)) pass0) (by rfl) Z.z_str (by decide +kernel) (pa_cons (pv 3) pa_nil)) pa_nil))))))))), ?_⟩
    refine ⟨_, rfl, t, x, y, ps, qs, b, rfl, ht, hcx, hcy, true, rfl, ifF rfl ?_⟩
    dsimp only [tNext]
    refine ⟨_, rfl, t, _, rfl, .of ht, rfl, _, _, rfl, _, _, rfl, _, _, rfl, rfl, ?_⟩
    refine ⟨⟨_, rfl⟩, _, rfl, x, dx, _, rfl, hx, x, ps, rfl, hcx, fun H1 s1 => ⟨_, rfl, ?_⟩⟩
    have fin : ∀ z : Str, z = turnW b → ∃ v, (some (some (V.ref y)) : Option (Option V)) = some (some v) ∧ v = .ref y := fun _ _ => ⟨_, rfl, rfl⟩
    have e3 : (Str.ofString " | ").length = 3 := by decide +kernel
    have sz : (([cutText ps, turnW b, cutText qs] : List Str).map fun z => z.length).sum + ([cutText ps, turnW b, cutText qs] : List Str).length * (Str.ofString " | ").length ≤ 16777216 := by
      rw [e3]
      have : (turnW b).length ≤ 5 := by cases b <;> decide +kernel
      show (cutText ps).length + ((turnW b).length + ((cutText qs).length + 0)) + 3 * 3 ≤ 16777216
      omega
    cases b with
    | true => exact ⟨_, rfl, true, rfl, ifT rfl ⟨_, rfl, y, dy, _, rfl, s1 _ _ hy, y, qs, rfl, hcy.same s1, fun H2 s2 => ⟨_, rfl, by show 3 ≤ sizeLine; decide, fun l nl => ⟨_, l, [cutText ps, turnW true, cutText qs], rfl, rfl, .inl (.of upd_same), sz, q _ ((s1.trans s2).trans (same_new nl))⟩⟩⟩⟩
    | false => exact ⟨_, rfl, false, rfl, ifF rfl ⟨_, rfl, y, dy, _, rfl, s1 _ _ hy, y, qs, rfl, hcy.same s1, fun H2 s2 => ⟨_, rfl, by show 3 ≤ sizeLine; decide, fun l nl => ⟨_, l, [cutText ps, turnW false, cutText qs], rfl, rfl, .inl (.of upd_same), sz, q _ ((s1.trans s2).trans (same_new nl))⟩⟩⟩⟩

def spLines : Sp := fun vs H Q _ => ∃ (z : Str), vs = [.str z] ∧ Line z ∧ ∀ H' p, Same H H' → H p = none → H' p = some (.lst [.str z]) → Q (.ref p) H'
theorem ok_lines_of (Z : Zs mg) (D : Df K mg "lines_of" s_lines_of P_lines_of f fd)  : FnOk P w K mg base CX0 1 f fd P_lines_of spLines := by
  refine D.F.ok sc_lines_of (fun vs H Q E h => ?_) (fun cdv A outer s H vs Q E hr h => ?_)
  · obtain ⟨z, rfl, _⟩ := h
    rfl
  · obtain ⟨z, rfl, hz, q⟩ := h
    have nd := sc_lines_of.nd
    refine ⟨_,
    (pss_cons
    (ps_if (pt_not (pt_val (pe_callB call_isi (by rfl) Z.z_isinstance (by decide +kernel) (pa_cons (pv 0) (pa_cons (pe_bltn (v := .ty "str") (by rfl) Z.z_str (by decide +kernel) rfl) pa_nil)))))
      (pss_one
      ps_never)
      pss_nil)
    (pss_one
    (ps_ret (pe_split (pv 0) pe_str)))), ?_⟩
    refine ⟨_, rfl, .str z, .ty "str", _, _, true, rfl, .ty _, .base (.str z), kit_ty (by decide +kernel), true, rfl, ifF rfl ?_⟩
    dsimp only [tNext]
    refine ⟨_, rfl, ⟨_, rfl⟩, _, _, rfl, rfl, by decide +kernel, sz1000 (by have := hz.2; omega), fun p np => ?_⟩
    rw [hz.split]
    exact q _ p (same_new np) np upd_same

def spFirst : Sp := fun vs H Q _ => ∃ (z : Str), vs = [.str z] ∧ Line z ∧ ∀ H', Same H H' → Q (.str z) H'
theorem ok_first_line (Z : Zs mg) (D : Df K mg "first_line" s_first_line P_first_line f fd) {f1 : Addr} {d1 : FuncData} (D_lines_of : Cl P w K mg base "lines_of" 1 f1 d1 P_lines_of spLines) : FnOk P w K mg base CX0 2 f fd P_first_line spFirst := by
  refine D.F.ok sc_first_line (fun vs H Q E h => ?_) (fun cdv A outer s H vs Q E hr h => ?_)
  · obtain ⟨z, rfl, _⟩ := h
    rfl
  · obtain ⟨z, rfl, hz, q⟩ := h
    have nd := sc_first_line.nd
    refine ⟨_,
    (pss_one
    (ps_ret (pe_ix ix_list (pe_call D_lines_of.ok (hr.mono (by decide)) (by rfl) D_lines_of.g D_lines_of.kp D_lines_of.b .nil pass0 (pa_cons (pv 0) pa_nil)) pe_int (fun _ _ => rfl)))), ?_⟩
    exact ⟨_, rfl, z, rfl, hz, fun H1 p s1 np hp => ⟨p, _, (0 : Nat), .str z, rfl, rfl, .of hp, rfl, q H1 s1⟩⟩

def spReadLine : Sp := fun vs H Q _ => ∃ (z : Str) (a : Addr), vs = [.str z, .ref a] ∧ Line z ∧ ∀ H', Same H H' → Q (.ref a) H'
theorem ok_read_line (Z : Zs mg) (D : Df K mg "read_line" s_read_line P_read_line f fd) {f1 : Addr} {d1 : FuncData} (D_lines_of : Cl P w K mg base "lines_of" 1 f1 d1 P_lines_of spLines) : FnOk P w K mg base CX0 2 f fd P_read_line spReadLine := by
  refine D.F.ok sc_read_line (fun vs H Q E h => ?_) (fun cdv A outer s H vs Q E hr h => ?_)
  · obtain ⟨z, a, rfl, _⟩ := h
    rfl
  · obtain ⟨z, a, rfl, hz, q⟩ := h
    have nd := sc_read_line.nd
    refine ⟨_,
    (pss_cons
    (ps_if (pt_cmpR op_isN (pv 1) pe_non (nomark _))
      (pss_one
      ps_never)
      pss_nil)
    (pss_cons
    (ps_if (pt_cmpR op_gt (pe_callB call_lenL (by rfl) Z.z_len (by decide +kernel) (pa_cons (pe_call D_lines_of.ok (hr.mono (by decide)) (by rfl) D_lines_of.g D_lines_of.kp D_lines_of.b .nil pass0 (pa_cons (pv 0) pa_nil)) pa_nil)) pe_int (nomark _))
      (pss_one
      ps_never)
      pss_nil)
    (pss_one
    (ps_ret (pv 1))))), ?_⟩
    refine ⟨_, rfl, rfl, _, rfl, ifF rfl ?_⟩
    dsimp only [tNext]
    refine ⟨_, rfl, z, rfl, hz, fun H1 p s1 np hp => ⟨p, _, rfl, .of hp, _, _, rfl, rfl, _, rfl, ifF rfl ?_⟩⟩
    dsimp only [tNext]
    exact ⟨_, rfl, q H1 s1⟩

def spOfAny (C : Addr) : Sp := fun vs H Q _ => ∃ (a : Addr) (ps : List Part), vs = [.ref C, .ref a] ∧ H a = some (.tup (pV ps)) ∧ (∀ p ∈ ps, Ok p) ∧ ps.length ≤ 8 ∧ ∀ H' x, Same H H' → H x = none → CutAt C H' x ps → Q (.ref x) H'
theorem ok_of_any (Z : Zs mg) (D : Dm K "of_any" "Cutter.of_any" s_of_any P_of_any f fd) (c : CK K C) {fi f1 f2 : Addr} {d1 d2 : FuncData} (M : Mk K C fi) (FI : FnR P w K mg base CX0 5 fi (spInit C)) (D_table_of : Cl P w K mg base "table_of" 4 f1 d1 P_table_of (spTable K)) (D_keep_all : Cl P w K mg base "keep_all" 1 f2 d2 P_keep_all (spKeepAll K)) : FnOk P w K mg base CX0 7 f fd P_of_any (spOfAny C) := by
  refine D.F.ok sc_of_any (fun vs H Q E h => ?_) (fun cdv A outer s H vs Q E hr h => ?_)
  · obtain ⟨a, ps, rfl, _⟩ := h
    rfl
  · obtain ⟨a, ps, rfl, ha, hok, hl, q⟩ := h
    have nd := sc_of_any.nd
    refine ⟨_,
    (pss_cons
    (ps_set (i := 2) nd rfl (Or.inl rfl) (pe_makeV0 M FI (hr.mono (by decide)) pass0 (pv 0)))
    (pss_cons
    (ps_fld (pv 2) (pv 1) rfl)
    (pss_cons
    (ps_fld (pv 2) (pe_call D_table_of.ok (hr.mono (by decide)) (by rfl) D_table_of.g D_table_of.kp D_table_of.b .nil pass0 (pa_cons (pv 1) pa_nil)) rfl)
    (pss_cons
    (ps_fld (pv 2) (pe_call D_keep_all.ok (hr.mono (by decide)) (by rfl) D_keep_all.g D_keep_all.kp D_keep_all.b .nil pass0 (pa_cons (pv 1) pa_nil)) rfl)
    (pss_one
    (ps_ret (pv 2))))))), ?_⟩
    refine ⟨_, rfl, rfl, fun x dx nx ndx hne => ⟨x, dx, [], rfl, upd_same, (fun _ z => by cases z), by decide, fun H1 c1 k1 => ⟨rfl, ?_⟩⟩⟩
    obtain ⟨dz, p0, t0, ts0, hx, _⟩ := k1.ex
    have s1 : ∀ b o, H b = some o → H1 b = some o := fun b o e => c1 b o (ne_of_none e nx) (by rw [upd_ne (ne_of_none e nx), upd_ne (ne_of_none e ndx)]; exact e)
    have ha1 := s1 _ _ ha
    have hax : a ≠ x := ne_of_none ha nx
    refine ⟨_, rfl, _, rfl, x, C, dz, _, rfl, hx, c.cls, c.np, by show 3 < 1000; decide, ?_⟩
    have c2 : Chg x H (upd H1 x (.ins C dz (putF "_parts" (.ref a) [("_parts", .ref p0), ("_table", .ref t0), ("_keeps_all", .bl (keepsAll []))]))) := (Chg.of s1).upd
    have ha2 : (upd H1 x (.ins C dz (putF "_parts" (.ref a) [("_parts", .ref p0), ("_table", .ref t0), ("_keeps_all", .bl (keepsAll []))]))) a = some (.tup (pV ps)) := by rw [upd_ne hax]; exact ha1
    have hx2 : (upd H1 x (.ins C dz (putF "_parts" (.ref a) [("_parts", .ref p0), ("_table", .ref t0), ("_keeps_all", .bl (keepsAll []))]))) x = some (.ins C dz [("_parts", .ref a), ("_table", .ref t0), ("_keeps_all", .bl (keepsAll []))]) := upd_same
    generalize upd H1 x (.ins C dz (putF "_parts" (.ref a) [("_parts", .ref p0), ("_table", .ref t0), ("_keeps_all", .bl (keepsAll []))])) = H2 at c2 ha2 hx2 ⊢
    refine ⟨_, rfl, a, ps, rfl, .of ha2, hok, fun H3 t ts s3 nt ht hlen hts => ?_⟩
    refine ⟨_, rfl, x, C, dz, _, rfl, s3 _ _ hx2, c.cls, c.nt, by show 3 < 1000; decide, ?_⟩
    have ntx : t ≠ x := fun e => by rw [e, hx2] at nt; cases nt
    have c4 := (c2.trans (Chg.of s3)).upd (d := x) (o := HO.ins C dz [("_parts", .ref a), ("_table", .ref t), ("_keeps_all", .bl (keepsAll []))])
    have ha4 : (upd H3 x (.ins C dz [("_parts", .ref a), ("_table", .ref t), ("_keeps_all", .bl (keepsAll []))])) a = some (.tup (pV ps)) := by rw [upd_ne hax]; exact s3 _ _ ha2
    have ht4 : (upd H3 x (.ins C dz [("_parts", .ref a), ("_table", .ref t), ("_keeps_all", .bl (keepsAll []))])) t = some (.tup ts) := by rw [upd_ne ntx]; exact ht
    have hx4 : (upd H3 x (.ins C dz [("_parts", .ref a), ("_table", .ref t), ("_keeps_all", .bl (keepsAll []))])) x = some (.ins C dz [("_parts", .ref a), ("_table", .ref t), ("_keeps_all", .bl (keepsAll []))]) := upd_same
    have hq4 : ∀ j, j < 7 → ∃ q, ts[j]? = some (.ref q) ∧ (upd H3 x (.ins C dz [("_parts", .ref a), ("_table", .ref t), ("_keeps_all", .bl (keepsAll []))])) q = some (.tup (iV (places ps j))) := fun j hj => by
      obtain ⟨r, e1, e2⟩ := hts j hj
      have nrx : r ≠ x := fun e => by rw [e, s3 _ _ hx2] at e2; cases e2
      exact ⟨r, e1, by rw [upd_ne nrx]; exact e2⟩
    rw [show putF "_table" (V.ref t) [((("_parts" : Str)), V.ref a), ((("_table" : Str)), V.ref t0), ((("_keeps_all" : Str)), V.bl (keepsAll []))] = [((("_parts" : Str)), V.ref a), ((("_table" : Str)), V.ref t), ((("_keeps_all" : Str)), V.bl (keepsAll []))] from rfl]
    generalize upd H3 x (.ins C dz [("_parts", .ref a), ("_table", .ref t), ("_keeps_all", .bl (keepsAll []))]) = H4 at c4 ha4 ht4 hx4 hq4 ⊢
    refine ⟨_, rfl, a, ps, rfl, .of ha4, hok, hl, fun H5 s5 => ?_⟩
    refine ⟨_, rfl, x, C, dz, _, rfl, s5 _ _ hx4, c.cls, c.nk, by show 3 < 1000; decide, ?_⟩
    refine ⟨_, rfl, q _ x ?_ nx ⟨hok, hl, dz, a, t, ts, upd_same, ?_, ?_, hlen, fun j hj => ?_⟩⟩
    · have c6 := (c4.trans (Chg.of s5)).upd (d := x) (o := HO.ins C dz (putF "_keeps_all" (.bl (keepsAll ps)) [("_parts", .ref a), ("_table", .ref t), ("_keeps_all", .bl (keepsAll []))]))
      exact fun b o e => c6 b o (ne_of_none e nx) e
    · rw [upd_ne hax]
      exact s5 _ _ ha4
    · rw [upd_ne ntx]
      exact s5 _ _ ht4
    · obtain ⟨r, e1, e2⟩ := hq4 j hj
      have nrx : r ≠ x := fun e => by rw [e, hx4] at e2; cases e2
      exact ⟨r, e1, by rw [upd_ne nrx]; exact s5 _ _ e2⟩

def spCutIn (C : Addr) : Sp := fun vs H Q _ => ∃ (ps : List Part), vs = [.str (cutText ps)] ∧ (∀ p ∈ ps, Ok p) ∧ ps.length ≤ 8 ∧ ∀ H' x, Same H H' → H x = none → CutAt C H' x (rd ps) → Q (.ref x) H'
theorem ok_cutter_in (Z : Zs mg) (D : Df K mg "cutter_in" s_cutter_in P_cutter_in f fd) (hC : mg "Cutter" = some (.ref C)) {f1 : Addr} {d1 : FuncData} (D_is_part : Cl P w K mg base "is_part" 1 f1 d1 P_is_part spIsPart) {fa pa : Addr} {mc : Value} (cr : ClX.CRead K C mc) (cmA : ClX.CMet K C mc "of_any" pa fa) (F_any : FnR P w K mg base CX0 7 fa (spOfAny C)) : FnOk P w K mg base CX0 8 f fd P_cutter_in (spCutIn C) := by
  refine D.F.ok sc_cutter_in (fun vs H Q E h => ?_) (fun cdv A outer s H vs Q E hr h => ?_)
  · obtain ⟨ps, rfl, _⟩ := h
    rfl
  · obtain ⟨ps, rfl, hok, hl, q⟩ := h
    have nd := sc_cutter_in.nd
    have n1 := cutText_len8 hok hl
    have hl2 := rd_len hl (by decide)
    refine ⟨_,
    (pss_cons
    (ps_set (i := 1) nd rfl (Or.inl rfl) (pe_callTy call_tuple_of (by rfl) Z.z_tuple (by decide +kernel) (pa_cons (pe_split (pv 0) (pe_gS rfl Z.g_BETWEEN_PARTS)) pa_nil)))
    (pss_cons
    (ps_if (pt_not (pt_val (pe_callB (cr_all rfl) (by rfl) Z.z_all (by decide +kernel) (pa_cons (pe_lc (own := [("part", 2)]) (g := gName 2) (tt := tYes) rfl nd (pi_tup (pv 1)) (blkOk_by (N := N_cutter_in) (sc := defScope s_cutter_in) (by decide +kernel)) (fun _ _ _ _ _ => (pg_name (i := 2) nd rfl (Or.inl rfl))) (fun _ _ _ _ _ => pts_nil) (fun _ _ _ _ _ => (pe_call D_is_part.ok (hr.mono (by decide)) (by rfl) D_is_part.g D_is_part.kp D_is_part.b .nil pass0 (pa_cons (pv 2) pa_nil)))) pa_nil))))
      (pss_one
      (ps_ret pe_non))
      pss_nil)
    (pss_one
    (ps_ret (ClX.pe_cmeth (pe_glob (v := .ref C) rfl hC rfl) cr cmA F_any (hr.mono (by decide)) pass0 (pa_cons (pv 1) pa_nil)))))), ?_⟩
    refine ⟨_, rfl, ⟨_, rfl⟩, _, _, rfl, rfl, by decide +kernel, sz1000 (by omega), fun l nl => ?_⟩
    rw [split_cut hok]
    have e4 : ((rd ps).map Part.text).map V.str = pV (rd ps) := by
      unfold pV
      rw [List.map_map]
      rfl
    rw [e4]
    refine ⟨l, _, rfl, .inl ⟨.of upd_same, fun t nt => ?_⟩⟩
    have s1 := (same_new (o := .lst (pV (rd ps))) nl).trans (same_new (o := .tup (pV (rd ps))) nt)
    have ht : (upd (upd H l (.lst (pV (rd ps)))) t (.tup (pV (rd ps)))) t = some (.tup (pV (rd ps))) := upd_same
    generalize upd (upd H l (.lst (pV (rd ps)))) t (.tup (pV (rd ps))) = H1 at s1 ht ⊢
    refine ⟨_, rfl, t, rfl, ⟨_, .of ht⟩, fun D9 nD => ?_⟩
    refine lc_mapT (pV (rd ps)) (fun _ => .bl true) (.of ht) nD (by rw [pV_len]; exact sz1000 (by omega)) (fun i v H2 Q' N hv s2 k => ?_) (fun H2 s2 hd => ?_)
    · obtain ⟨pt, hpt, rfl⟩ := pV_get hv
      exact ⟨rfl, _, rfl, pt, rfl, rd_ok hok pt (List.mem_of_getElem? hpt), fun H3 s3 => k H3 s3⟩
    · refine ⟨D9, (rd ps).map fun _ => true, rfl, .of ?_, ?_⟩
      · rw [hd]
        unfold pV
        rw [List.map_map, List.map_map]
        rfl
      · rw [show ((rd ps).map fun _ => true).all id = true from List.all_eq_true.mpr fun b hb => by
          obtain ⟨_, _, rfl⟩ := List.mem_map.mp hb
          rfl]
        refine ⟨true, rfl, ifF rfl ?_⟩
        dsimp only [tNext]
        exact ⟨rfl, _, rfl, t, rd ps, rfl, s2 _ _ ht, rd_ok hok, hl2, fun H3 x s3 nx k3 => q H3 x ((s1.trans s2).trans s3) ((s1.trans s2).free nx) k3⟩

end
end K67
set_option Elab.async false
set_option linter.all false
set_option maxRecDepth 100000
set_option maxHeartbeats 8000000
namespace K67
open PySem PySem.Spec PyProof.Rows L2 Ly Cut

abbrev s_rinit : Stmt := inClass (topS 66) 0
abbrev N_rinit : List Str := ["self", "cutter", "sees_lost"]
abbrev P_rinit : List Str := ["self", "cutter", "sees_lost"]
theorem sc_rinit : FnScope N_rinit P_rinit (defScope s_rinit) := ⟨rfl, rfl, rfl, by decide +kernel, rfl, by decide +kernel, by decide +kernel⟩

abbrev s_rcutter : Stmt := inClass (topS 66) 1
abbrev N_rcutter : List Str := ["self"]
abbrev P_rcutter : List Str := ["self"]
theorem sc_rcutter : FnScope N_rcutter P_rcutter (defScope s_rcutter) := ⟨rfl, rfl, rfl, by decide +kernel, rfl, by decide +kernel, by decide +kernel⟩

abbrev s_rsees : Stmt := inClass (topS 66) 2
abbrev N_rsees : List Str := ["self"]
abbrev P_rsees : List Str := ["self"]
theorem sc_rsees : FnScope N_rsees P_rsees (defScope s_rsees) := ⟨rfl, rfl, rfl, by decide +kernel, rfl, by decide +kernel, by decide +kernel⟩

abbrev s_req : Stmt := inClass (topS 66) 9
abbrev N_req : List Str := ["self", "other"]
abbrev P_req : List Str := ["self", "other"]
theorem sc_req : FnScope N_req P_req (defScope s_req) := ⟨rfl, rfl, rfl, by decide +kernel, rfl, by decide +kernel, by decide +kernel⟩

abbrev s_check_rule : Stmt := topS 67
abbrev N_check_rule : List Str := ["value"]
abbrev P_check_rule : List Str := ["value"]
theorem sc_check_rule : FnScope N_check_rule P_check_rule (defScope s_check_rule) := ⟨rfl, rfl, rfl, by decide +kernel, rfl, by decide +kernel, by decide +kernel⟩

abbrev s_rule_text : Stmt := topS 80
abbrev N_rule_text : List Str := ["rule"]
abbrev P_rule_text : List Str := ["rule"]
theorem sc_rule_text : FnScope N_rule_text P_rule_text (defScope s_rule_text) := ⟨rfl, rfl, rfl, by decide +kernel, rfl, by decide +kernel, by decide +kernel⟩

abbrev s_rule_in : Stmt := topS 76
abbrev N_rule_in : List Str := ["line", "word", "_", "rest", "cutter"]
abbrev P_rule_in : List Str := ["line"]
theorem sc_rule_in : FnScope N_rule_in P_rule_in (defScope s_rule_in) := ⟨rfl, rfl, rfl, by decide +kernel, rfl, by decide +kernel, by decide +kernel⟩

abbrev s_turn_in : Stmt := topS 77
abbrev N_turn_in : List Str := ["line", "parts", "road", "cutter"]
abbrev P_turn_in : List Str := ["line"]
theorem sc_turn_in : FnScope N_turn_in P_turn_in (defScope s_turn_in) := ⟨rfl, rfl, rfl, by decide +kernel, rfl, by decide +kernel, by decide +kernel⟩

abbrev s_read_cutter : Stmt := topS 82
abbrev N_read_cutter : List Str := ["text"]
abbrev P_read_cutter : List Str := ["text"]
theorem sc_read_cutter : FnScope N_read_cutter P_read_cutter (defScope s_read_cutter) := ⟨rfl, rfl, rfl, by decide +kernel, rfl, by decide +kernel, by decide +kernel⟩

abbrev s_read_rule : Stmt := topS 83
abbrev N_read_rule : List Str := ["text"]
abbrev P_read_rule : List Str := ["text"]
theorem sc_read_rule : FnScope N_read_rule P_read_rule (defScope s_read_rule) := ⟨rfl, rfl, rfl, by decide +kernel, rfl, by decide +kernel, by decide +kernel⟩

abbrev s_read_turn : Stmt := topS 84
abbrev N_read_turn : List Str := ["text"]
abbrev P_read_turn : List Str := ["text"]
theorem sc_read_turn : FnScope N_read_turn P_read_turn (defScope s_read_turn) := ⟨rfl, rfl, rfl, by decide +kernel, rfl, by decide +kernel, by decide +kernel⟩

section
variable {P : Program} {w : World} {K : PySem.W.Frag} {mg : Str → Option Value} {base : Heap} {f C R O : Addr} {fd : FuncData}
/-- what a class of one's own must have -/
structure KC (K : PySem.W.Frag) (C : Addr) : Prop where
  cls : Cls K C
  cc : PySem.W.findIn K (.ref C) "__class__" = some (some (.builtin "object.__class__"))
  cg : PySem.W.specialIn K (.builtin "object.__class__") "__get__" = some (some (.builtin "getset_descriptor.__get__"))
  ct : PySem.W.takesIn K (.builtin "object.__class__") = some true
  cm : PySem.W.mroIn K C (.type "object") = some true
  kit : PySem.W.kitOne K (.ref C) (.ref C) = some true
theorem KC.ty {K : PySem.W.Frag} {C : Addr} (c : KC K C) {H : Hp} {a dx : Addr} {fs : List (Str × V)} (e : H a = some (.ins C dx fs)) : TyX K H (.ref a) (.ref C) := .base (.ins e c.cls c.cc c.cg c.ct c.cm)
/-- a rule with the cutter at x stands at r -/
def RuleAt (R : Addr) (H : Hp) (r x : Addr) (b : Bool) : Prop := ∃ dr, H r = some (.ins R dr [("_cutter", .ref x), ("_sees_lost", .bl b)])
theorem RuleAt.same {R r x : Addr} {b : Bool} {H H' : Hp} (h : RuleAt R H r x b) (s : Same H H') : RuleAt R H' r x b := let ⟨dr, e⟩ := h; ⟨dr, s _ _ e⟩
def spRInit (R C : Addr) : Sp := fun vs H Q _ => ∃ (r dr x : Addr) (ps : List Part) (b : Bool), vs = [.ref r, .ref x, .bl b] ∧ H r = some (.ins R dr []) ∧ CutAt C H x ps ∧ ∀ H', Chg r H H' → RuleAt R H' r x b → Q .non H'
theorem ok_rinit (Z : Zs mg) (F : FunD K "__init__" "Rule.__init__" (defArgs s_rinit) (defBody s_rinit) (defScope s_rinit) [] [("sees_lost", .bl false)] f fd) (rk : KC K R) (n1 : NoAttr K R "_cutter") (n2 : NoAttr K R "_sees_lost") {f1 : Addr} {d1 : FuncData} (D_check_cutter : Cl P w K mg base "check_cutter" 1 f1 d1 P_check_cutter (spChk C)) : FnOk P w K mg base CX0 2 f fd P_rinit (spRInit R C) := by
  refine F.ok sc_rinit (fun vs H Q E h => ?_) (fun cdv A outer s H vs Q E hr h => ?_)
  · obtain ⟨r, dr, x, ps, b, rfl, _⟩ := h
    rfl
  · obtain ⟨r, dr, x, ps, b, rfl, hr0, hcx, q⟩ := h
    have nd := sc_rinit.nd
    refine ⟨_,
    (pss_cons
    (ps_expr (pe_call D_check_cutter.ok (hr.mono (by decide)) (by rfl) D_check_cutter.g D_check_cutter.kp D_check_cutter.b .nil pass0 (pa_cons (pv 1) pa_nil)))
    (pss_cons
    (ps_if (pt_not (pt_val (pe_callB call_isi (by rfl) Z.z_isinstance (by decide +kernel) (pa_cons (pv 2) (pa_cons (pe_bltn (v := .ty "bool") (by rfl) Z.z_bool (by decide +kernel) rfl) pa_nil)))))
      (pss_one
      ps_never)
      pss_nil)
    (pss_cons
    (ps_fld (pv 0) (pv 1) rfl)
    (pss_one
    (ps_fld (pv 0) (pv 2) rfl))))), ?_⟩
    refine ⟨_, rfl, x, ps, rfl, hcx, ?_⟩
    refine ⟨_, rfl, .bl b, .ty "bool", _, _, true, rfl, .ty _, .base (.bl b), kit_ty (by decide +kernel), true, rfl, ifF rfl ?_⟩
    dsimp only [tNext]
    refine ⟨_, rfl, _, rfl, r, R, dr, [], rfl, hr0, rk.cls, n1, by decide, ?_⟩
    refine ⟨_, rfl, _, rfl, r, R, dr, [("_cutter", .ref x)], rfl, upd_same, rk.cls, n2, by show 1 < 1000; decide, ?_⟩
    exact q _ (((Chg.refl r H).upd).upd) ⟨dr, upd_same⟩

def spRCut (R : Addr) : Sp := fun vs H Q _ => ∃ (r x : Addr) (b : Bool), vs = [.ref r] ∧ RuleAt R H r x b ∧ Q (.ref x) H
theorem ok_rcutter (Z : Zs mg) (D : Dm K "cutter" "Rule.cutter" s_rcutter P_rcutter f fd) (rk : KC K R) (n1 : NoAttr K R "_cutter") : FnOk P w K mg base CX0 1 f fd P_rcutter (spRCut R) := by
  refine D.F.ok sc_rcutter (fun vs H Q E h => ?_) (fun cdv A outer s H vs Q E hr h => ?_)
  · obtain ⟨r, x, b, rfl, _⟩ := h
    rfl
  · obtain ⟨r, x, b, rfl, ⟨dr, hr0⟩, q⟩ := h
    have nd := sc_rcutter.nd
    refine ⟨_,
    (pss_one
    (ps_ret (pe_fld (pv 0) rfl))), ?_⟩
    exact ⟨_, rfl, r, R, dr, _, .ref x, rfl, hr0, rk.cls, n1, rfl, q⟩

def spRSees (R : Addr) : Sp := fun vs H Q _ => ∃ (r x : Addr) (b : Bool), vs = [.ref r] ∧ RuleAt R H r x b ∧ Q (.bl b) H
theorem ok_rsees (Z : Zs mg) (D : Dm K "sees_lost" "Rule.sees_lost" s_rsees P_rsees f fd) (rk : KC K R) (n1 : NoAttr K R "_sees_lost") : FnOk P w K mg base CX0 1 f fd P_rsees (spRSees R) := by
  refine D.F.ok sc_rsees (fun vs H Q E h => ?_) (fun cdv A outer s H vs Q E hr h => ?_)
  · obtain ⟨r, x, b, rfl, _⟩ := h
    rfl
  · obtain ⟨r, x, b, rfl, ⟨dr, hr0⟩, q⟩ := h
    have nd := sc_rsees.nd
    refine ⟨_,
    (pss_one
    (ps_ret (pe_fld (pv 0) rfl))), ?_⟩
    exact ⟨_, rfl, r, R, dr, _, .bl b, rfl, hr0, rk.cls, n1, rfl, q⟩

def spREq (R C : Addr) : Sp := fun vs H Q _ => ∃ (r r2 x y : Addr) (ps qs : List Part) (b : Bool), vs = [.ref r, .ref r2] ∧ RuleAt R H r x b ∧ RuleAt R H r2 y b ∧ CutAt C H x ps ∧ CutAt C H y qs ∧ alike ps qs = true ∧ Q (.bl true) H
theorem ok_req (Z : Zs mg) (D : Dm K "__eq__" "Rule.__eq__" s_req P_req f fd) (rk : KC K R) (n1 : NoAttr K R "_cutter") (n2 : NoAttr K R "_sees_lost") (hR : mg "Rule" = some (.ref R)) {f5 : Addr} (sp_eq : Sp1 K C f5 "__eq__") (F_eq : FnR P w K mg base CX0 1 f5 (spCutEq C)) : FnOk P w K mg base CX0 2 f fd P_req (spREq R C) := by
  refine D.F.ok sc_req (fun vs H Q E h => ?_) (fun cdv A outer s H vs Q E hr h => ?_)
  · obtain ⟨r, r2, x, y, ps, qs, b, rfl, _⟩ := h
    rfl
  · obtain ⟨r, r2, x, y, ps, qs, b, rfl, ⟨dr, hr0⟩, ⟨dr2, hr2⟩, hcx, hcy, ha, q⟩ := h
    have nd := sc_req.nd
    obtain ⟨dx, _, _, _, hx, _⟩ := hcx.ex
    obtain ⟨dy, _, _, _, hy, _⟩ := hcy.ex
    refine ⟨_,
    (pss_cons
    (ps_if (pt_not (pt_val (pe_callB call_isi (by rfl) Z.z_isinstance (by decide +kernel) (pa_cons (pv 1) (pa_cons (pe_glob (v := .ref R) rfl hR rfl) pa_nil)))))
      (pss_one
      (ps_ret pe_bl))
      pss_nil)
    (pss_one
    (ps_ret (pe_and (pe_cmpR (op_eqO sp_eq F_eq (hr.mono (by decide)) pass0) (pe_fld (pv 0) rfl) (pe_fld (pv 1) rfl) (nomark _)) (pe_one (pe_cmpR op_eq (pe_fld (pv 0) rfl) (pe_fld (pv 1) rfl) (nomark _))))))), ?_⟩
    refine ⟨_, rfl, .ref r2, .ref R, _, _, true, rfl, .own R, rk.ty hr2, rk.kit, true, rfl, ifF rfl ?_⟩
    dsimp only [tNext]
    refine ⟨_, rfl, r, R, dr, _, .ref x, rfl, hr0, rk.cls, n1, rfl, _, rfl, r2, R, dr2, _, .ref y, rfl, hr2, rk.cls, n1, rfl, x, y, dx, dy, _, _, rfl, rfl, hx, hy, x, y, ps, qs, rfl, hcx, hcy, alike ps qs, rfl, ?_⟩
    rw [ha]
    refine ⟨true, rfl, ifT rfl ?_⟩
    refine ⟨_, rfl, r, R, dr, _, .bl b, rfl, hr0, rk.cls, n2, rfl, _, rfl, r2, R, dr2, _, .bl b, rfl, hr2, rk.cls, n2, rfl, rfl, ?_⟩
    rw [decide_eq_true rfl]
    exact q

def spChkR (R : Addr) : Sp := fun vs H Q _ => ∃ (r x : Addr) (b : Bool), vs = [.ref r] ∧ RuleAt R H r x b ∧ Q .non H
theorem ok_check_rule (Z : Zs mg) (D : Df K mg "check_rule" s_check_rule P_check_rule f fd) (rk : KC K R) (hR : mg "Rule" = some (.ref R)) : FnOk P w K mg base CX0 1 f fd P_check_rule (spChkR R) := by
  refine D.F.ok sc_check_rule (fun vs H Q E h => ?_) (fun cdv A outer s H vs Q E hr h => ?_)
  · obtain ⟨r, x, b, rfl, _⟩ := h
    rfl
  · obtain ⟨r, x, b, rfl, ⟨dr, hr0⟩, q⟩ := h
    have nd := sc_check_rule.nd
    refine ⟨_,
    (pss_one
    (ps_if (pt_not (pt_val (pe_callB call_isi (by rfl) Z.z_isinstance (by decide +kernel) (pa_cons (pv 0) (pa_cons (pe_glob (v := .ref R) rfl hR rfl) pa_nil)))))
      (pss_one
      ps_never)
      pss_nil)), ?_⟩
    exact ⟨_, rfl, .ref r, .ref R, _, _, true, rfl, .own R, rk.ty hr0, rk.kit, true, rfl, ifF rfl q⟩

def spRuleText (R C : Addr) : Sp := fun vs H Q _ => ∃ (r x : Addr) (ps : List Part) (b : Bool), vs = [.ref r] ∧ RuleAt R H r x b ∧ CutAt C H x ps ∧ ∀ H', Same H H' → Q (.str (ruleText ps b)) H'
theorem ok_rule_text (Z : Zs mg) (D : Df K mg "rule_text" s_rule_text P_rule_text f fd) (rk : KC K R) {f1 : Addr} {d1 : FuncData} (D_check_rule : Cl P w K mg base "check_rule" 1 f1 d1 P_check_rule (spChkR R)) {p7 f7 : Addr} {d7 : FuncData} (pr_cutter : PropOf K R "cutter" p7 f7) (M_cutter : Cm P w K mg base 1 f7 d7 P_rcutter (spRCut R)) {p8 f8 : Addr} {d8 : FuncData} (pr_sees_lost : PropOf K R "sees_lost" p8 f8) (M_sees_lost : Cm P w K mg base 1 f8 d8 P_rsees (spRSees R)) {f9 : Addr} (sp_str : Sp1 K C f9 "__str__") (F_str : FnR P w K mg base CX0 1 f9 (spCutStr C)) : FnOk P w K mg base CX0 3 f fd P_rule_text (spRuleText R C) := by
  refine D.F.ok sc_rule_text (fun vs H Q E h => ?_) (fun cdv A outer s H vs Q E hr h => ?_)
  · obtain ⟨r, x, ps, b, rfl, _⟩ := h
    rfl
  · obtain ⟨r, x, ps, b, rfl, hrr, hcx, q⟩ := h
    have nd := sc_rule_text.nd
    have hrr' := hrr
    obtain ⟨dr, hr0⟩ := hrr'
    obtain ⟨dx, _, _, _, hx, _⟩ := hcx.ex
    have n1 := cutText_len8 hcx.ok hcx.le
    refine ⟨_,
    (pss_cons
    (ps_expr (pe_call D_check_rule.ok (hr.mono (by decide)) (by rfl) D_check_rule.g D_check_rule.kp D_check_rule.b .nil pass0 (pa_cons (pv 0) pa_nil)))
    (pss_one
    (ps_ret (pe_joined (.cons (pe_fmt (pe_ifExp (pt_val (pe_prop (pv 0) rk.cls pr_sees_lost M_sees_lost.ok (hr.mono (by decide)) M_sees_lost.b .nil pass0 rfl)) (pe_gS rfl Z.g_SEES) (pe_gS rfl Z.g_SKIPS))) (.cons pe_str (.cons (pe_fmtO sp_str F_str (hr.mono (by decide)) pass0 (pe_prop (pv 0) rk.cls pr_cutter M_cutter.ok (hr.mono (by decide)) M_cutter.b .nil pass0 rfl)) .nil))))))), ?_⟩
    refine ⟨_, rfl, r, x, b, rfl, hrr, ?_⟩
    refine ⟨_, rfl, r, dr, _, rfl, hr0, r, x, b, rfl, hrr, b, rfl, ?_⟩
    cases b with
    | true =>
      have e4 : Str.empty ++ Str.ofString "sees" ++ Str.ofString " " = ruleW true ++ Str.ofString " " := by decide +kernel
      have e5 : (Str.empty ++ Str.ofString "sees" ++ Str.ofString " " : Str).length ≤ 6 := by decide +kernel
      exact ifT rfl (.inl ⟨_, rfl, by decide +kernel, _, rfl, by decide +kernel, _, rfl, by decide +kernel, _, rfl, r, dr, _, rfl, hr0, r, x, true, rfl, hrr, x, dx, _, rfl, hx, x, ps, rfl, hcx, fun H1 s1 => ⟨_, rfl, sz1000 (by omega), _, rfl, by rw [app_len]; exact sz1000 (by omega), by rw [e4]; exact q _ s1⟩⟩)
    | false =>
      have e4 : Str.empty ++ Str.ofString "skips" ++ Str.ofString " " = ruleW false ++ Str.ofString " " := by decide +kernel
      have e5 : (Str.empty ++ Str.ofString "skips" ++ Str.ofString " " : Str).length ≤ 6 := by decide +kernel
      exact ifF rfl (.inl ⟨_, rfl, by decide +kernel, _, rfl, by decide +kernel, _, rfl, by decide +kernel, _, rfl, r, dr, _, rfl, hr0, r, x, false, rfl, hrr, x, dx, _, rfl, hx, x, ps, rfl, hcx, fun H1 s1 => ⟨_, rfl, sz1000 (by omega), _, rfl, by rw [app_len]; exact sz1000 (by omega), by rw [e4]; exact q _ s1⟩⟩)

end
end K67
set_option Elab.async false
set_option linter.all false
set_option maxRecDepth 100000
set_option maxHeartbeats 8000000
namespace K67
open PySem PySem.Spec PyProof.Rows L2 Ly Cut

section
variable {P : Program} {w : World} {K : PySem.W.Frag} {mg : Str → Option Value} {base : Heap} {f C R O : Addr} {fd : FuncData}
theorem eW (b : Bool) : decide (V.str (ruleW b) = V.str (Str.ofString "sees")) = b := by cases b <;> decide +kernel
theorem inW (b : Bool) : (!inV (.str (ruleW b)) [V.str (Str.ofString "sees"), V.str (Str.ofString "skips")]) = false := by cases b <;> decide +kernel
theorem inT (b : Bool) : (!inV (.str (turnW b)) [V.str (Str.ofString "adds"), V.str (Str.ofString "hides")]) = false := by cases b <;> decide +kernel
theorem eT (b : Bool) : decide (V.str (turnW b) = V.str (Str.ofString "adds")) = b := by cases b <;> decide +kernel
def spRuleIn (R C : Addr) : Sp := fun vs H Q _ => ∃ (ps : List Part) (b : Bool), vs = [.str (ruleText ps b)] ∧ (∀ p ∈ ps, Ok p) ∧ ps.length ≤ 8 ∧ ∀ H' r x, Same H H' → RuleAt R H' r x b → CutAt C H' x (rd ps) → Q (.ref r) H'
theorem ok_rule_in (Z : Zs mg) (D : Df K mg "rule_in" s_rule_in P_rule_in f fd) {f1 : Addr} {d1 : FuncData} (D_cutter_in : Cl P w K mg base "cutter_in" 8 f1 d1 P_cutter_in (spCutIn C)) {fri : Addr} {dri : FuncData} (hR : mg "Rule" = some (.ref R)) (RM : Mk K R fri) (RF : FnOk P w K mg base CX0 2 fri dri P_rinit (spRInit R C)) (RB : KBn K dri P_rinit 2 ["sees_lost"] (fun us ws => us ++ ws) (fun vs zs => vs ++ zs)) : FnOk P w K mg base CX0 9 f fd P_rule_in (spRuleIn R C) := by
  refine D.F.ok sc_rule_in (fun vs H Q E h => ?_) (fun cdv A outer s H vs Q E hr h => ?_)
  · obtain ⟨ps, b, rfl, _⟩ := h
    rfl
  · obtain ⟨ps, b, rfl, hok, hl, q⟩ := h
    have nd := sc_rule_in.nd
    have n1 := (rule_line hok hl b).2
    refine ⟨_,
    (pss_cons
    (ps_asg (pe_partition (pv 0) pe_str) (pg_tup rfl (pgs_cons (pg_name (i := 1) nd rfl (Or.inl rfl)) (pgs_cons (pg_name (i := 2) nd rfl (Or.inl rfl)) (pgs_cons (pg_name (i := 3) nd rfl (Or.inl rfl)) pgs_nil)))))
    (pss_cons
    (ps_set (i := 4) nd rfl (Or.inl rfl) (pe_call D_cutter_in.ok (hr.mono (by decide)) (by rfl) D_cutter_in.g D_cutter_in.kp D_cutter_in.b .nil pass0 (pa_cons (pv 3) pa_nil)))
    (pss_cons
    (ps_if (PW.pt (pw_or (pt_cmpR op_isN (pv 4) pe_non (nomark _)) (pw_or1 (pt_cmpR op_notIn_seq (pv 1) (pe_tup (pa_cons (pe_gS rfl Z.g_SEES) (pa_cons (pe_gS rfl Z.g_SKIPS) pa_nil))) (by rfl)))))
      (pss_one
      (ps_ret pe_non))
      pss_nil)
    (pss_one
    (ps_ret (pe_makeK RM RF (hr.mono (by decide)) (by rfl) hR RB pass0 (pa_cons (pv 4) pa_nil) (pk_cons (pe_cmpR op_eq (pv 1) (pe_gS rfl Z.g_SEES) (nomark _)) pk_nil))))))), ?_⟩
    refine ⟨_, rfl, ⟨_, rfl⟩, _, _, rfl, rfl, by decide +kernel, sz1000 (by omega), fun a na => ?_⟩
    rw [rule_part]
    refine ⟨a, _, rfl, .of upd_same, rfl, _, _, rfl, _, _, rfl, _, _, rfl, rfl, ?_⟩
    have s1 := same_new (o := .tup [V.str (ruleW b), V.str (Str.ofString " "), V.str (cutText ps)]) na
    generalize upd H a (.tup [V.str (ruleW b), V.str (Str.ofString " "), V.str (cutText ps)]) = H1 at s1 ⊢
    refine ⟨_, rfl, ps, rfl, hok, hl, fun H2 x s2 nx k2 => ?_⟩
    refine ⟨_, rfl, rfl, _, rfl, ifF rfl ⟨_, rfl, by show 2 ≤ sizeLine; decide, fun p np => ⟨p, _, rfl, .inr (.of upd_same), rfl, rfl, _, rfl, ifF (inW b) ?_⟩⟩⟩
    dsimp only [tNext]
    have s3 := same_new (o := .tup [V.str (Str.ofString "sees"), V.str (Str.ofString "skips")]) np
    generalize upd H2 p (.tup [V.str (Str.ofString "sees"), V.str (Str.ofString "skips")]) = H3 at s3 ⊢
    have k3 := k2.same s3
    refine ⟨_, rfl, _, rfl, rfl, rfl, rfl, fun r dr nr ndr hne => ?_⟩
    rw [eW]
    have s4 : Same H3 (upd (upd H3 dr (.own r)) r (.ins R dr [])) := fun z o e => by rw [upd_ne (ne_of_none e nr), upd_ne (ne_of_none e ndr)]; exact e
    refine ⟨r, dr, x, rd ps, b, rfl, upd_same, k3.same s4, fun H4 c4 k4 => ⟨rfl, ?_⟩⟩
    have s5 : Same H3 H4 := fun z o e => c4 z o (ne_of_none e nr) (s4 z o e)
    exact q H4 r x (((s1.trans s2).trans s3).trans s5) k4 (k3.same s5)

def spTurnIn (C : Addr) : Sp := fun vs H Q _ => ∃ (ps qs : List Part) (b : Bool), vs = [.str (turnText ps b qs)] ∧ (∀ p ∈ ps, Ok p) ∧ ps.length ≤ 8 ∧ (∀ p ∈ qs, Ok p) ∧ qs.length ≤ 8 ∧
  ∀ H' t x y, Same H H' → H' t = some (.tup [.ref x, .bl b, .ref y]) → CutAt C H' x (rd ps) → CutAt C H' y (rd qs) → Q (.ref t) H'
theorem ok_turn_in (Z : Zs mg) (D : Df K mg "turn_in" s_turn_in P_turn_in f fd) {f1 : Addr} {d1 : FuncData} (D_cutter_in : Cl P w K mg base "cutter_in" 8 f1 d1 P_cutter_in (spCutIn C)) : FnOk P w K mg base CX0 9 f fd P_turn_in (spTurnIn C) := by
  refine D.F.ok sc_turn_in (fun vs H Q E h => ?_) (fun cdv A outer s H vs Q E hr h => ?_)
  · obtain ⟨ps, qs, b, rfl, _⟩ := h
    rfl
  · obtain ⟨ps, qs, b, rfl, hok, hl, hok', hl', q⟩ := h
    have nd := sc_turn_in.nd
    have n1 := (turn_line hok hl hok' hl' b).2
    refine ⟨_,
    (pss_cons
    (ps_set (i := 1) nd rfl (Or.inl rfl) (pe_split (pv 0) (pe_gS rfl Z.g_BETWEEN_CUTTERS)))
    (pss_cons
    (ps_if (PW.pt (pw_or (pt_cmpR op_ne (pe_callB call_lenL (by rfl) Z.z_len (by decide +kernel) (pa_cons (pv 1) pa_nil)) pe_int (nomark _)) (pw_or1 (pt_cmpR op_notIn_seq (pe_ix ix_list (pv 1) pe_int (fun _ _ => rfl)) (pe_tup (pa_cons (pe_gS rfl Z.g_ADDS) (pa_cons (pe_gS rfl Z.g_HIDES) pa_nil))) (by rfl)))))
      (pss_one
      (ps_ret pe_non))
      pss_nil)
    (pss_cons
    (ps_par (i := 2) (j := 3) (by rfl) nd rfl rfl (by decide) rfl rfl (pa_cons (pe_call D_cutter_in.ok (hr.mono (by decide)) (by rfl) D_cutter_in.g D_cutter_in.kp D_cutter_in.b .nil pass0 (pa_cons (pe_ix ix_list (pv 1) pe_int (fun _ _ => rfl)) pa_nil)) (pa_cons (pe_call D_cutter_in.ok (hr.mono (by decide)) (by rfl) D_cutter_in.g D_cutter_in.kp D_cutter_in.b .nil pass0 (pa_cons (pe_ix ix_list (pv 1) pe_int (fun _ _ => rfl)) pa_nil)) pa_nil)) (by rfl))
    (pss_cons
    (ps_if (PW.pt (pw_or (pt_cmpR op_isN (pv 2) pe_non (nomark _)) (pw_or1 (pt_cmpR op_isN (pv 3) pe_non (nomark _)))))
      (pss_one
      (ps_ret pe_non))
      pss_nil)
    (pss_one
    (ps_ret (pe_tup (pa_cons (pv 2) (pa_cons (pe_cmpR op_eq (pe_ix ix_list (pv 1) pe_int (fun _ _ => rfl)) (pe_gS rfl Z.g_ADDS) (nomark _)) (pa_cons (pv 3) pa_nil)))))))))), ?_⟩
    refine ⟨_, rfl, ⟨_, rfl⟩, _, _, rfl, rfl, by decide +kernel, sz1000 (by omega), fun l nl => ?_⟩
    rw [turn_split hok hok']
    have s1 := same_new (o := .lst (([cutText ps, turnW b, cutText qs] : List Str).map V.str)) nl
    have hl1 : (upd H l (.lst (([cutText ps, turnW b, cutText qs] : List Str).map V.str))) l = some (.lst [V.str (cutText ps), V.str (turnW b), V.str (cutText qs)]) := upd_same
    generalize upd H l (.lst (([cutText ps, turnW b, cutText qs] : List Str).map V.str)) = H1 at s1 hl1 ⊢
    refine ⟨_, rfl, l, _, rfl, .of hl1, rfl, _, rfl, ifF rfl ⟨_, rfl, l, _, (1 : Nat), _, rfl, rfl, .of hl1, rfl, by show 2 ≤ sizeLine; decide, fun p np => ⟨p, _, rfl, .inr (.of upd_same), rfl, rfl, _, rfl, ifF (inT b) ?_⟩⟩⟩
    dsimp only [tNext]
    have s2 := same_new (o := .tup [V.str (Str.ofString "adds"), V.str (Str.ofString "hides")]) np
    have hl2 := s2 _ _ hl1
    generalize upd H1 p (.tup [V.str (Str.ofString "adds"), V.str (Str.ofString "hides")]) = H2 at s2 hl2 ⊢
    refine ⟨_, rfl, l, _, (0 : Nat), _, rfl, rfl, .of hl2, rfl, ps, rfl, hok, hl, fun H3 x s3 nx k3 => ?_⟩
    refine ⟨_, rfl, l, _, (2 : Nat), _, rfl, rfl, .of (s3 _ _ hl2), rfl, qs, rfl, hok', hl', fun H4 y s4 ny k4 => ?_⟩
    refine ⟨_, _, rfl, ?_⟩
    refine ⟨_, rfl, rfl, _, rfl, ifF rfl ⟨_, rfl, rfl, _, rfl, ifF rfl ?_⟩⟩
    dsimp only [tNext]
    refine ⟨_, rfl, _, rfl, l, _, (1 : Nat), _, rfl, rfl, .of (s4 _ _ (s3 _ _ hl2)), rfl, rfl, _, rfl, by show 3 ≤ sizeLine; decide, fun t nt => ?_⟩
    rw [eT]
    have s5 := same_new (o := .tup [V.ref x, V.bl b, V.ref y]) nt
    exact q _ t x y ((((s1.trans s2).trans s3).trans s4).trans s5) upd_same ((k3.same s4).same s5) (k4.same s5)

def spReadCut (C : Addr) : Sp := fun vs H Q _ => ∃ (ps : List Part), vs = [.str (cutText ps)] ∧ (∀ p ∈ ps, Ok p) ∧ ps.length ≤ 8 ∧ ∀ H' x, Same H H' → CutAt C H' x (rd ps) → Q (.ref x) H'
theorem ok_read_cutter (Z : Zs mg) (D : Df K mg "read_cutter" s_read_cutter P_read_cutter f fd) {f1 : Addr} {d1 : FuncData} (D_cutter_in : Cl P w K mg base "cutter_in" 8 f1 d1 P_cutter_in (spCutIn C)) {f2 : Addr} {d2 : FuncData} (D_first_line : Cl P w K mg base "first_line" 2 f2 d2 P_first_line spFirst) {f3 : Addr} {d3 : FuncData} (D_read_line : Cl P w K mg base "read_line" 2 f3 d3 P_read_line spReadLine) : FnOk P w K mg base CX0 9 f fd P_read_cutter (spReadCut C) := by
  refine D.F.ok sc_read_cutter (fun vs H Q E h => ?_) (fun cdv A outer s H vs Q E hr h => ?_)
  · obtain ⟨ps, rfl, _⟩ := h
    rfl
  · obtain ⟨ps, rfl, hok, hl, q⟩ := h
    have nd := sc_read_cutter.nd
    have n1 := cut_line hok hl
    refine ⟨_,
    (pss_one
    (ps_ret (pe_call D_read_line.ok (hr.mono (by decide)) (by rfl) D_read_line.g D_read_line.kp D_read_line.b .nil pass0 (pa_cons (pv 0) (pa_cons (pe_call D_cutter_in.ok (hr.mono (by decide)) (by rfl) D_cutter_in.g D_cutter_in.kp D_cutter_in.b .nil pass0 (pa_cons (pe_call D_first_line.ok (hr.mono (by decide)) (by rfl) D_first_line.g D_first_line.kp D_first_line.b .nil pass0 (pa_cons (pv 0) pa_nil)) pa_nil)) pa_nil))))), ?_⟩
    exact ⟨_, rfl, _, rfl, _, rfl, n1, fun H1 s1 => ⟨ps, rfl, hok, hl, fun H2 x s2 nx k2 => ⟨_, x, rfl, n1, fun H3 s3 => q H3 x ((s1.trans s2).trans s3) (k2.same s3)⟩⟩⟩

def spReadRule (R C : Addr) : Sp := fun vs H Q _ => ∃ (ps : List Part) (b : Bool), vs = [.str (ruleText ps b)] ∧ (∀ p ∈ ps, Ok p) ∧ ps.length ≤ 8 ∧ ∀ H' r x, Same H H' → RuleAt R H' r x b → CutAt C H' x (rd ps) → Q (.ref r) H'
theorem ok_read_rule (Z : Zs mg) (D : Df K mg "read_rule" s_read_rule P_read_rule f fd) {f1 : Addr} {d1 : FuncData} (D_rule_in : Cl P w K mg base "rule_in" 9 f1 d1 P_rule_in (spRuleIn R C)) {f2 : Addr} {d2 : FuncData} (D_first_line : Cl P w K mg base "first_line" 2 f2 d2 P_first_line spFirst) {f3 : Addr} {d3 : FuncData} (D_read_line : Cl P w K mg base "read_line" 2 f3 d3 P_read_line spReadLine) : FnOk P w K mg base CX0 10 f fd P_read_rule (spReadRule R C) := by
  refine D.F.ok sc_read_rule (fun vs H Q E h => ?_) (fun cdv A outer s H vs Q E hr h => ?_)
  · obtain ⟨ps, b, rfl, _⟩ := h
    rfl
  · obtain ⟨ps, b, rfl, hok, hl, q⟩ := h
    have nd := sc_read_rule.nd
    have n1 := rule_line hok hl b
    refine ⟨_,
    (pss_one
    (ps_ret (pe_call D_read_line.ok (hr.mono (by decide)) (by rfl) D_read_line.g D_read_line.kp D_read_line.b .nil pass0 (pa_cons (pv 0) (pa_cons (pe_call D_rule_in.ok (hr.mono (by decide)) (by rfl) D_rule_in.g D_rule_in.kp D_rule_in.b .nil pass0 (pa_cons (pe_call D_first_line.ok (hr.mono (by decide)) (by rfl) D_first_line.g D_first_line.kp D_first_line.b .nil pass0 (pa_cons (pv 0) pa_nil)) pa_nil)) pa_nil))))), ?_⟩
    exact ⟨_, rfl, _, rfl, _, rfl, n1, fun H1 s1 => ⟨ps, b, rfl, hok, hl, fun H2 r x s2 k2 k2' => ⟨_, r, rfl, n1, fun H3 s3 => q H3 r x ((s1.trans s2).trans s3) (k2.same s3) (k2'.same s3)⟩⟩⟩

def spReadTurn (C : Addr) : Sp := fun vs H Q _ => ∃ (ps qs : List Part) (b : Bool), vs = [.str (turnText ps b qs)] ∧ (∀ p ∈ ps, Ok p) ∧ ps.length ≤ 8 ∧ (∀ p ∈ qs, Ok p) ∧ qs.length ≤ 8 ∧
  ∀ H' t x y, Same H H' → H' t = some (.tup [.ref x, .bl b, .ref y]) → CutAt C H' x (rd ps) → CutAt C H' y (rd qs) → Q (.ref t) H'
theorem ok_read_turn (Z : Zs mg) (D : Df K mg "read_turn" s_read_turn P_read_turn f fd) {f1 : Addr} {d1 : FuncData} (D_turn_in : Cl P w K mg base "turn_in" 9 f1 d1 P_turn_in (spTurnIn C)) {f2 : Addr} {d2 : FuncData} (D_first_line : Cl P w K mg base "first_line" 2 f2 d2 P_first_line spFirst) {f3 : Addr} {d3 : FuncData} (D_read_line : Cl P w K mg base "read_line" 2 f3 d3 P_read_line spReadLine) : FnOk P w K mg base CX0 10 f fd P_read_turn (spReadTurn C) := by
  refine D.F.ok sc_read_turn (fun vs H Q E h => ?_) (fun cdv A outer s H vs Q E hr h => ?_)
  · obtain ⟨ps, qs, b, rfl, _⟩ := h
    rfl
  · obtain ⟨ps, qs, b, rfl, hok, hl, hok', hl', q⟩ := h
    have nd := sc_read_turn.nd
    have n1 := turn_line hok hl hok' hl' b
    refine ⟨_,
    (pss_one
    (ps_ret (pe_call D_read_line.ok (hr.mono (by decide)) (by rfl) D_read_line.g D_read_line.kp D_read_line.b .nil pass0 (pa_cons (pv 0) (pa_cons (pe_call D_turn_in.ok (hr.mono (by decide)) (by rfl) D_turn_in.g D_turn_in.kp D_turn_in.b .nil pass0 (pa_cons (pe_call D_first_line.ok (hr.mono (by decide)) (by rfl) D_first_line.g D_first_line.kp D_first_line.b .nil pass0 (pa_cons (pv 0) pa_nil)) pa_nil)) pa_nil))))), ?_⟩
    exact ⟨_, rfl, _, rfl, _, rfl, n1, fun H1 s1 => ⟨ps, qs, b, rfl, hok, hl, hok', hl', fun H2 t x y s2 ht k2 k2' => ⟨_, t, rfl, n1, fun H3 s3 => q H3 t x y ((s1.trans s2).trans s3) (s3 _ _ ht) (k2.same s3) (k2'.same s3)⟩⟩⟩

end
end K67
set_option Elab.async false
set_option linter.all false
set_option maxRecDepth 100000
set_option maxHeartbeats 8000000
namespace K67
open PySem PySem.Spec PyProof.Rows L2 Ly Cut

abbrev s_is_name : Stmt := topS 4
abbrev N_is_name : List Str := ["value", "sign"]
abbrev P_is_name : List Str := ["value"]
theorem sc_is_name : FnScope N_is_name P_is_name (defScope s_is_name) := ⟨rfl, rfl, rfl, by decide +kernel, rfl, by decide +kernel, by decide +kernel⟩

abbrev s_is_ascending : Stmt := topS 7
abbrev N_is_ascending : List Str := ["row", "at"]
abbrev P_is_ascending : List Str := ["row"]
theorem sc_is_ascending : FnScope N_is_ascending P_is_ascending (defScope s_is_ascending) := ⟨rfl, rfl, rfl, by decide +kernel, rfl, by decide +kernel, by decide +kernel⟩

abbrev s_is_people : Stmt := topS 41
abbrev N_is_people : List Str := ["value", "person"]
abbrev P_is_people : List Str := ["value"]
theorem sc_is_people : FnScope N_is_people P_is_people (defScope s_is_people) := ⟨rfl, rfl, rfl, by decide +kernel, rfl, by decide +kernel, by decide +kernel⟩

abbrev s_is_some_of : Stmt := topS 42
abbrev N_is_some_of : List Str := ["value", "people", "person"]
abbrev P_is_some_of : List Str := ["value", "people"]
theorem sc_is_some_of : FnScope N_is_some_of P_is_some_of (defScope s_is_some_of) := ⟨rfl, rfl, rfl, by decide +kernel, rfl, by decide +kernel, by decide +kernel⟩

abbrev s_is_turns : Stmt := topS 45
abbrev N_is_turns : List Str := ["value", "people", "pair"]
abbrev P_is_turns : List Str := ["value", "people"]
theorem sc_is_turns : FnScope N_is_turns P_is_turns (defScope s_is_turns) := ⟨rfl, rfl, rfl, by decide +kernel, rfl, by decide +kernel, by decide +kernel⟩

abbrev s_is_copies : Stmt := topS 46
abbrev N_is_copies : List Str := ["value", "people", "person"]
abbrev P_is_copies : List Str := ["value", "people"]
theorem sc_is_copies : FnScope N_is_copies P_is_copies (defScope s_is_copies) := ⟨rfl, rfl, rfl, by decide +kernel, rfl, by decide +kernel, by decide +kernel⟩

abbrev s_in_order : Stmt := topS 47
abbrev N_in_order : List Str := ["turns", "pair"]
abbrev P_in_order : List Str := ["turns"]
theorem sc_in_order : FnScope N_in_order P_in_order (defScope s_in_order) := ⟨rfl, rfl, rfl, by decide +kernel, rfl, by decide +kernel, by decide +kernel⟩

theorem same_lock {H H' : Hp} {d : Addr} {u : HO} {od : Obj} (hd : H d = some u) (s : Same (upd H d (.frz od u)) H') : Same H (upd H' d u) := fun b o e => by
  by_cases h : b = d
  · subst h
    rw [upd_same]
    exact hd.symm.trans e
  · rw [upd_ne h]
    exact s b o (by rw [upd_ne h]; exact e)
theorem lc_keys {d : Addr} {od : Obj} {kvs : List (Key × V)} {g : TG} {tt : TT} {te : TE} {vs : List Nat} {σ : L2.St} {H1 : Hp} {D : Addr} {Qd : Hp → Prop} (f : V → V) (hS : H1 d = some (.frz od (.dK kvs))) (nD : H1 D = none) (hz : kvs.length ≤ sizeLine)
    (hs : ∀ (i : Nat) (k : Key) (v : V) (H : Hp) (Q : VK) (N : Hp → Prop), kvs[i]? = some (k, v) → Same H1 H → (∀ H4, Same H H4 → Q (f (kV k)) H4) → g (kV k) (wipe σ vs) H fun σ2 H2 => wipe σ2 vs = wipe σ vs ∧ tt σ2 H2 fun b H3 => if b = true then te σ2 H3 Q else N H3)
    (hd : ∀ H', Same H1 H' → H' D = some (.lst (kvs.map fun kv => f (kV kv.1))) → Qd H') : LcW (Itk d od kvs) g tt te vs σ H1 D Qd := by
  refine lc_gen (n := kvs.length) (fun i H => Same H1 H ∧ H D = some (.lst ((kvs.take i).map fun kv => f (kV kv.1)))) ⟨same_new nD, upd_same⟩ (fun i H hi p => ⟨p.1 _ _ hS, hi⟩) (fun H p => ⟨p.1 _ _ hS, Nat.le_refl _⟩) (fun i x H H' hi p y => ?_) (fun H p => ?_)
  · obtain ⟨s, hd'⟩ := p
    obtain ⟨rfl, k, v, hx, rfl⟩ := y
    refine hs i k v H' _ _ hx s fun H4 s4 => ⟨_, s4 _ _ hd', ?_, same_set (s.trans s4) nD, ?_⟩
    · rw [List.length_map, List.length_take]
      omega
    · rw [upd_same, List.take_add_one, hx, List.map_append]
      rfl
  · obtain ⟨s, hd'⟩ := p
    rw [List.take_of_length_le (Nat.le_refl _)] at hd'
    exact hd H s hd'

section
variable {P : Program} {w : World} {K : PySem.W.Frag} {mg : Str → Option Value} {base : Heap} {f C R O : Addr} {fd : FuncData}
/-- the name's own test -/
def nameB (z : Str) : Bool := decide (1 ≤ z.length ∧ z.length ≤ 8) && z.cps.toList.all fun c => decide (97 ≤ c ∧ c ≤ 122)

def spNameS : Sp := fun vs H Q _ => ∃ z : Str, vs = [.str z] ∧ z.length < 1000 ∧ ∀ H', Same H H' → Q (.bl (nameB z)) H'

theorem ok_nameS (Z : Zs mg) (D : Df K mg "is_name" s_is_name P_is_name f fd) : FnOk P w K mg base CX0 1 f fd P_is_name spNameS := by
  refine D.F.ok sc_is_name (fun vs H Q E h => ?_) (fun cdv A outer s H vs Q E hr h => ?_)
  · obtain ⟨x, rfl, _⟩ := h
    rfl
  · obtain ⟨z, rfl, hz, q⟩ := h
    have nd := sc_is_name.nd
    refine ⟨_,
    (pss_cons
    (ps_if (PW.pt (pw_or (pt_not (pt_val (pe_callB call_isi (by rfl) Z.z_isinstance (by decide +kernel) (pa_cons (pv 0) (pa_cons (pe_bltn (v := .ty "str") (by rfl) Z.z_str (by decide +kernel) rfl) pa_nil))))) (pw_or1 (pt_not (pt_chain op_le op_le pe_int (pe_callB call_len_str (by rfl) Z.z_len (by decide +kernel) (pa_cons (pv 0) pa_nil)) (pe_gI rfl Z.g_MAX_NAME))))))
      (pss_one
      (ps_ret pe_bl))
      pss_nil)
    (pss_one
    (ps_ret (pe_callB (cr_all rfl) (by rfl) Z.z_all (by decide +kernel) (pa_cons (pe_lc (own := [("sign", 1)]) (g := gName 1) (tt := tYes) rfl nd (pi_str (pv 0)) (blkOk_by (N := N_is_name) (sc := defScope s_is_name) (by decide +kernel)) (fun _ _ _ _ _ => (pg_name (i := 1) nd rfl (Or.inl rfl))) (fun _ _ _ _ _ => pts_nil) (fun _ _ _ _ _ => (pe_chain op_le_str op_le_str pe_str (pv 1) pe_str))) pa_nil))))), ?_⟩
    refine ⟨_, rfl, .str z, .ty "str", _, _, true, rfl, .ty _, .base (.str z), kit_ty (by decide +kernel), true, rfl, ?_⟩
    refine ⟨_, rfl, z, rfl, sz1000 hz, _, _, rfl, rfl, _, rfl, ite2 (fun e => ?_) (fun e => ?_)⟩
    · have e1 := of_decide_eq_true e
      refine ⟨_, _, rfl, rfl, _, rfl, ?_⟩
      by_cases e2 : (z.length : Int) ≤ 8
      · rw [decide_eq_true e2]
        refine iteF ?_
        dsimp only [tNext]
        refine cutR (fun v H' => Same H H' ∧ v = .bl (nameB z)) (fun Q' q' => ?_) (fun v H' hv => ?_)
        rotate_left
        · obtain ⟨sm, rfl⟩ := hv
          exact q H' sm
        refine ⟨_, rfl, z, rfl, fun D hD => ?_⟩
        have ea : (Str.ofString "a" : Str) = ⟨#[97]⟩ := by decide +kernel
        have ez : (Str.ofString "z" : Str) = ⟨#[122]⟩ := by decide +kernel
        refine lc_gen (n := z.cps.size) (fun i H' => Same H H' ∧ H' D = some (.lst (((z.cps.toList.take i).map fun c => decide (97 ≤ c ∧ c ≤ 122)).map V.bl))) ⟨same_new hD, upd_same⟩ (fun i H' hi _ => hi) (fun H' _ => Nat.le_refl _) ?_ ?_
        · intro i x H1 H' hi hP y
          obtain ⟨rfl, c, hc, rfl⟩ := y
          obtain ⟨sm, hd⟩ := hP
          refine ⟨rfl, .str ⟨#[c]⟩, rfl, _, _, rfl, rfl, ?_⟩
          have hl : i < z.cps.toList.length := by simpa using hi
          have hc' : z.cps.toList[i]? = some c := by simpa using hc
          have ht : z.cps.toList.take (i + 1) = z.cps.toList.take i ++ [c] := by rw [List.take_add_one, hc']; rfl
          have fin : ∀ b : Bool, b = decide (97 ≤ c ∧ c ≤ 122) → ∃ acc, H' D = some (.lst acc) ∧ acc.length < sizeLine ∧ Same H (upd H' D (.lst (acc ++ [.bl b]))) ∧ (upd H' D (.lst (acc ++ [.bl b]))) D = some (.lst (((z.cps.toList.take (i + 1)).map fun c => decide (97 ≤ c ∧ c ≤ 122)).map V.bl)) := by
            intro b eb
            refine ⟨_, hd, ?_, fun p o e => ?_, ?_⟩
            · rw [List.length_map, List.length_map, List.length_take]
              have hz2 := str_len z
              exact small1000 (by omega)
            · rw [upd_ne (ne_of_none e hD)]
              exact sm _ _ e
            · rw [upd_same, ht, eb, List.map_append, List.map_append]
              rfl
          rw [ea, ez, sign_lt]
          refine ⟨_, rfl, ?_⟩
          by_cases c1 : c < 97
          · rw [decide_eq_true c1]
            exact fin false (decide_eq_false (by omega)).symm
          · rw [decide_eq_false c1]
            refine ⟨_, _, rfl, rfl, ?_⟩
            rw [sign_lt]
            exact fin _ (by
              rw [← decide_not, decide_eq_decide]
              omega)
        · intro H' hP
          obtain ⟨sm, hd⟩ := hP
          rw [List.take_of_length_le (by simp)] at hd
          refine ⟨D, _, rfl, .of hd, q' _ _ ⟨sm, ?_⟩⟩
          have g1 : decide (1 ≤ z.length ∧ z.length ≤ 8) = true := decide_eq_true (by omega)
          unfold nameB
          rw [g1, List.all_map]
          rfl
      · rw [decide_eq_false e2]
        have g1 : nameB z = false := by
          unfold nameB
          rw [decide_eq_false (by omega)]
          rfl
        have k := q H (Same.refl H)
        rw [g1] at k
        exact k
    · have g1 : nameB z = false := by
        have e1 : ¬ (1 : Int) ≤ z.length := fun z => e (decide_eq_true z)
        unfold nameB
        rw [decide_eq_false (by omega)]
        rfl
      have k := q H (Same.refl H)
      rw [g1] at k
      exact ⟨_, rfl, k⟩


def spAsc1 (K : PySem.W.Frag) : Sp := fun vs H Q _ => ∃ (a : Addr) (v : V), vs = [.ref a] ∧ SqT K H a [v] ∧ ∀ H', Same H H' → Q (.bl true) H'
theorem ok_is_ascending (Z : Zs mg) (D : Df K mg "is_ascending" s_is_ascending P_is_ascending f fd)  : FnOk P w K mg base CX0 1 f fd P_is_ascending (spAsc1 K) := by
  refine D.F.ok sc_is_ascending (fun vs H Q E h => ?_) (fun cdv A outer s H vs Q E hr h => ?_)
  · obtain ⟨a, v, rfl, _⟩ := h
    rfl
  · obtain ⟨a, v, rfl, hS, q⟩ := h
    have nd := sc_is_ascending.nd
    refine ⟨_,
    (pss_one
    (ps_ret (pe_callB (cr_all rfl) (by rfl) Z.z_all (by decide +kernel) (pa_cons (pe_lc (own := [("at", 1)]) (g := gName 1) (tt := tYes) rfl nd (pi_range1 (by rfl) Z.z_range (pa_cons (pe_op op_sub (pe_callB call_lenT (by rfl) Z.z_len (by decide +kernel) (pa_cons (pv 0) pa_nil)) pe_int) pa_nil)) (blkOk_by (N := N_is_ascending) (sc := defScope s_is_ascending) (by decide +kernel)) (fun _ _ _ _ _ => (pg_name (i := 1) nd rfl (Or.inl rfl))) (fun _ _ _ _ _ => pts_nil) (fun _ _ _ _ _ => (pe_cmpR op_lt_str (pe_ix (ixT (K := K) rfl) (pv 0) (pv 1) (fun _ _ => rfl)) (pe_ix (ixT (K := K) rfl) (pv 0) (pe_op op_add (pv 1) pe_int) (fun _ _ => rfl)) (nomark _)))) pa_nil)))), ?_⟩
    refine ⟨_, rfl, a, [v], rfl, hS, _, _, rfl, rfl, 0, rfl, by decide, by decide, fun D9 nD => ?_⟩
    refine lc_range (lo := 0) (n := (0 : Int).toNat) (fun i H2 => Same H H2 ∧ H2 D9 = some (.lst [])) ⟨same_new nD, upd_same⟩ (fun i H2 hi hP => absurd hi (Nat.not_lt_zero i)) (fun H2 hP => ?_)
    exact ⟨D9, [], rfl, .of hP.2, q H2 hP.1⟩

def spPeople1 (K : PySem.W.Frag) : Sp := fun vs H Q _ => ∃ (a : Addr) (z : Str), vs = [.ref a] ∧ H a = some (.tup [.str z]) ∧ nameB z = true ∧ ∀ H', Same H H' → Q (.bl true) H'
theorem ok_is_people (Z : Zs mg) (D : Df K mg "is_people" s_is_people P_is_people f fd) {f1 : Addr} {d1 : FuncData} (D_is_name : Cl P w K mg base "is_name" 1 f1 d1 P_is_name spNameS) {f2 : Addr} {d2 : FuncData} (D_is_ascending : Cl P w K mg base "is_ascending" 1 f2 d2 P_is_ascending (spAsc1 K)) : FnOk P w K mg base CX0 2 f fd P_is_people (spPeople1 K) := by
  refine D.F.ok sc_is_people (fun vs H Q E h => ?_) (fun cdv A outer s H vs Q E hr h => ?_)
  · obtain ⟨a, z, rfl, _⟩ := h
    rfl
  · obtain ⟨a, z, rfl, ha, hz, q⟩ := h
    have nd := sc_is_people.nd
    refine ⟨_,
    (pss_cons
    (ps_if (PW.pt (pw_or (pt_not (pt_val (pe_callB call_isi (by rfl) Z.z_isinstance (by decide +kernel) (pa_cons (pv 0) (pa_cons (pe_bltn (v := .ty "tuple") (by rfl) Z.z_tuple (by decide +kernel) rfl) pa_nil))))) (pw_or1 (pt_not (pt_chain op_le op_le pe_int (pe_callB call_lenT (by rfl) Z.z_len (by decide +kernel) (pa_cons (pv 0) pa_nil)) (pe_gI rfl Z.g_MAX_PEOPLE))))))
      (pss_one
      (ps_ret pe_bl))
      pss_nil)
    (pss_one
    (ps_ret (pe_and (pe_callB (cr_all rfl) (by rfl) Z.z_all (by decide +kernel) (pa_cons (pe_lc (own := [("person", 1)]) (g := gName 1) (tt := tYes) rfl nd (pi_tup (pv 0)) (blkOk_by (N := N_is_people) (sc := defScope s_is_people) (by decide +kernel)) (fun _ _ _ _ _ => (pg_name (i := 1) nd rfl (Or.inl rfl))) (fun _ _ _ _ _ => pts_nil) (fun _ _ _ _ _ => (pe_call D_is_name.ok (hr.mono (by decide)) (by rfl) D_is_name.g D_is_name.kp D_is_name.b .nil pass0 (pa_cons (pv 1) pa_nil)))) pa_nil)) (pe_one (pe_call D_is_ascending.ok (hr.mono (by decide)) (by rfl) D_is_ascending.g D_is_ascending.kp D_is_ascending.b .nil pass0 (pa_cons (pv 0) pa_nil))))))), ?_⟩
    refine ⟨_, rfl, .ref a, .ty "tuple", _, _, true, rfl, .ty _, .base (.tup ha), kit_ty (by decide +kernel), true, rfl, ifF rfl ?_⟩
    refine ⟨_, rfl, a, _, rfl, .of ha, _, _, rfl, rfl, _, rfl, ifT rfl ⟨_, _, rfl, rfl, _, rfl, ifF rfl ?_⟩⟩
    dsimp only [tNext]
    refine ⟨_, rfl, a, rfl, ⟨_, .of ha⟩, fun D9 nD => ?_⟩
    refine lc_mapT [.str z] (fun _ => .bl true) (.of ha) nD (by show 1 ≤ sizeLine; decide) (fun i v H2 Q' N hv s2 k => ?_) (fun H2 s2 hd => ?_)
    · have e : v = .str z := by
        match i, hv with
        | 0, hv => exact (Option.some.inj hv).symm
        | i + 1, hv => cases hv
      subst e
      have hz2 : z.length < 1000 := by
        unfold nameB at hz
        have := (of_decide_eq_true (Bool.and_eq_true_iff.mp hz).1).2
        omega
      refine ⟨rfl, _, rfl, z, rfl, hz2, fun H3 s3 => ?_⟩
      rw [hz]
      exact k H3 s3
    · refine ⟨D9, [true], rfl, .of hd, true, rfl, ifT rfl ?_⟩
      exact ⟨_, rfl, a, .str z, rfl, .of (s2 _ _ ha), fun H3 s3 => q H3 (s2.trans s3)⟩

def spSome1 (K : PySem.W.Frag) : Sp := fun vs H Q _ => ∃ (a b : Addr) (z : Str), vs = [.ref a, .ref b] ∧ H a = some (.tup [.str z]) ∧ H b = some (.tup [.str z]) ∧ ∀ H', Same H H' → Q (.bl true) H'
theorem ok_is_some_of (Z : Zs mg) (D : Df K mg "is_some_of" s_is_some_of P_is_some_of f fd) {f2 : Addr} {d2 : FuncData} (D_is_ascending : Cl P w K mg base "is_ascending" 1 f2 d2 P_is_ascending (spAsc1 K)) : FnOk P w K mg base CX0 2 f fd P_is_some_of (spSome1 K) := by
  refine D.F.ok sc_is_some_of (fun vs H Q E h => ?_) (fun cdv A outer s H vs Q E hr h => ?_)
  · obtain ⟨a, b, z, rfl, _⟩ := h
    rfl
  · obtain ⟨a, b, z, rfl, ha, hb, q⟩ := h
    have nd := sc_is_some_of.nd
    refine ⟨_,
    (pss_cons
    (ps_if (PW.pt (pw_or (pt_not (pt_val (pe_callB call_isi (by rfl) Z.z_isinstance (by decide +kernel) (pa_cons (pv 0) (pa_cons (pe_bltn (v := .ty "tuple") (by rfl) Z.z_tuple (by decide +kernel) rfl) pa_nil))))) (pw_or1 (pt_not (pt_val (pe_callB (cr_all rfl) (by rfl) Z.z_all (by decide +kernel) (pa_cons (pe_lc (own := [("person", 2)]) (g := gName 2) (tt := tYes) rfl nd (pi_tup (pv 0)) (blkOk_by (N := N_is_some_of) (sc := defScope s_is_some_of) (by decide +kernel)) (fun _ _ _ _ _ => (pg_name (i := 2) nd rfl (Or.inl rfl))) (fun _ _ _ _ _ => pts_nil) (fun _ _ _ _ _ => (pe_cmpR (inK (K := K) rfl) (pv 2) (pv 1) (by rfl)))) pa_nil)))))))
      (pss_one
      (ps_ret pe_bl))
      pss_nil)
    (pss_one
    (ps_ret (pe_call D_is_ascending.ok (hr.mono (by decide)) (by rfl) D_is_ascending.g D_is_ascending.kp D_is_ascending.b .nil pass0 (pa_cons (pv 0) pa_nil))))), ?_⟩
    refine ⟨_, rfl, .ref a, .ty "tuple", _, _, true, rfl, .ty _, .base (.tup ha), kit_ty (by decide +kernel), true, rfl, ifF rfl ?_⟩
    refine ⟨_, rfl, a, rfl, ⟨_, .of ha⟩, fun D9 nD => ?_⟩
    refine lc_mapT [.str z] (fun _ => .bl true) (.of ha) nD (by show 1 ≤ sizeLine; decide) (fun i v H2 Q' N hv s2 k => ?_) (fun H2 s2 hd => ?_)
    · have e : v = .str z := by
        match i, hv with
        | 0, hv => exact (Option.some.inj hv).symm
        | i + 1, hv => cases hv
      subst e
      refine ⟨rfl, _, rfl, _, rfl, b, _, rfl, .inr (.of (s2 _ _ hb)), rfl, rfl, ?_⟩
      have e : (if false = true then !inV (.str z) [.str z] else inV (.str z) [.str z]) = true := by
        show (eqV (.str z) (.str z) || false) = true
        rw [Bool.or_false]
        exact decide_eq_true rfl
      rw [e]
      exact k H2 (Same.refl H2)
    · refine ⟨D9, [true], rfl, .of hd, true, rfl, ifF rfl ?_⟩
      dsimp only [tNext]
      exact ⟨_, rfl, a, .str z, rfl, .of (s2 _ _ ha), fun H3 s3 => q H3 (s2.trans s3)⟩

def spTurns0 : Sp := fun vs H Q _ => ∃ (a : Addr) (x : V), vs = [.ref a, x] ∧ H a = some (.dK []) ∧ ∀ H', Same H H' → Q (.bl true) H'
theorem ok_is_turns (Z : Zs mg) (D : Df K mg "is_turns" s_is_turns P_is_turns f fd)  : FnOk P w K mg base CX0 1 f fd P_is_turns spTurns0 := by
  refine D.F.ok sc_is_turns (fun vs H Q E h => ?_) (fun cdv A outer s H vs Q E hr h => ?_)
  · obtain ⟨a, x, rfl, _⟩ := h
    rfl
  · obtain ⟨a, x, rfl, ha, q⟩ := h
    have nd := sc_is_turns.nd
    refine ⟨_,
    (pss_cons
    (ps_if (pt_not (pt_val (pe_callB call_isi (by rfl) Z.z_isinstance (by decide +kernel) (pa_cons (pv 0) (pa_cons (pe_bltn (v := .ty "dict") (by rfl) Z.z_dict (by decide +kernel) rfl) pa_nil)))))
      (pss_one
      (ps_ret pe_bl))
      pss_nil)
    (pss_one
    (ps_ret (pe_callB (cr_all rfl) (by rfl) Z.z_all (by decide +kernel) (pa_cons (pe_lock (pe_lc (own := [("pair", 2)]) (g := gName 2) (tt := tYes) rfl nd (pi_keys (pv 0)) (blkOk_by (N := N_is_turns) (sc := defScope s_is_turns) (by decide +kernel)) (fun _ _ _ _ _ => (pg_name (i := 2) nd rfl (Or.inl rfl))) (fun _ _ _ _ _ => pts_nil) (fun _ _ _ _ _ => pe_never))) pa_nil))))), ?_⟩
    refine ⟨_, rfl, .ref a, .ty "dict", _, _, true, rfl, .ty _, .base (.dK ha), kit_ty (by decide +kernel), true, rfl, ifF rfl ?_⟩
    dsimp only [tNext]
    refine ⟨a, _, ha, trivial, fun od => ⟨_, rfl, a, od, rfl, .inl ⟨[], upd_same, fun D9 nD => ?_⟩⟩⟩
    refine lc_keys (fun _ => .bl true) upd_same nD (Nat.zero_le _) (fun i k v H2 Q' N hv s2 k' => by cases hv) (fun H2 s2 hd => ?_)
    have s3 := same_lock ha s2
    have hne : D9 ≠ a := fun e => by rw [e, upd_same] at nD; cases nD
    exact ⟨s2 _ _ upd_same, D9, [], rfl, .of (by rw [upd_ne hne]; exact hd), q _ s3⟩

def spCopies1 (K : PySem.W.Frag) (C : Addr) : Sp := fun vs H Q _ => ∃ (d p x : Addr) (z : Str) (ps : List Part), vs = [.ref d, .ref p] ∧ H d = some (.dK [(.inr z, .ref x)]) ∧ H p = some (.tup [.str z]) ∧ CutAt C H x ps ∧ ∀ H', Same H H' → Q (.bl true) H'
theorem ok_is_copies (Z : Zs mg) (D : Df K mg "is_copies" s_is_copies P_is_copies f fd) (c : CK K C) (hC : mg "Cutter" = some (.ref C)) : FnOk P w K mg base CX0 1 f fd P_is_copies (spCopies1 K C) := by
  refine D.F.ok sc_is_copies (fun vs H Q E h => ?_) (fun cdv A outer s H vs Q E hr h => ?_)
  · obtain ⟨d, p, x, z, ps, rfl, _⟩ := h
    rfl
  · obtain ⟨d, p, x, z, ps, rfl, hd0, hp, hcx, q⟩ := h
    have nd := sc_is_copies.nd
    obtain ⟨dx, _, _, _, hx, _⟩ := hcx.ex
    have hu : (A.deeper (envOfC "is_copies" (defScope s_is_copies) s.heap.objs.size f cdv)).units + 1 < cLine := by
      have := hr.un
      omega
    refine ⟨_,
    (pss_cons
    (ps_if (pt_not (pt_val (pe_callB call_isi (by rfl) Z.z_isinstance (by decide +kernel) (pa_cons (pv 0) (pa_cons (pe_bltn (v := .ty "dict") (by rfl) Z.z_dict (by decide +kernel) rfl) pa_nil)))))
      (pss_one
      (ps_ret pe_bl))
      pss_nil)
    (pss_one
    (ps_ret (pe_callB (cr_all rfl) (by rfl) Z.z_all (by decide +kernel) (pa_cons (pe_lock (pe_lc (own := [("person", 2)]) (g := gName 2) (tt := tYes) rfl nd (pi_keys (pv 0)) (blkOk_by (N := N_is_copies) (sc := defScope s_is_copies) (by decide +kernel)) (fun _ _ _ _ _ => (pg_name (i := 2) nd rfl (Or.inl rfl))) (fun _ _ _ _ _ => pts_nil) (fun _ _ _ _ _ => (pe_and (pe_cmpR (inK (K := K) rfl) (pv 2) (pv 1) (by rfl)) (pe_one (pe_callB (isiK (K := K) rfl) (by rfl) Z.z_isinstance (by decide +kernel) (pa_cons (pe_dget hu (pv 0) (pv 2) (fun _ _ => rfl)) (pa_cons (pe_glob (v := .ref C) rfl hC rfl) pa_nil)))))))) pa_nil))))), ?_⟩
    refine ⟨_, rfl, .ref d, .ty "dict", _, _, true, rfl, .ty _, .base (.dK hd0), kit_ty (by decide +kernel), true, rfl, ifF rfl ?_⟩
    dsimp only [tNext]
    refine ⟨d, _, hd0, trivial, fun od => ⟨_, rfl, d, od, rfl, .inl ⟨_, upd_same, fun D9 nD => ?_⟩⟩⟩
    have hpd : p ≠ d := fun e => by rw [e, hd0] at hp; cases hp
    have hxd : x ≠ d := fun e => by rw [e, hd0] at hx; cases hx
    have hp1 : (upd H d (.frz od (.dK [(.inr z, .ref x)]))) p = some (.tup [.str z]) := by rw [upd_ne hpd]; exact hp
    have hx1 := hx
    rw [← upd_ne (H := H) (o := .frz od (.dK [(.inr z, .ref x)])) hxd] at hx1
    have hd1 : (upd H d (.frz od (.dK [(.inr z, .ref x)]))) d = some (.frz od (.dK [(.inr z, .ref x)])) := upd_same
    refine lc_keys (fun _ => .bl true) upd_same nD (by show 1 ≤ sizeLine; decide) (fun i k v H2 Q' N hv s2 k' => ?_) (fun H2 s2 hd => ?_)
    · have e : k = .inr z := by
        match i, hv with
        | 0, hv => exact (congrArg Prod.fst (Option.some.inj hv)).symm
        | i + 1, hv => cases hv
      subst e
      refine ⟨rfl, _, rfl, _, rfl, p, _, rfl, .inr (.of (s2 _ _ hp1)), rfl, rfl, ?_⟩
      have e : (if false = true then !inV (kV (.inr z)) [.str z] else inV (kV (.inr z)) [.str z]) = true := by
        show (eqV (.str z) (.str z) || false) = true
        rw [Bool.or_false]
        exact decide_eq_true rfl
      rw [e]
      refine ⟨true, rfl, ifT rfl ?_⟩
      have dg : DGet H2 d (kV (.inr z)) (some (.ref x)) := .inl ⟨_, .inr z, .inr ⟨od, s2 _ _ hd1⟩, rfl, by
        show some (V.ref x) = valV [((Sum.inr z : Key), V.ref x)] (Sum.inr z)
        unfold valV
        rw [List.find?_cons_of_pos (by exact decide_eq_true rfl)]
        rfl⟩
      exact ⟨_, rfl, _, rfl, d, .ref x, rfl, dg, .ref x, .ref C, _, _, true, rfl, .own C, c.ty (s2 _ _ hx1), c.kit, k' H2 (Same.refl H2)⟩
    · have s3 := same_lock hd0 s2
      have hne : D9 ≠ d := fun e => by rw [e, upd_same] at nD; cases nD
      exact ⟨s2 _ _ upd_same, D9, [true], rfl, .of (by rw [upd_ne hne]; exact hd), q _ s3⟩

def spOrder0 : Sp := fun vs H Q _ => ∃ (a : Addr), vs = [.ref a] ∧ H a = some (.dK []) ∧ ∀ H' d, Same H H' → H d = none → H' d = some (.dK []) → Q (.ref d) H'
theorem ok_in_order (Z : Zs mg) (D : Df K mg "in_order" s_in_order P_in_order f fd)  : FnOk P w K mg base CX0 1 f fd P_in_order spOrder0 := by
  refine D.F.ok sc_in_order (fun vs H Q E h => ?_) (fun cdv A outer s H vs Q E hr h => ?_)
  · obtain ⟨a, rfl, _⟩ := h
    rfl
  · obtain ⟨a, rfl, ha, q⟩ := h
    have nd := sc_in_order.nd
    refine ⟨_,
    (pss_one
    (ps_ret (pe_dc (own := [("pair", 1)]) (g := gName 1) (tt := tYes) rfl nd (pi_list (pe_callB cr_sorted (by rfl) Z.z_sorted (by decide +kernel) (pa_cons (pe_callTy (call_listD rfl) (by rfl) Z.z_list (by decide +kernel) (pa_cons (pv 0) pa_nil)) pa_nil))) (blkOk_by (N := N_in_order) (sc := defScope s_in_order) (by decide +kernel)) (fun _ _ _ _ _ => (pg_name (i := 1) nd rfl (Or.inl rfl))) (fun _ _ _ _ _ => pts_nil) (fun _ _ _ _ _ => (pv 1)) (fun _ _ _ _ _ => pe_never)))), ?_⟩
    refine ⟨_, rfl, a, [], rfl, .inl ha, fun l nl => ⟨l, [], rfl, .of upd_same, by decide, fun ns' p hperm _ np => ?_⟩⟩
    have e : ns' = [] := List.perm_nil.mp hperm
    subst e
    have s1 := (same_new (o := .lst (([] : List (Key × V)).map fun kv => kV kv.1)) nl).trans (same_new (o := .lst (([] : List Int).map V.int)) np)
    generalize hH1 : upd (upd H l (.lst (([] : List (Key × V)).map fun kv => kV kv.1))) p (.lst (([] : List Int).map V.int)) = H1 at s1 ⊢
    have hp : H1 p = some (.lst []) := by rw [← hH1]; exact upd_same
    refine ⟨p, rfl, ⟨[], .of hp⟩, fun D nD => ⟨fun i m H2 => i = 0 ∧ Same H1 H2 ∧ H2 D = some (.dK []), ⟨0, rfl, same_new nD, upd_same⟩, fun i m H2 hW => .inl ?_⟩⟩
    obtain ⟨rfl, s2, hD⟩ := hW
    exact ⟨⟨[], .of (s2 _ _ hp), Nat.le_refl _⟩, q H2 D (s1.trans s2) (s1.free nD) hD⟩

end
end K67
set_option Elab.async false
set_option linter.all false
set_option maxRecDepth 100000
set_option maxHeartbeats 8000000
namespace K67
open PySem PySem.Spec PyProof.Rows L2 Ly Cut

abbrev s_oinit : Stmt := inClass (topS 49) 0
abbrev N_oinit : List Str := ["self", "people", "answers", "takings", "starts", "copies", "person"]
abbrev P_oinit : List Str := ["self", "people", "answers", "takings", "starts", "copies"]
theorem sc_oinit : FnScope N_oinit P_oinit (defScope s_oinit) := ⟨rfl, rfl, rfl, by decide +kernel, rfl, by decide +kernel, by decide +kernel⟩

abbrev s_opeople : Stmt := inClass (topS 49) 1
abbrev N_opeople : List Str := ["self"]
abbrev P_opeople : List Str := ["self"]
theorem sc_opeople : FnScope N_opeople P_opeople (defScope s_opeople) := ⟨rfl, rfl, rfl, by decide +kernel, rfl, by decide +kernel, by decide +kernel⟩

abbrev s_ocopy : Stmt := inClass (topS 49) 7
abbrev N_ocopy : List Str := ["self", "person"]
abbrev P_ocopy : List Str := ["self", "person"]
theorem sc_ocopy : FnScope N_ocopy P_ocopy (defScope s_ocopy) := ⟨rfl, rfl, rfl, by decide +kernel, rfl, by decide +kernel, by decide +kernel⟩

abbrev s_oroad : Stmt := inClass (topS 49) 8
abbrev N_oroad : List Str := ["self", "person"]
abbrev P_oroad : List Str := ["self", "person"]
theorem sc_oroad : FnScope N_oroad P_oroad (defScope s_oroad) := ⟨rfl, rfl, rfl, by decide +kernel, rfl, by decide +kernel, by decide +kernel⟩

abbrev s_check_company : Stmt := topS 50
abbrev N_check_company : List Str := ["value"]
abbrev P_check_company : List Str := ["value"]
theorem sc_check_company : FnScope N_check_company P_check_company (defScope s_check_company) := ⟨rfl, rfl, rfl, by decide +kernel, rfl, by decide +kernel, by decide +kernel⟩

abbrev s_check_person : Stmt := topS 51
abbrev N_check_person : List Str := ["company", "person"]
abbrev P_check_person : List Str := ["company", "person"]
theorem sc_check_person : FnScope N_check_person P_check_person (defScope s_check_person) := ⟨rfl, rfl, rfl, by decide +kernel, rfl, by decide +kernel, by decide +kernel⟩

abbrev s_through : Stmt := inClass (topS 66) 5
abbrev N_through : List Str := ["self", "company", "person"]
abbrev P_through : List Str := ["self", "company", "person"]
theorem sc_through : FnScope N_through P_through (defScope s_through) := ⟨rfl, rfl, rfl, by decide +kernel, rfl, by decide +kernel, by decide +kernel⟩

section
variable {P : Program} {w : World} {K : PySem.W.Frag} {mg : Str → Option Value} {base : Heap} {f C R O : Addr} {fd : FuncData}
/-- a company of one person z, whose road to the reader cuts by the cutter at x, stands at o -/
def CompAt (O : Addr) (H : Hp) (o x : Addr) (z : Str) : Prop := ∃ dr p a1 a2 d, H o = some (.ins O dr [("_people", .ref p), ("_answers", .ref a1), ("_takings", .ref a2), ("_starts", .ref p), ("_copies", .ref d)]) ∧ H p = some (.tup [.str z]) ∧ H d = some (.dK [(.inr z, .ref x)])
theorem CompAt.same {O o x : Addr} {z : Str} {H H' : Hp} (h : CompAt O H o x z) (s : Same H H') : CompAt O H' o x z := let ⟨dr, p, a1, a2, d, e1, e2, e3⟩ := h; ⟨dr, p, a1, a2, d, s _ _ e1, s _ _ e2, s _ _ e3⟩
theorem dget1 {H : Hp} {d : Addr} {z : Str} {v : V} (h : H d = some (.dK [(.inr z, v)])) : DGet H d (.str z) (some v) := .inl ⟨_, .inr z, .inl h, rfl, by
  unfold valV
  rw [List.find?_cons_of_pos (by exact decide_eq_true rfl)]
  rfl⟩
theorem in1 (z : Str) : inV (.str z) [.str z] = true := by
  show (eqV (.str z) (.str z) || false) = true
  rw [Bool.or_false]
  exact decide_eq_true rfl
def spOInit (O C : Addr) : Sp := fun vs H Q _ => ∃ (o dr p a d x : Addr) (z : Str) (ps : List Part), vs = [.ref o, .ref p, .ref a, .non, .non, .ref d] ∧ H o = some (.ins O dr []) ∧ H p = some (.tup [.str z]) ∧ nameB z = true ∧ H a = some (.dK []) ∧ H d = some (.dK [(.inr z, .ref x)]) ∧ CutAt C H x ps ∧
  ∀ H', Chg o H H' → CompAt O H' o x z → Q .non H'
theorem ok_oinit (Z : Zs mg) (F : FunD K "__init__" "Company.__init__" (defArgs s_oinit) (defBody s_oinit) (defScope s_oinit) [] [("takings", .non), ("starts", .non), ("copies", .non)] f fd) (oc : KC K O) (n1 : NoAttr K O "_people") (n2 : NoAttr K O "_answers") (n3 : NoAttr K O "_takings") (n4 : NoAttr K O "_starts") (n5 : NoAttr K O "_copies") {f1 : Addr} {d1 : FuncData} (D_is_people : Cl P w K mg base "is_people" 2 f1 d1 P_is_people (spPeople1 K)) {f2 : Addr} {d2 : FuncData} (D_is_turns : Cl P w K mg base "is_turns" 1 f2 d2 P_is_turns spTurns0) {f3 : Addr} {d3 : FuncData} (D_is_some_of : Cl P w K mg base "is_some_of" 2 f3 d3 P_is_some_of (spSome1 K)) {f4 : Addr} {d4 : FuncData} (D_is_copies : Cl P w K mg base "is_copies" 1 f4 d4 P_is_copies (spCopies1 K C)) {f5 : Addr} {d5 : FuncData} (D_in_order : Cl P w K mg base "in_order" 1 f5 d5 P_in_order spOrder0) : FnOk P w K mg base CX0 3 f fd P_oinit (spOInit O C) := by
  refine F.ok sc_oinit (fun vs H Q E h => ?_) (fun cdv A outer s H vs Q E hr h => ?_)
  · obtain ⟨o, dr, p, a, d, x, z, ps, rfl, _⟩ := h
    rfl
  · obtain ⟨o, dr, p, a, d, x, z, ps, rfl, ho, hp, hz, ha, hd, hcx, q⟩ := h
    have nd := sc_oinit.nd
    have hu : (A.deeper (envOfC "Company.__init__" (defScope s_oinit) s.heap.objs.size f cdv)).units + 1 < cLine := by
      have := hr.un
      omega
    refine ⟨_,
    (pss_cons
    (ps_if (pt_not (pt_val (pe_call D_is_people.ok (hr.mono (by decide)) (by rfl) D_is_people.g D_is_people.kp D_is_people.b .nil pass0 (pa_cons (pv 1) pa_nil))))
      (pss_one
      ps_never)
      pss_nil)
    (pss_cons
    (ps_set (i := 3) nd rfl (Or.inl rfl) (pe_ifExp (pt_cmpR op_isN (pv 3) pe_non (nomark _)) pe_dnewK (pv 3)))
    (pss_cons
    (ps_if (PW.pt (pw_or (pt_not (pt_val (pe_call D_is_turns.ok (hr.mono (by decide)) (by rfl) D_is_turns.g D_is_turns.kp D_is_turns.b .nil pass0 (pa_cons (pv 2) (pa_cons (pv 1) pa_nil))))) (pw_or1 (pt_not (pt_val (pe_call D_is_turns.ok (hr.mono (by decide)) (by rfl) D_is_turns.g D_is_turns.kp D_is_turns.b .nil pass0 (pa_cons (pv 3) (pa_cons (pv 1) pa_nil))))))))
      (pss_one
      ps_never)
      pss_nil)
    (pss_cons
    (ps_set (i := 4) nd rfl (Or.inl rfl) (pe_ifExp (pt_cmpR op_isN (pv 4) pe_non (nomark _)) (pv 1) (pv 4)))
    (pss_cons
    (ps_if (pt_not (pt_val (pe_call D_is_some_of.ok (hr.mono (by decide)) (by rfl) D_is_some_of.g D_is_some_of.kp D_is_some_of.b .nil pass0 (pa_cons (pv 4) (pa_cons (pv 1) pa_nil)))))
      (pss_one
      ps_never)
      pss_nil)
    (pss_cons
    (ps_set (i := 5) nd rfl (Or.inr rfl) (pe_ifExp (pt_cmpR op_isN (pv 5) pe_non (nomark _)) pe_dnewK (pv 5)))
    (pss_cons
    (ps_if (pt_not (pt_val (pe_call D_is_copies.ok (hr.mono (by decide)) (by rfl) D_is_copies.g D_is_copies.kp D_is_copies.b .nil pass0 (pa_cons (pv 5) (pa_cons (pv 1) pa_nil)))))
      (pss_one
      ps_never)
      pss_nil)
    (pss_cons
    (ps_fld (pv 0) (pv 1) rfl)
    (pss_cons
    (ps_fld (pv 0) (pe_call D_in_order.ok (hr.mono (by decide)) (by rfl) D_in_order.g D_in_order.kp D_in_order.b .nil pass0 (pa_cons (pv 2) pa_nil)) rfl)
    (pss_cons
    (ps_fld (pv 0) (pe_call D_in_order.ok (hr.mono (by decide)) (by rfl) D_in_order.g D_in_order.kp D_in_order.b .nil pass0 (pa_cons (pv 3) pa_nil)) rfl)
    (pss_cons
    (ps_fld (pv 0) (pv 4) rfl)
    (pss_one
    (ps_fld (pv 0) (pe_dc (own := [("person", 6)]) (g := gName 6) (tt := tYes) rfl nd (pi_tup (pv 1)) (blkOk_by (N := N_oinit) (sc := defScope s_oinit) (by decide +kernel)) (fun _ _ _ _ _ => (pg_name (i := 6) nd rfl (Or.inl rfl))) (fun _ _ _ _ _ => pts_nil) (fun _ _ _ _ _ => (pv 6)) (fun _ _ _ _ _ => (pe_ifExp (pt_cmp (pc_din hu (pv 6) (pv 5))) (pe_dget hu (pv 5) (pv 6) (fun _ _ => rfl)) pe_never))) rfl))))))))))))), ?_⟩
    refine ⟨_, rfl, p, z, rfl, hp, hz, fun H1 s1 => ⟨true, rfl, ifF rfl ?_⟩⟩
    dsimp only [tNext]
    refine ⟨_, rfl, rfl, _, rfl, ifT rfl fun tk ntk => ?_⟩
    have s2 := s1.trans (same_new (o := .dK []) ntk)
    have htk2 : (upd H1 tk (.dK [])) tk = some (.dK []) := upd_same
    have ntk0 : tk ≠ o := fun e => by rw [e, s1 _ _ ho] at ntk; cases ntk
    generalize upd H1 tk (.dK []) = H2 at s2 htk2 ⊢
    refine ⟨_, rfl, _, rfl, a, _, rfl, s2 _ _ ha, fun H3 s3 => ⟨true, rfl, ifF rfl ⟨_, rfl, _, rfl, tk, _, rfl, s3 _ _ htk2, fun H4 s4 => ⟨true, rfl, ifF rfl ?_⟩⟩⟩⟩
    dsimp only [tNext]
    have s04 := (s2.trans s3).trans s4
    have htk4 := s4 _ _ (s3 _ _ htk2)
    refine ⟨_, rfl, rfl, _, rfl, ifT rfl ⟨_, rfl, ?_⟩⟩
    refine ⟨_, rfl, _, rfl, p, p, z, rfl, s04 _ _ hp, s04 _ _ hp, fun H5 s5 => ⟨true, rfl, ifF rfl ?_⟩⟩
    dsimp only [tNext]
    refine ⟨_, rfl, rfl, _, rfl, ifF rfl ⟨_, rfl, ?_⟩⟩
    have s05 := s04.trans s5
    refine ⟨_, rfl, _, rfl, d, p, x, z, ps, rfl, s05 _ _ hd, s05 _ _ hp, hcx.same s05, fun H6 s6 => ⟨true, rfl, ifF rfl ?_⟩⟩
    dsimp only [tNext]
    have s06 := s05.trans s6
    have htk6 := s6 _ _ (s5 _ _ htk4)
    have hpo : p ≠ o := fun e => by rw [e, ho] at hp; cases hp
    have hao : a ≠ o := fun e => by rw [e, ho] at ha; cases ha
    have hdo : d ≠ o := fun e => by rw [e, ho] at hd; cases hd
    -- _people
    refine ⟨_, rfl, _, rfl, o, O, dr, [], rfl, s06 _ _ ho, oc.cls, n1, by decide, ?_⟩
    have c7 : Chg o H (upd H6 o (.ins O dr (putF "_people" (.ref p) []))) := (Chg.of s06).upd
    have ho7 : (upd H6 o (.ins O dr (putF "_people" (.ref p) []))) o = some (.ins O dr [("_people", .ref p)]) := upd_same
    have htk7 : (upd H6 o (.ins O dr (putF "_people" (.ref p) []))) tk = some (.dK []) := by rw [upd_ne ntk0]; exact htk6
    generalize upd H6 o (.ins O dr (putF "_people" (.ref p) [])) = H7 at c7 ho7 htk7 ⊢
    -- _answers
    refine ⟨_, rfl, a, rfl, c7 _ _ hao ha, fun H8 a1 s8 na1 ha1 => ?_⟩
    refine ⟨_, rfl, o, O, dr, _, rfl, s8 _ _ ho7, oc.cls, n2, by show 1 < 1000; decide, ?_⟩
    have na1o : a1 ≠ o := fun e => by rw [e, ho7] at na1; cases na1
    have c9 : Chg o H (upd H8 o (.ins O dr (putF "_answers" (.ref a1) [("_people", .ref p)]))) := (c7.trans (Chg.of s8)).upd
    have ho9 : (upd H8 o (.ins O dr (putF "_answers" (.ref a1) [("_people", .ref p)]))) o = some (.ins O dr [("_people", .ref p), ("_answers", .ref a1)]) := upd_same
    have htk9 : (upd H8 o (.ins O dr (putF "_answers" (.ref a1) [("_people", .ref p)]))) tk = some (.dK []) := by rw [upd_ne ntk0]; exact s8 _ _ htk7
    generalize upd H8 o (.ins O dr (putF "_answers" (.ref a1) [("_people", .ref p)])) = H9 at c9 ho9 htk9 ⊢
    -- _takings
    refine ⟨_, rfl, tk, rfl, htk9, fun Ha a2 sa na2 ha2 => ?_⟩
    refine ⟨_, rfl, o, O, dr, _, rfl, sa _ _ ho9, oc.cls, n3, by show 2 < 1000; decide, ?_⟩
    have cb : Chg o H (upd Ha o (.ins O dr (putF "_takings" (.ref a2) [("_people", .ref p), ("_answers", .ref a1)]))) := (c9.trans (Chg.of sa)).upd
    have hob : (upd Ha o (.ins O dr (putF "_takings" (.ref a2) [("_people", .ref p), ("_answers", .ref a1)]))) o = some (.ins O dr [("_people", .ref p), ("_answers", .ref a1), ("_takings", .ref a2)]) := upd_same
    generalize upd Ha o (.ins O dr (putF "_takings" (.ref a2) [("_people", .ref p), ("_answers", .ref a1)])) = Hb at cb hob ⊢
    -- _starts
    refine ⟨_, rfl, _, rfl, o, O, dr, _, rfl, hob, oc.cls, n4, by show 3 < 1000; decide, ?_⟩
    have cc : Chg o H (upd Hb o (.ins O dr (putF "_starts" (.ref p) [("_people", .ref p), ("_answers", .ref a1), ("_takings", .ref a2)]))) := cb.upd
    have hoc : (upd Hb o (.ins O dr (putF "_starts" (.ref p) [("_people", .ref p), ("_answers", .ref a1), ("_takings", .ref a2)]))) o = some (.ins O dr [("_people", .ref p), ("_answers", .ref a1), ("_takings", .ref a2), ("_starts", .ref p)]) := upd_same
    generalize upd Hb o (.ins O dr (putF "_starts" (.ref p) [("_people", .ref p), ("_answers", .ref a1), ("_takings", .ref a2)])) = Hc at cc hoc ⊢
    -- _copies
    have hpc := cc _ _ hpo hp
    have hdc := cc _ _ hdo hd
    refine ⟨_, rfl, p, rfl, ⟨_, .of hpc⟩, fun D nD => ?_⟩
    refine dc_tup (xs := [.str z]) (fun i Hd => Same Hc Hd ∧ Hd D = some (.dK (if i = 0 then [] else [(.inr z, .ref x)]))) ⟨same_new nD, upd_same⟩ (fun i Hd _ hP => .of (hP.1 _ _ hpc)) (fun i v Hd hv hP => ?_) (fun Hd hP => ?_)
    · obtain ⟨sd, hD⟩ := hP
      have e : i = 0 ∧ v = .str z := by
        match i, hv with
        | 0, hv => exact ⟨rfl, (Option.some.inj hv).symm⟩
        | i + 1, hv => cases hv
      obtain ⟨rfl, rfl⟩ := e
      have dg := dget1 (sd _ _ hdc)
      exact ⟨rfl, _, rfl, _, rfl, _, rfl, d, some (.ref x), rfl, dg, true, rfl, ifT rfl ⟨_, rfl, _, rfl, d, .ref x, rfl, dg, [], .inr z, rfl, hD, by decide, same_set sd nD, upd_same⟩⟩
    · obtain ⟨sd, hD⟩ := hP
      have noD : D ≠ o := fun e => by rw [e, hoc] at nD; cases nD
      refine ⟨_, rfl, o, O, dr, _, rfl, sd _ _ hoc, oc.cls, n5, by show 4 < 1000; decide, ?_⟩
      exact q _ ((cc.trans (Chg.of sd)).upd) ⟨dr, p, a1, a2, D, upd_same, by rw [upd_ne hpo]; exact sd _ _ hpc, by rw [upd_ne noD]; exact hD⟩

def spPpl (O : Addr) : Sp := fun vs H Q _ => ∃ (o x : Addr) (z : Str), vs = [.ref o] ∧ CompAt O H o x z ∧ ∀ p, H p = some (.tup [.str z]) → Q (.ref p) H
theorem ok_opeople (Z : Zs mg) (D : Dm K "people" "Company.people" s_opeople P_opeople f fd) (oc : KC K O) (n1 : NoAttr K O "_people") : FnOk P w K mg base CX0 1 f fd P_opeople (spPpl O) := by
  refine D.F.ok sc_opeople (fun vs H Q E h => ?_) (fun cdv A outer s H vs Q E hr h => ?_)
  · obtain ⟨o, x, z, rfl, _⟩ := h
    rfl
  · obtain ⟨o, x, z, rfl, ⟨dr, p, a1, a2, d, ho, hp, hd⟩, q⟩ := h
    have nd := sc_opeople.nd
    refine ⟨_,
    (pss_one
    (ps_ret (pe_fld (pv 0) rfl))), ?_⟩
    exact ⟨_, rfl, o, O, dr, _, .ref p, rfl, ho, oc.cls, n1, rfl, q p hp⟩

def spChkO (O : Addr) : Sp := fun vs H Q _ => ∃ (o x : Addr) (z : Str), vs = [.ref o] ∧ CompAt O H o x z ∧ Q .non H
theorem ok_check_company (Z : Zs mg) (D : Df K mg "check_company" s_check_company P_check_company f fd) (oc : KC K O) (hO : mg "Company" = some (.ref O)) : FnOk P w K mg base CX0 1 f fd P_check_company (spChkO O) := by
  refine D.F.ok sc_check_company (fun vs H Q E h => ?_) (fun cdv A outer s H vs Q E hr h => ?_)
  · obtain ⟨o, x, z, rfl, _⟩ := h
    rfl
  · obtain ⟨o, x, z, rfl, ⟨dr, p, a1, a2, d, ho, hp, hd⟩, q⟩ := h
    have nd := sc_check_company.nd
    refine ⟨_,
    (pss_one
    (ps_if (pt_not (pt_val (pe_callB call_isi (by rfl) Z.z_isinstance (by decide +kernel) (pa_cons (pv 0) (pa_cons (pe_glob (v := .ref O) rfl hO rfl) pa_nil)))))
      (pss_one
      ps_never)
      pss_nil)), ?_⟩
    exact ⟨_, rfl, .ref o, .ref O, _, _, true, rfl, .own O, oc.ty ho, oc.kit, true, rfl, ifF rfl q⟩

def spChkP (O : Addr) : Sp := fun vs H Q _ => ∃ (o x : Addr) (z : Str), vs = [.ref o, .str z] ∧ CompAt O H o x z ∧ Q .non H
theorem ok_check_person (Z : Zs mg) (D : Df K mg "check_person" s_check_person P_check_person f fd) (oc : KC K O) {p6 f6 : Addr} {d6 : FuncData} (pr_people : PropOf K O "people" p6 f6) (M_people : Cm P w K mg base 1 f6 d6 P_opeople (spPpl O)) : FnOk P w K mg base CX0 3 f fd P_check_person (spChkP O) := by
  refine D.F.ok sc_check_person (fun vs H Q E h => ?_) (fun cdv A outer s H vs Q E hr h => ?_)
  · obtain ⟨o, x, z, rfl, _⟩ := h
    rfl
  · obtain ⟨o, x, z, rfl, hc0, q⟩ := h
    have hc1 := hc0
    obtain ⟨dr, p, a1, a2, d, ho, hp, hd⟩ := hc1
    have nd := sc_check_person.nd
    refine ⟨_,
    (pss_one
    (ps_if (pt_cmpR op_notIn_seq (pv 1) (pe_prop (pv 0) oc.cls pr_people M_people.ok (hr.mono (by decide)) M_people.b .nil pass0 rfl) (by rfl))
      (pss_one
      ps_never)
      pss_nil)), ?_⟩
    refine ⟨_, rfl, _, rfl, o, dr, _, rfl, ho, o, x, z, rfl, hc0, fun p' hp' => ⟨p', _, rfl, .inr (.of hp'), rfl, rfl, _, rfl, ifF ?_ q⟩⟩
    show (!inV (.str z) [.str z]) = false
    rw [in1]
    rfl

def spRoad (O : Addr) : Sp := fun vs H Q _ => ∃ (o x : Addr) (z : Str), vs = [.ref o, .str z] ∧ CompAt O H o x z ∧ Q (.ref x) H
theorem ok_oroad (Z : Zs mg) (D : Dm K "road_to_reader" "Company.road_to_reader" s_oroad P_oroad f fd) (oc : KC K O) (n5 : NoAttr K O "_copies") {f1 : Addr} {d1 : FuncData} (D_check_person : Cl P w K mg base "check_person" 3 f1 d1 P_check_person (spChkP O)) : FnOk P w K mg base CX0 4 f fd P_oroad (spRoad O) := by
  refine D.F.ok sc_oroad (fun vs H Q E h => ?_) (fun cdv A outer s H vs Q E hr h => ?_)
  · obtain ⟨o, x, z, rfl, _⟩ := h
    rfl
  · obtain ⟨o, x, z, rfl, hc0, q⟩ := h
    have hc1 := hc0
    obtain ⟨dr, p, a1, a2, d, ho, hp, hd⟩ := hc1
    have nd := sc_oroad.nd
    have hu : (A.deeper (envOfC "Company.road_to_reader" (defScope s_oroad) s.heap.objs.size f cdv)).units + 1 < cLine := by
      have := hr.un
      omega
    refine ⟨_,
    (pss_cons
    (ps_expr (pe_call D_check_person.ok (hr.mono (by decide)) (by rfl) D_check_person.g D_check_person.kp D_check_person.b .nil pass0 (pa_cons (pv 0) (pa_cons (pv 1) pa_nil))))
    (pss_one
    (ps_ret (pe_dget hu (pe_fld (pv 0) rfl) (pv 1) (fun _ _ => rfl))))), ?_⟩
    exact ⟨_, rfl, _, rfl, o, x, z, rfl, hc0, ⟨_, rfl, o, O, dr, _, .ref d, rfl, ho, oc.cls, n5, rfl, _, rfl, d, .ref x, rfl, dget1 hd, q⟩⟩

theorem ok_ocopy (Z : Zs mg) (D : Dm K "copy" "Company.copy" s_ocopy P_ocopy f fd) (oc : KC K O) {f1 : Addr} {d1 : FuncData} (me_road : Meth K O "road_to_reader" f1) (M_road : Cm P w K mg base 4 f1 d1 P_oroad (spRoad O)) : FnOk P w K mg base CX0 5 f fd P_ocopy (spRoad O) := by
  refine D.F.ok sc_ocopy (fun vs H Q E h => ?_) (fun cdv A outer s H vs Q E hr h => ?_)
  · obtain ⟨o, x, z, rfl, _⟩ := h
    rfl
  · obtain ⟨o, x, z, rfl, hc0, q⟩ := h
    have hc1 := hc0
    obtain ⟨dr, p, a1, a2, d, ho, hp, hd⟩ := hc1
    have nd := sc_ocopy.nd
    refine ⟨_,
    (pss_one
    (ps_ret (pe_meth (pv 0) oc.cls me_road M_road.ok (hr.mono (by decide)) M_road.b .nil pass0 (pa_cons (pv 1) pa_nil)))), ?_⟩
    exact ⟨_, rfl, o, dr, _, rfl, ho, rfl, _, rfl, o, x, z, rfl, hc0, q⟩

def spThrough (R O C : Addr) : Sp := fun vs H Q _ => ∃ (r x o y : Addr) (b : Bool) (z : Str) (ps qs : List Part), vs = [.ref r, .ref o, .str z] ∧ RuleAt R H r x b ∧ CutAt C H x ps ∧ CompAt O H o y z ∧ CutAt C H y qs ∧ (qs ++ ps).length ≤ 8 ∧ ∀ H' t, Same H H' → CutAt C H' t (qs ++ ps) → Q (.ref t) H'
theorem ok_through (Z : Zs mg) (D : Dm K "through" "Rule.through" s_through P_through f fd) (rk : KC K R) (n1 : NoAttr K R "_cutter") (oc : KC K O) (c : CK K C) (hC : mg "Cutter" = some (.ref C)) {f1 : Addr} {d1 : FuncData} (D_check_company : Cl P w K mg base "check_company" 1 f1 d1 P_check_company (spChkO O)) {f2 : Addr} {d2 : FuncData} (D_check_person : Cl P w K mg base "check_person" 3 f2 d2 P_check_person (spChkP O)) {f3 p4 f4 : Addr} {d3 d4 : FuncData} (me_copy : Meth K O "copy" f3) (M_copy : Cm P w K mg base 5 f3 d3 P_ocopy (spRoad O)) (pr_parts : PropOf K C "parts" p4 f4) (M_parts : Cm P w K mg base 1 f4 d4 P_parts (spParts C)) {fa pa : Addr} {mc : Value} (cr : ClX.CRead K C mc) (cmA : ClX.CMet K C mc "of_any" pa fa) (F_any : FnR P w K mg base CX0 7 fa (spOfAny C)) : FnOk P w K mg base CX0 8 f fd P_through (spThrough R O C) := by
  refine D.F.ok sc_through (fun vs H Q E h => ?_) (fun cdv A outer s H vs Q E hr h => ?_)
  · obtain ⟨r, x, o, y, b, z, ps, qs, rfl, _⟩ := h
    rfl
  · obtain ⟨r, x, o, y, b, z, ps, qs, rfl, hrr, hcx, hc0, hcy, hl, q⟩ := h
    obtain ⟨rr, hr0⟩ := hrr
    have hc1 := hc0
    obtain ⟨dr, p, a1, a2, d, ho, hp, hd⟩ := hc1
    have nd := sc_through.nd
    obtain ⟨dx, px, _, _, hx, hpx, _⟩ := hcx.ex
    obtain ⟨dy, py, _, _, hy, hpy, _⟩ := hcy.ex
    refine ⟨_,
    (pss_cons
    (ps_expr (pe_call D_check_company.ok (hr.mono (by decide)) (by rfl) D_check_company.g D_check_company.kp D_check_company.b .nil pass0 (pa_cons (pv 1) pa_nil)))
    (pss_cons
    (ps_expr (pe_call D_check_person.ok (hr.mono (by decide)) (by rfl) D_check_person.g D_check_person.kp D_check_person.b .nil pass0 (pa_cons (pv 1) (pa_cons (pv 2) pa_nil))))
    (pss_one
    (ps_ret (ClX.pe_cmeth (pe_glob (v := .ref C) rfl hC rfl) cr cmA F_any (hr.mono (by decide)) pass0 (pa_cons (pe_op op_catA (pe_prop (pe_meth (pv 1) oc.cls me_copy M_copy.ok (hr.mono (by decide)) M_copy.b .nil pass0 (pa_cons (pv 2) pa_nil)) c.cls pr_parts M_parts.ok (hr.mono (by decide)) M_parts.b .nil pass0 rfl) (pe_prop (pe_fld (pv 0) rfl) c.cls pr_parts M_parts.ok (hr.mono (by decide)) M_parts.b .nil pass0 rfl)) pa_nil)))))), ?_⟩
    refine ⟨_, rfl, o, y, z, rfl, hc0, _, rfl, _, rfl, o, y, z, rfl, hc0, rfl, ?_⟩
    refine ⟨_, rfl, o, dr, _, rfl, ho, rfl, _, rfl, o, y, z, rfl, hc0, y, dy, _, rfl, hy, y, qs, rfl, hcy, fun py' hpy' => ?_⟩
    refine ⟨_, rfl, r, R, rr, _, .ref x, rfl, hr0, rk.cls, n1, rfl, x, dx, _, rfl, hx, x, ps, rfl, hcx, fun px' hpx' => ?_⟩
    have hok : ∀ p ∈ qs ++ ps, Ok p := fun p hp => (List.mem_append.mp hp).elim (hcy.ok p) (hcx.ok p)
    have epV : pV qs ++ pV ps = pV (qs ++ ps) := by
      unfold pV
      rw [List.map_append]
    refine ⟨py', px', pV qs, pV ps, rfl, rfl, .of hpy', .of hpx', by rw [← List.length_append, epV, pV_len]; exact sz1000 (by omega), fun e => ?_, fun _ e => ?_, fun _ _ t nt => ?_⟩
    · have e2 : qs = [] := List.map_eq_nil_iff.mp e
      subst e2
      exact ⟨px', ps, rfl, hpx', hok, hl, fun H1 t s1 _ k1 => q H1 t s1 k1⟩
    · have e2 : ps = [] := List.map_eq_nil_iff.mp e
      subst e2
      exact ⟨py', qs ++ [], rfl, by rw [List.append_nil]; exact hpy', hok, hl, fun H1 t s1 _ k1 => q H1 t s1 k1⟩
    · exact ⟨t, qs ++ ps, rfl, by rw [upd_same, epV], hok, hl, fun H1 t' s1 _ k1 => q H1 t' ((same_new nt).trans s1) k1⟩

end
end K67
set_option Elab.async false
set_option linter.all false
set_option maxRecDepth 100000
set_option maxHeartbeats 8000000
namespace K67
open PySem PySem.Spec PyProof.Rows L2 Ly Cut

abbrev s_right : Stmt := topS 97
abbrev N_right : List Str := ["_law_dice_here", "_law_parts", "_law_late", "_law_sees", "_law_adds", "_law_cutter", "_law_other", "_law_again", "_law_rule", "_law_text", "_law_told", "_law_turn", "_law_one", "_law_some", "_law_company", "_law_both"]
abbrev P_right : List Str := ["_law_dice_here"]
theorem sc_right : FnScope N_right P_right (defScope s_right) := ⟨rfl, rfl, rfl, by decide +kernel, rfl, by decide +kernel, by decide +kernel⟩

theorem eqv_dP : ∀ ps : List Part, PyData.eqvAll (dP ps) (dP ps) = true
  | [] => rfl
  | p :: ps => by
    show ((p.text == p.text) && PyData.eqvAll (dP ps) (dP ps)) = true
    rw [eqv_dP ps, Bool.and_true]
    exact beq_self_eq_true _
theorem shp_tup {ds : List PyData} (h : PyData.canLayAll0 ds = true) (hd : PyData.depthAll ds = 0) : SeqAt.shaped (.tuple ds) = true := by
  show (PyData.canLayAll0 ds && decide (PyData.depthAll ds + 1 ≤ 64)) = true
  rw [h, hd]
  rfl
theorem shp_dP {ps : List Part} (h : ∀ p ∈ ps, Ok p) : SeqAt.shaped (.list (dP ps)) = true := shp_list (canLay_dP ps h) (depth_dP ps)
theorem shp_dPt {ps : List Part} (h : ∀ p ∈ ps, Ok p) : SeqAt.shaped (.tuple (dP ps)) = true := shp_tup (canLay_dP ps h) (depth_dP ps)
theorem shp_two {ps qs : List Part} (h : ∀ p ∈ ps, Ok p) (h' : ∀ p ∈ qs, Ok p) : SeqAt.shaped (.list [.list (dP ps), .list (dP qs)]) = true := by
  show ((PyData.canLayAll0 (dP ps) && (PyData.canLayAll0 (dP qs) && true)) && decide (max (PyData.depthAll (dP ps) + 1) (max (PyData.depthAll (dP qs) + 1) 0) + 1 ≤ 64)) = true
  rw [canLay_dP ps h, canLay_dP qs h', depth_dP, depth_dP]
  rfl
theorem eqv_two (ps qs : List Part) : PyData.eqv (.list [.list (dP ps), .list (dP qs)]) (.list [.list (dP ps), .list (dP qs)]) = true := by
  show (PyData.eqvAll (dP ps) (dP ps) && (PyData.eqvAll (dP qs) (dP qs) && true)) = true
  rw [eqv_dP, eqv_dP]
  rfl
theorem tIf_str {tA : TT} {a b : Str} {s : Bool} {σ : L2.St} {H : Hp} {Q : VK} (h : ∀ R : Bool → Hp → Prop, R s H → tA σ H R) (q : Q (.str (if s then a else b)) H) : tIf tA (tC (.str a)) (tC (.str b)) σ H Q := h _ (by cases s <;> exact q)
theorem tOp_str {r : R2} {tA : TT} {a b : Str} {s : Bool} {tb : TE} {σ : L2.St} {H : Hp} {Q : VK} (h : ∀ R : Bool → Hp → Prop, R s H → tA σ H R) (q : tb σ H fun y H2 => r (.str (if s then a else b)) y H2 Q) : tOp r (tIf tA (tC (.str a)) (tC (.str b))) tb σ H Q := h _ (by cases s <;> exact q)
theorem reSt {t : TS} {D : Ends} {σ σ' : L2.St} {H : Hp} (e : σ = σ') (k : t D σ' H) : t D σ H := e ▸ k
section
variable {X : Cx} {K : PySem.W.Frag}
theorem listK (h : X.K = K) : CallR X (.type "list") (fun xs H Q => ∃ p ys, xs = [.ref p] ∧ (SqL K H p ys ∨ SqT K H p ys) ∧ ∀ l, H l = none → Q (.ref l) (upd H l (.lst ys))) := h ▸ call_list_of
theorem neDK (h : X.K = K) (hu : X.A.units + 64 < cLine) : OpR X (compareOp .NotEq) (rNeD K) := h ▸ op_neD hu
end
def Two (H : Hp) (D : Addr) (A B : List V) : Nat → Prop
  | 0 => H D = some (.lst [])
  | 1 => ∃ l1, H D = some (.lst [.ref l1]) ∧ H l1 = some (.lst A) ∧ l1 ≠ D
  | _ => ∃ l1 l2, H D = some (.lst [.ref l1, .ref l2]) ∧ H l1 = some (.lst A) ∧ H l2 = some (.lst B)
/-- a comprehension over a pair that makes two lists -/
theorem lc_two {K : PySem.W.Frag} {p : Addr} {x1 x2 : V} {g : TG} {tt : TT} {te : TE} {vs : List Nat} {σ : L2.St} {H1 : Hp} {D : Addr} {Qd : Hp → Prop} (A B : List V) (hS : H1 p = some (.tup [x1, x2])) (nD : H1 D = none)
    (e1 : ∀ (H : Hp) (Q : VK) (N : Hp → Prop), Same H1 H → (∃ o, H D = some o) → (∀ l H4, Same H H4 → l ≠ D → H4 l = some (.lst A) → Q (.ref l) H4) → g x1 (wipe σ vs) H fun σ2 H2 => wipe σ2 vs = wipe σ vs ∧ tt σ2 H2 fun b H3 => if b = true then te σ2 H3 Q else N H3)
    (e2 : ∀ (H : Hp) (Q : VK) (N : Hp → Prop), Same H1 H → (∃ o, H D = some o) → (∀ l H4, Same H H4 → l ≠ D → H4 l = some (.lst B) → Q (.ref l) H4) → g x2 (wipe σ vs) H fun σ2 H2 => wipe σ2 vs = wipe σ vs ∧ tt σ2 H2 fun b H3 => if b = true then te σ2 H3 Q else N H3)
    (hd : ∀ H' l1 l2, Same H1 H' → H' D = some (.lst [.ref l1, .ref l2]) → H' l1 = some (.lst A) → H' l2 = some (.lst B) → Qd H') : LcW (Itt K p) g tt te vs σ H1 D Qd := by
  refine lc_tup (xs := [x1, x2]) (fun i H => Same H1 H ∧ Two H D A B i) ⟨same_new nD, upd_same⟩ (fun i H _ h => .of (h.1 _ _ hS)) (fun i x H hx h => ?_) (fun H h => ?_)
  · obtain ⟨s, t⟩ := h
    match i, hx with
    | 0, hx =>
      obtain rfl : x1 = x := Option.some.inj hx
      have t0 : H D = some (.lst []) := t
      refine e1 H _ _ s ⟨_, t0⟩ fun l H4 s4 ne hl => ⟨_, s4 _ _ t0, by decide, same_set (s.trans s4) nD, l, upd_same, ?_, ne⟩
      rw [upd_ne ne]
      exact hl
    | 1, hx =>
      obtain rfl : x2 = x := Option.some.inj hx
      obtain ⟨l1, t0, t1, t2⟩ := t
      refine e2 H _ _ s ⟨_, t0⟩ fun l H4 s4 ne hl => ⟨_, s4 _ _ t0, by show 1 < sizeLine; decide, same_set (s.trans s4) nD, l1, l, upd_same, ?_, ?_⟩
      · rw [upd_ne t2]
        exact s4 _ _ t1
      · rw [upd_ne ne]
        exact hl
    | i + 2, hx => cases hx
  · obtain ⟨s, l1, l2, t0, t1, t2⟩ := h
    exact hd H l1 l2 s t0 t1 t2
/-- two items of a turn that are equal -/
def Req (C : Addr) : Addr → Addr → Hp → Prop := fun a b H => ∃ ps qs, CutAt C H a ps ∧ CutAt C H b qs ∧ alike ps qs = true
def DItem (C : Addr) : Eqv := fun x y H => DFlat x y H ∨ DIns C (Req C) x y H
theorem mon_item (C : Addr) : Mon (DItem C) := mon_flat.or (mon_ins fun _ _ _ _ e h => let ⟨ps, qs, k1, k2, k3⟩ := h; ⟨ps, qs, k1.same (fun b o z => e b o z), k2.same (fun b o z => e b o z), k3⟩)

section
variable {P : Program} {w : World} {K : PySem.W.Frag} {mg : Str → Option Value} {base : Heap} {f C R O : Addr} {fd : FuncData}
theorem eqG_item {X : Cx} {n : Nat} {CX : CXT} {E : XK} {C f : Addr} {fd : FuncData} {ps : List Str} (F : FnOk X.prog X.w X.K X.mg X.base CX n f fd ps (spCutEq C)) (hs : PySem.W.findIn X.K (.ref C) "__eq__" = some (some (.ref f))) (hf : PySem.W.isFn X.K (.ref f) = true) (hb : Binds X.K fd ps []) (hx : Passes CX X E) : EqG X n (DItem C) :=
  (eqG_flat.mono (Nat.zero_le n)).or (eqG_ins (F.imp fun vs H Q E h => by
    obtain ⟨a, b, rfl, ⟨ps, qs, k1, k2, k3⟩, q⟩ := h
    exact ⟨a, b, ps, qs, rfl, k1, k2, by rw [k3]; exact q H Ext.rfl'⟩) hs hf hb hx)
def spRight : Sp := fun vs H Q _ => ∃ d : Addr, vs = [.ref d] ∧ Dice H d ∧ ∀ H', Chg d H H' → Dice H' d → Q (.bl true) H'
set_option maxHeartbeats 40000000
theorem ok_right (Z : Zs mg) (D : Df K mg "_law_right" s_right P_right f fd) (c : CK K C) (hC : mg "Cutter" = some (.ref C)) (hO : mg "Company" = some (.ref O)) (rk : KC K R) (oc : KC K O) {f1 : Addr} {d1 : FuncData} (D_Llong_parts : Cl P w K mg base "_law_long_parts" 5 f1 d1 P_long spLong) {f2 : Addr} {d2 : FuncData} (D_Lroll : Cl P w K mg base "_law_roll" 1 f2 d2 P_roll spRoll) {f3 : Addr} {d3 : FuncData} (D_Lcutter_text : Cl P w K mg base "_law_cutter_text" 1 f3 d3 P_ctext (spCT K)) {f4 : Addr} {d4 : FuncData} (D_Lturn_text : Cl P w K mg base "_law_turn_text" 2 f4 d4 P_ttext (spTT K)) {f5 : Addr} {d5 : FuncData} (D_cutter_text : Cl P w K mg base "cutter_text" 4 f5 d5 P_cutter_text (spCutStr C)) {f6 : Addr} {d6 : FuncData} (D_rule_text : Cl P w K mg base "rule_text" 3 f6 d6 P_rule_text (spRuleText R C)) {f10 : Addr} {d10 : FuncData} (D_turn_text : Cl P w K mg base "turn_text" 4 f10 d10 P_turn_text (spTurnText C)) {f11 : Addr} {d11 : FuncData} (D_read_cutter : Cl P w K mg base "read_cutter" 9 f11 d11 P_read_cutter (spReadCut C)) {f12 : Addr} {d12 : FuncData} (D_read_rule : Cl P w K mg base "read_rule" 10 f12 d12 P_read_rule (spReadRule R C)) {f13 : Addr} {d13 : FuncData} (D_read_turn : Cl P w K mg base "read_turn" 10 f13 d13 P_read_turn (spReadTurn C)) {p7 f7 : Addr} {d7 : FuncData} (pr_cutter : PropOf K R "cutter" p7 f7) (M_cutter : Cm P w K mg base 1 f7 d7 P_rcutter (spRCut R)) {p8 f8 : Addr} {d8 : FuncData} (pr_sees_lost : PropOf K R "sees_lost" p8 f8) (M_sees_lost : Cm P w K mg base 1 f8 d8 P_rsees (spRSees R)) {f9 : Addr} (sp_str : Sp1 K C f9 "__str__") (F_str : FnR P w K mg base CX0 1 f9 (spCutStr C)) {fri : Addr} {dri : FuncData} (hR : mg "Rule" = some (.ref R)) (RM : Mk K R fri) (RF : FnOk P w K mg base CX0 2 fri dri P_rinit (spRInit R C)) (RB : KBn K dri P_rinit 2 ["sees_lost"] (fun us ws => us ++ ws) (fun vs zs => vs ++ zs)) {p14 f14 : Addr} {d14 : FuncData} (pr_parts : PropOf K C "parts" p14 f14) (M_parts : Cm P w K mg base 1 f14 d14 P_parts (spParts C)) {fo po f15 f16 f17 : Addr} {mc : Value} (cr : ClX.CRead K C mc) (cmO : ClX.CMet K C mc "of" po fo) (F_of : FnR P w K mg base CX0 7 fo (spCutOf C)) {d15 d17 : FuncData} (sp_eq : Sp1 K C f15 "__eq__") (OkEq : FnOk P w K mg base CX0 1 f15 d15 P_eqc (spCutEq C)) (bEq : Binds K d15 P_eqc []) (F_eq : FnR P w K mg base CX0 1 f15 (spCutEq C)) (neC : NeO K C) (sp_req : Sp1 K R f16 "__eq__") (F_req : FnR P w K mg base CX0 2 f16 (spREq R C)) (neR : NeO K R) (me_through : Meth K R "through" f17) (M_through : Cm P w K mg base 8 f17 d17 P_through (spThrough R O C)) {foi : Addr} {doi : FuncData} (OM : Mk K O foi) (OF : FnOk P w K mg base CX0 3 foi doi P_oinit (spOInit O C)) {mv : List Value} (OB : KBn K doi P_oinit 3 ["copies"] (fun us ws => us ++ mv ++ ws) (fun vs zs => vs ++ [.non, .non] ++ zs)) : FnOk P w K mg base CX0 12 f fd P_right spRight := by
  refine D.F.ok sc_right (fun vs H Q E h => ?_) (fun cdv A outer s H vs Q E hr h => ?_)
  · obtain ⟨d, rfl, _⟩ := h
    rfl
  · obtain ⟨d, rfl, hD, q⟩ := h
    have nd := sc_right.nd
    have hu : (A.deeper (envOfC "_law_right" (defScope s_right) s.heap.objs.size f cdv)).units + 64 < cLine := by
      have := hr.un
      omega
    refine ⟨_,
    (pss_cons
    (ps_par (i := 1) (j := 2) (by rfl) nd rfl rfl (by decide) rfl rfl (pa_cons (pe_call D_Llong_parts.ok (hr.mono (by decide)) (by rfl) D_Llong_parts.g D_Llong_parts.kp D_Llong_parts.b .nil pass0 (pa_cons (pv 0) pa_nil)) (pa_cons (pe_call D_Llong_parts.ok (hr.mono (by decide)) (by rfl) D_Llong_parts.g D_Llong_parts.kp D_Llong_parts.b .nil pass0 (pa_cons (pv 0) pa_nil)) pa_nil)) (by rfl))
    (pss_cons
    (ps_par (i := 3) (j := 4) (by rfl) nd rfl rfl (by decide) rfl rfl (pa_cons (pe_cmpR op_eq (pe_call D_Lroll.ok (hr.mono (by decide)) (by rfl) D_Lroll.g D_Lroll.kp D_Lroll.b .nil pass0 (pa_cons (pv 0) (pa_cons pe_int pa_nil))) pe_int (nomark _)) (pa_cons (pe_cmpR op_eq (pe_call D_Lroll.ok (hr.mono (by decide)) (by rfl) D_Lroll.g D_Lroll.kp D_Lroll.b .nil pass0 (pa_cons (pv 0) (pa_cons pe_int pa_nil))) pe_int (nomark _)) pa_nil)) (by rfl))
    (pss_cons
    (ps_par (i := 5) (j := 6) (by rfl) nd rfl rfl (by decide) rfl rfl (pa_cons (ClX.pe_cmeth (pe_glob (v := .ref C) rfl hC rfl) cr cmO F_of (hr.mono (by decide)) pass0 (pa_cons (pe_callTy call_tuple_of (by rfl) Z.z_tuple (by decide +kernel) (pa_cons (pv 1) pa_nil)) pa_nil)) (pa_cons (ClX.pe_cmeth (pe_glob (v := .ref C) rfl hC rfl) cr cmO F_of (hr.mono (by decide)) pass0 (pa_cons (pe_callTy call_tuple_of (by rfl) Z.z_tuple (by decide +kernel) (pa_cons (pv 2) pa_nil)) pa_nil)) pa_nil)) (by rfl))
    (pss_cons
    (ps_if (PW.pt (pw_or (pt_cmpR op_ne (pe_call D_cutter_text.ok (hr.mono (by decide)) (by rfl) D_cutter_text.g D_cutter_text.kp D_cutter_text.b .nil pass0 (pa_cons (pv 5) pa_nil)) (pe_call D_Lcutter_text.ok (hr.mono (by decide)) (by rfl) D_Lcutter_text.g D_Lcutter_text.kp D_Lcutter_text.b .nil pass0 (pa_cons (pv 1) pa_nil)) (nomark _)) (pw_or1 (pt_cmpR op_ne (pe_callTy (call_strO sp_str F_str (hr.mono (by decide)) pass0) (by rfl) Z.z_str (by decide +kernel) (pa_cons (pv 5) pa_nil)) (pe_call D_Lcutter_text.ok (hr.mono (by decide)) (by rfl) D_Lcutter_text.g D_Lcutter_text.kp D_Lcutter_text.b .nil pass0 (pa_cons (pv 1) pa_nil)) (nomark _)))))
      (pss_one
      (ps_ret pe_bl))
      pss_nil)
    (pss_cons
    (ps_set (i := 7) nd rfl (Or.inl rfl) (pe_call D_read_cutter.ok (hr.mono (by decide)) (by rfl) D_read_cutter.g D_read_cutter.kp D_read_cutter.b .nil pass0 (pa_cons (pe_call D_Lcutter_text.ok (hr.mono (by decide)) (by rfl) D_Lcutter_text.g D_Lcutter_text.kp D_Lcutter_text.b .nil pass0 (pa_cons (pv 1) pa_nil)) pa_nil)))
    (pss_cons
    (ps_if (PW.pt (pw_or (pt_cmpR (op_neO sp_eq neC F_eq (hr.mono (by decide)) pass0) (pv 7) (pv 5) (nomark _)) (pw_or1 (pt_cmpR (op_neD hu) (pe_callTy call_list_of (by rfl) Z.z_list (by decide +kernel) (pa_cons (pe_prop (pv 7) c.cls pr_parts M_parts.ok (hr.mono (by decide)) M_parts.b .nil pass0 rfl) pa_nil)) (pe_ifExp (pt_cmpR (op_neD hu) (pv 1) (pe_lst pa_nil) (nomark _)) (pv 1) (pe_lst (pa_cons pe_str pa_nil))) (nomark _)))))
      (pss_one
      (ps_ret pe_bl))
      pss_nil)
    (pss_cons
    (ps_par (i := 8) (j := 9) (by rfl) nd rfl rfl (by decide) rfl rfl (pa_cons (pe_makeK RM RF (hr.mono (by decide)) (by rfl) hR RB pass0 (pa_cons (pv 5) pa_nil) (pk_cons (pv 3) pk_nil)) (pa_cons (pe_op op_add_str (pe_ifExp (pt_val (pv 3)) pe_str pe_str) (pe_call D_Lcutter_text.ok (hr.mono (by decide)) (by rfl) D_Lcutter_text.g D_Lcutter_text.kp D_Lcutter_text.b .nil pass0 (pa_cons (pv 1) pa_nil))) pa_nil)) (by rfl))
    (pss_cons
    (ps_set (i := 10) nd rfl (Or.inl rfl) (pe_call D_read_rule.ok (hr.mono (by decide)) (by rfl) D_read_rule.g D_read_rule.kp D_read_rule.b .nil pass0 (pa_cons (pv 9) pa_nil)))
    (pss_cons
    (ps_if (PW.pt (pw_or (pt_cmpR op_ne (pe_call D_rule_text.ok (hr.mono (by decide)) (by rfl) D_rule_text.g D_rule_text.kp D_rule_text.b .nil pass0 (pa_cons (pv 8) pa_nil)) (pv 9) (nomark _)) (pw_or (pt_cmpR (op_neO sp_req neR F_req (hr.mono (by decide)) pass0) (pv 10) (pv 8) (nomark _)) (pw_or (pt_cmpR op_ne (pe_prop (pv 10) rk.cls pr_sees_lost M_sees_lost.ok (hr.mono (by decide)) M_sees_lost.b .nil pass0 rfl) (pv 3) (nomark _)) (pw_or1 (pt_cmpR (op_neD hu) (pe_prop (pe_prop (pv 10) rk.cls pr_cutter M_cutter.ok (hr.mono (by decide)) M_cutter.b .nil pass0 rfl) c.cls pr_parts M_parts.ok (hr.mono (by decide)) M_parts.b .nil pass0 rfl) (pe_prop (pv 7) c.cls pr_parts M_parts.ok (hr.mono (by decide)) M_parts.b .nil pass0 rfl) (nomark _)))))))
      (pss_one
      (ps_ret pe_bl))
      pss_nil)
    (pss_cons
    (ps_par (i := 11) (j := 9) (by rfl) nd rfl rfl (by decide) rfl rfl (pa_cons (pe_tup (pa_cons (pv 5) (pa_cons (pv 4) (pa_cons (pv 6) pa_nil)))) (pa_cons (pe_call D_Lturn_text.ok (hr.mono (by decide)) (by rfl) D_Lturn_text.g D_Lturn_text.kp D_Lturn_text.b .nil pass0 (pa_cons (pe_tup (pa_cons (pv 1) (pa_cons (pv 4) (pa_cons (pv 2) pa_nil)))) pa_nil)) pa_nil)) (by rfl))
    (pss_cons
    (ps_set (i := 10) nd rfl (Or.inl rfl) (pe_call D_read_turn.ok (hr.mono (by decide)) (by rfl) D_read_turn.g D_read_turn.kp D_read_turn.b .nil pass0 (pa_cons (pv 9) pa_nil)))
    (pss_cons
    (ps_if (PW.pt (pw_or (pt_cmpR op_ne (pe_call D_turn_text.ok (hr.mono (by decide)) (by rfl) D_turn_text.g D_turn_text.kp D_turn_text.b .nil pass0 (pa_cons (pv 11) pa_nil)) (pv 9) (nomark _)) (pw_or (pt_not (pt_val (pe_callB call_isi (by rfl) Z.z_isinstance (by decide +kernel) (pa_cons (pv 10) (pa_cons (pe_bltn (v := .ty "tuple") (by rfl) Z.z_tuple (by decide +kernel) rfl) pa_nil))))) (pw_or (pt_cmpR (op_neT (mon_item C) (eqG_item OkEq sp_eq.at_ sp_eq.fn bEq pass0) (hr.mono (by decide))) (pv 10) (pv 11) (nomark _)) (pw_or1 (pt_cmpR op_ne (pe_callB call_reprB (by rfl) Z.z_repr (by decide +kernel) (pa_cons (pe_ix ix_tup (pv 10) pe_int (fun _ _ => rfl)) pa_nil)) (pe_callB call_reprB (by rfl) Z.z_repr (by decide +kernel) (pa_cons (pv 4) pa_nil)) (nomark _)))))))
      (pss_one
      (ps_ret pe_bl))
      pss_nil)
    (pss_cons
    (ps_if (pt_cmpR (op_neD hu) (pe_lc (own := [("_law_one", 12)]) (g := gName 12) (tt := tYes) rfl nd (pi_tup (pe_tup (pa_cons (pe_ix ix_tup (pv 10) pe_int (fun _ _ => rfl)) (pa_cons (pe_ix ix_tup (pv 10) pe_int (fun _ _ => rfl)) pa_nil)))) (blkOk_by (N := N_right) (sc := defScope s_right) (by decide +kernel)) (fun _ _ _ _ _ => (pg_name (i := 12) nd rfl (Or.inl rfl))) (fun _ _ _ _ _ => pts_nil) (fun _ _ _ _ _ => (pe_callTy (listK (K := K) rfl) (by rfl) Z.z_list (by decide +kernel) (pa_cons (pe_prop (pv 12) c.cls pr_parts M_parts.ok (hr.mono (by decide)) M_parts.b .nil pass0 rfl) pa_nil)))) (pe_lc (own := [("_law_some", 13)]) (g := gName 13) (tt := tYes) rfl nd (pi_tup (pe_tup (pa_cons (pv 1) (pa_cons (pv 2) pa_nil)))) (blkOk_by (N := N_right) (sc := defScope s_right) (by decide +kernel)) (fun _ _ _ _ _ => (pg_name (i := 13) nd rfl (Or.inl rfl))) (fun _ _ _ _ _ => pts_nil) (fun _ _ _ _ _ => (pe_ifExp (pt_cmpR (neDK (K := K) rfl hu) (pv 13) (pe_lst pa_nil) (nomark _)) (pv 13) (pe_lst (pa_cons pe_str pa_nil))))) (nomark _))
      (pss_one
      (ps_ret pe_bl))
      pss_nil)
    (pss_cons
    (ps_set (i := 14) nd rfl (Or.inl rfl) (pe_makeK OM OF (hr.mono (by decide)) (by rfl) hO OB pass0 (pa_cons (pe_tup (pa_cons pe_str pa_nil)) (pa_cons pe_dnewK pa_nil)) (pk_cons (pe_disp (pps_cons pe_str (pv 6) pps_nil) (by rfl) (by rfl) (fun z => by cases z) (by decide)) pk_nil)))
    (pss_cons
    (ps_set (i := 15) nd rfl (Or.inl rfl) (pe_meth (pv 8) rk.cls me_through M_through.ok (hr.mono (by decide)) M_through.b .nil pass0 (pa_cons (pv 14) (pa_cons pe_str pa_nil))))
    (pss_cons
    (ps_set (i := 9) nd rfl (Or.inl rfl) (pe_call D_Lcutter_text.ok (hr.mono (by decide)) (by rfl) D_Lcutter_text.g D_Lcutter_text.kp D_Lcutter_text.b .nil pass0 (pa_cons (pe_op op_cat (pv 2) (pv 1)) pa_nil)))
    (pss_cons
    (ps_set (i := 10) nd rfl (Or.inl rfl) (pe_call D_read_cutter.ok (hr.mono (by decide)) (by rfl) D_read_cutter.g D_read_cutter.kp D_read_cutter.b .nil pass0 (pa_cons (pv 9) pa_nil)))
    (pss_one
    (ps_ret (pe_and (pe_cmpR op_eq (pe_call D_cutter_text.ok (hr.mono (by decide)) (by rfl) D_cutter_text.g D_cutter_text.kp D_cutter_text.b .nil pass0 (pa_cons (pv 15) pa_nil)) (pv 9) (nomark _)) (pe_and (pe_cmpR (op_eqO sp_eq F_eq (hr.mono (by decide)) pass0) (pv 10) (pv 15) (nomark _)) (pe_one (pe_cmpR (op_eqD hu) (pe_callTy call_list_of (by rfl) Z.z_list (by decide +kernel) (pa_cons (pe_prop (pv 10) c.cls pr_parts M_parts.ok (hr.mono (by decide)) M_parts.b .nil pass0 rfl) pa_nil)) (pe_split (pv 9) pe_str) (nomark _)))))))))))))))))))))))), ?_⟩
    refine ⟨_, rfl, d, rfl, hD, fun H1 a1 ps c1 D1 n1 e1 ok1 l1 => ⟨_, rfl, d, rfl, D1, fun H2 a2 qs c2 D2 n2 e2 ok2 l2 => ⟨_, _, rfl, ?_⟩⟩⟩
    have ha1 := c2 _ _ (dice_ne hD n1).symm e1
    have ne1 := (dice_ne hD n1).symm
    have ne2 := (dice_ne D1 n2).symm
    refine ⟨_, rfl, d, 2, rfl, D2, by decide, by decide, fun H3 r c3 D3 r0 r1 => ⟨rfl, _, rfl, d, 2, rfl, D3, by decide, by decide, fun H4 r' c4 D4 _ _ => ⟨rfl, _, _, rfl, ?_⟩⟩⟩
    generalize decide (V.int r = V.int 0) = sees
    generalize decide (V.int r' = V.int 0) = adds
    have c04 := ((c1.trans c2).trans c3).trans c4
    replace ha1 := c4 _ _ ne1 (c3 _ _ ne1 ha1)
    have ha2 := c4 _ _ ne2 (c3 _ _ ne2 e2)
    have fin : ∀ H', Same H4 H' → Q (.bl true) H' := fun H' s => q H' (c04.trans (.of s)) (D4.keep s)
    clear q c1 D1 n1 e1 c2 D2 n2 e2 c3 D3 c4 D4 c04
    have l1' : ps.length ≤ 8 := Nat.le_trans l1 (by decide)
    have l2' : qs.length ≤ 8 := Nat.le_trans l2 (by decide)
    -- cutters
    refine ⟨rfl, _, rfl, a1, _, rfl, .inl ⟨.of ha1, fun t nt => ⟨t, ps, rfl, upd_same, ok1, l1, fun H5 x s5 nx kx => ⟨rfl, _, rfl, a2, _, rfl, .inl ⟨.of (s5 _ _ (same_new nt _ _ ha2)), fun t2 nt2 => ⟨t2, qs, rfl, upd_same, ok2, l2, fun H6 y s6 ny ky => ⟨_, _, rfl, ?_⟩⟩⟩⟩⟩⟩⟩
    have s46 := (((same_new (o := .tup (pV ps)) nt).trans s5).trans (same_new (o := .tup (pV qs)) nt2)).trans s6
    replace kx := (kx.same (same_new (o := .tup (pV qs)) nt2)).same s6
    replace ha1 := s46 _ _ ha1
    replace ha2 := s46 _ _ ha2
    replace fin : ∀ H', Same H6 H' → Q (.bl true) H' := fun H' s => fin H' (s46.trans s)
    clear s46 s5 s6 nt nt2
    -- cutter_text, str
    refine ⟨_, rfl, x, ps, rfl, kx, fun H7 s7 => ⟨_, rfl, a1, ps, rfl, .of (s7 _ _ ha1), ok1, l1', fun H8 s8 => ⟨rfl, _, rfl, ifF (by rw [decide_eq_true rfl]; rfl) ?_⟩⟩⟩
    obtain ⟨dx, _, _, _, hx, _⟩ := ((kx.same s7).same s8).ex
    refine ⟨_, rfl, x, dx, _, rfl, hx, x, ps, rfl, (kx.same s7).same s8, fun H9 s9 => ⟨_, rfl, _, rfl, a1, ps, rfl, .of (s9 _ _ (s8 _ _ (s7 _ _ ha1))), ok1, l1', fun Ha sa => ⟨rfl, _, rfl, ifF (by rw [decide_eq_true rfl]; rfl) ?_⟩⟩⟩
    dsimp only [tNext]
    have s6a := ((s7.trans s8).trans s9).trans sa
    replace ha1 := s6a _ _ ha1
    replace ha2 := s6a _ _ ha2
    replace kx := kx.same s6a
    replace ky := ky.same s6a
    replace fin : ∀ H', Same Ha H' → Q (.bl true) H' := fun H' s => fin H' (s6a.trans s)
    clear s6a s7 s8 s9 sa hx
    -- again
    refine ⟨_, rfl, a1, ps, rfl, .of ha1, ok1, l1', fun Hb sb => ⟨ps, rfl, ok1, l1', fun Hc u sc ku => ?_⟩⟩
    have s6a := sb.trans sc
    replace ha1 := s6a _ _ ha1
    replace ha2 := s6a _ _ ha2
    replace kx := kx.same s6a
    replace ky := ky.same s6a
    replace fin : ∀ H', Same Hc H' → Q (.bl true) H' := fun H' s => fin H' (s6a.trans s)
    clear s6a sb sc
    have rok1 := rd_ok ok1
    have rl1 := rd_len l1' (by decide)
    obtain ⟨dx, px, _, _, hx, hpx, _⟩ := kx.ex
    obtain ⟨du, pu, _, _, hu0, hpu, _⟩ := ku.ex
    dsimp only [gName]
    refine ifNo (fun H' => Same Hc H') (fun Q' q' => ?_) (fun Hg sg => ?_)
    · refine ⟨_, rfl, _, rfl, u, x, du, dx, _, _, rfl, rfl, hu0, hx, u, x, rd ps, ps, rfl, ku, kx, alike (rd ps) ps, rfl, ?_⟩
      rw [alike_rd]
      refine ⟨false, rfl, ifF rfl ?_⟩
      -- list(again.parts) != ..
      refine ⟨_, rfl, u, du, _, rfl, hu0, u, rd ps, rfl, ku, fun pp hpp => ⟨pp, _, rfl, .inr (.of hpp), fun l nl => ?_⟩⟩
      have sl := same_new (o := .lst (pV (rd ps))) nl
      have hl : (upd Hc l (.lst (pV (rd ps)))) l = some (.lst (pV (rd ps))) := upd_same
      generalize upd Hc l (.lst (pV (rd ps))) = Hd at sl hl ⊢
      refine ⟨_, rfl, by show 0 ≤ sizeLine; decide, fun l2 nl2 => ?_⟩
      have sl2 := same_new (o := .lst []) nl2
      refine ⟨.list (dP ps), .list [], .lst (.of (sl2 _ _ (sl _ _ ha1))) (dpAll_pV _), .lst (.of upd_same) .nil, shp_dP ok1, by decide +kernel, _, rfl, ?_⟩
      rw [eqv_empty]
      have sde := sl.trans sl2
      have hl' := sl2 _ _ hl
      generalize upd Hd l2 (.lst []) = He at sde hl' ⊢
      have jn : ∀ (b : Addr) (Hf : Hp), Same He Hf → Hf b = some (.lst (pV (rd ps))) → rNeD K (.ref l) (.ref b) Hf fun v H' => ∃ b, v = .bl b ∧ Q' b H' := fun b Hf sf hb =>
        ⟨.list (dP (rd ps)), .list (dP (rd ps)), .lst (.of (sf _ _ hl')) (dpAll_pV _), .lst (.of hb) (dpAll_pV _), shp_dP rok1, shp_dP rok1, false, by
          show V.bl (!PyData.eqvAll (dP (rd ps)) (dP (rd ps))) = .bl false
          rw [eqv_dP]
          rfl, q' Hf (sde.trans sf)⟩
      by_cases e : ps = []
      · subst e
        exact ifF rfl ⟨by show 1 ≤ sizeLine; decide, fun b nb => jn b _ (same_new nb) upd_same⟩
      · refine ifT ?_ ⟨_, rfl, jn a1 He (Same.refl He) ?_⟩
        · cases ps with
          | nil => exact absurd rfl e
          | cons _ _ => rfl
        · have e2 : rd ps = ps := by
            unfold rd
            rw [if_neg e]
          rw [e2]
          exact sde _ _ ha1
    refine reSt (σ' := [some (.ref d), some (.ref a1), some (.ref a2), some (.bl sees), some (.bl adds), some (.ref x), some (.ref y), some (.ref u), none, none, none, none, none, none, none, none]) rfl ?_
    have s6a := sg
    replace ha1 := s6a _ _ ha1
    replace ha2 := s6a _ _ ha2
    replace kx := kx.same s6a
    replace ky := ky.same s6a
    replace ku := ku.same s6a
    replace fin : ∀ H', Same Hg H' → Q (.bl true) H' := fun H' s => fin H' (s6a.trans s)
    clear s6a sg hx hu0 hpx hpu
    -- rule
    refine ⟨_, rfl, _, rfl, rfl, rfl, fun r dr nr ndr hne => ?_⟩
    have sr : Same Hg (upd (upd Hg dr (.own r)) r (.ins R dr [])) := fun z o e => by rw [upd_ne (ne_of_none e nr), upd_ne (ne_of_none e ndr)]; exact e
    refine ⟨r, dr, x, ps, sees, rfl, upd_same, kx.same sr, fun Hh ch kr => ⟨rfl, ?_⟩⟩
    have sh : Same Hg Hh := fun z o e => ch z o (ne_of_none e nr) (sr z o e)
    refine tOp_str (fun R' k => ⟨_, rfl, sees, rfl, k⟩) ?_
    have lw : (if sees then (Str.ofString "sees ") else (Str.ofString "skips ")).length ≤ 6 := by cases sees <;> decide +kernel
    have n1 := cutText_len8 ok1 l1'
    refine ⟨_, rfl, a1, ps, rfl, .of (sh _ _ ha1), ok1, l1', fun Hi si => ⟨_, _, rfl, rfl, sz1000 (by omega), ?_⟩⟩
    rw [rule_law]
    refine ⟨_, _, rfl, ?_⟩
    have s6a := sh.trans si
    replace ha1 := s6a _ _ ha1
    replace ha2 := s6a _ _ ha2
    replace kx := kx.same s6a
    replace ky := ky.same s6a
    replace ku := ku.same s6a
    replace kr := kr.same si
    replace fin : ∀ H', Same Hi H' → Q (.bl true) H' := fun H' s => fin H' (s6a.trans s)
    clear s6a sr sh si ch nr ndr hne lw
    -- told
    refine ⟨_, rfl, ps, sees, rfl, ok1, l1', fun Hj r2 x2 sj kr2 kx2 => ?_⟩
    replace ha1 := sj _ _ ha1
    replace ha2 := sj _ _ ha2
    replace kx := kx.same sj
    replace ky := ky.same sj
    replace ku := ku.same sj
    replace kr := kr.same sj
    replace fin : ∀ H', Same Hj H' → Q (.bl true) H' := fun H' s => fin H' (sj.trans s)
    clear sj
    refine ⟨_, rfl, r, x, ps, sees, rfl, kr, kx, fun Hk sk => ⟨_, rfl, rfl, _, rfl, ifF (by rw [decide_eq_true rfl]; rfl) ?_⟩⟩
    have kr' := kr.same sk
    have kr2' := kr2.same sk
    obtain ⟨dr1, hr1⟩ := kr.same sk
    obtain ⟨dr2, hr2⟩ := kr2.same sk
    refine ⟨_, rfl, _, rfl, r2, r, dr2, dr1, _, _, rfl, rfl, hr2, hr1, r2, r, x2, x, rd ps, ps, sees, rfl, kr2', kr', kx2.same sk, kx.same sk, alike_rd ps, true, rfl, false, rfl, ifF rfl ?_⟩
    refine ⟨_, rfl, r2, dr2, _, rfl, hr2, r2, x2, sees, rfl, kr2', _, rfl, rfl, _, rfl, ifF (by rw [decide_eq_true rfl]; rfl) ?_⟩
    obtain ⟨dx2, _, _, _, hx2, _⟩ := (kx2.same sk).ex
    obtain ⟨du, _, _, _, hu0, _⟩ := (ku.same sk).ex
    refine ⟨_, rfl, r2, dr2, _, rfl, hr2, r2, x2, sees, rfl, kr2', x2, dx2, _, rfl, hx2, x2, rd ps, rfl, kx2.same sk, fun p2 hp2 => ⟨_, rfl, u, du, _, rfl, hu0, u, rd ps, rfl, ku.same sk, fun p3 hp3 => ?_⟩⟩
    refine ⟨.tuple (dP (rd ps)), .tuple (dP (rd ps)), .tup (.of hp2) (dpAll_pV _), .tup (.of hp3) (dpAll_pV _), shp_dPt rok1, shp_dPt rok1, false, by
      show V.bl (!PyData.eqvAll (dP (rd ps)) (dP (rd ps))) = .bl false
      rw [eqv_dP]
      rfl, ifF rfl ?_⟩
    dsimp only [tNext]
    refine reSt (σ' := [some (.ref d), some (.ref a1), some (.ref a2), some (.bl sees), some (.bl adds), some (.ref x), some (.ref y), some (.ref u), some (.ref r), some (.str (ruleText ps sees)), some (.ref r2), none, none, none, none, none]) rfl ?_
    replace ha1 := sk _ _ ha1
    replace ha2 := sk _ _ ha2
    replace kx := kx.same sk
    replace ky := ky.same sk
    replace fin : ∀ H', Same Hk H' → Q (.bl true) H' := fun H' s => fin H' (sk.trans s)
    clear ku kx2 kr2 kr2' hr2 hr1 hx2 hu0 hp2 hp3 kr
    replace kr := kr'
    clear kr' sk
    -- turn
    refine ⟨_, rfl, _, rfl, _, rfl, by show 3 ≤ sizeLine; decide, fun t nt => ?_⟩
    have st := same_new (o := .tup [V.ref x, V.bl adds, V.ref y]) nt
    have ht : (upd Hk t (.tup [V.ref x, V.bl adds, V.ref y])) t = some (.tup [V.ref x, V.bl adds, V.ref y]) := upd_same
    generalize upd Hk t (.tup [V.ref x, V.bl adds, V.ref y]) = Hl at st ht ⊢
    refine ⟨_, rfl, _, rfl, _, rfl, by show 3 ≤ sizeLine; decide, fun t2 nt2 => ?_⟩
    have st2 := same_new (o := .tup [V.ref a1, V.bl adds, V.ref a2]) nt2
    refine ⟨t2, a1, a2, ps, qs, adds, rfl, upd_same, .of (st2 _ _ (st _ _ ha1)), .of (st2 _ _ (st _ _ ha2)), ok1, l1', ok2, l2', fun Hm sm => ⟨_, _, rfl, ?_⟩⟩
    have s6a := (st.trans st2).trans sm
    have ht' := sm _ _ (st2 _ _ ht)
    replace ha1 := s6a _ _ ha1
    replace ha2 := s6a _ _ ha2
    replace kx := kx.same s6a
    replace ky := ky.same s6a
    replace kr := kr.same s6a
    replace fin : ∀ H', Same Hm H' → Q (.bl true) H' := fun H' s => fin H' (s6a.trans s)
    clear s6a st st2 sm ht nt nt2
    refine ⟨_, rfl, ps, qs, adds, rfl, ok1, l1', ok2, l2', fun Hn t3 x3 y3 sn ht3 kx3 ky3 => ?_⟩
    replace ha1 := sn _ _ ha1
    replace ha2 := sn _ _ ha2
    replace kx := kx.same sn
    replace ky := ky.same sn
    replace kr := kr.same sn
    replace ht' := sn _ _ ht'
    replace fin : ∀ H', Same Hn H' → Q (.bl true) H' := fun H' s => fin H' (sn.trans s)
    clear sn
    refine ⟨_, rfl, t, x, y, ps, qs, adds, rfl, ht', kx, ky, fun Ho so => ⟨_, rfl, rfl, _, rfl, ifF (by rw [decide_eq_true rfl]; rfl) ?_⟩⟩
    refine ⟨_, rfl, .ref t3, .ty "tuple", _, _, true, rfl, .ty _, .base (.tup (so _ _ ht3)), kit_ty (by decide +kernel), true, rfl, ifF rfl ?_⟩
    obtain ⟨dx, _, _, _, hx, _⟩ := (kx.same so).ex
    obtain ⟨dy, _, _, _, hy, _⟩ := (ky.same so).ex
    obtain ⟨dx3, _, _, _, hx3, _⟩ := (kx3.same so).ex
    obtain ⟨dy3, _, _, _, hy3, _⟩ := (ky3.same so).ex
    refine ⟨_, rfl, _, rfl, ⟨t3, t, _, _, rfl, rfl, .of (so _ _ ht3), .of (so _ _ ht'), .cons (.inr ⟨x3, x, dx3, dx, _, _, rfl, rfl, hx3, hx, rd ps, ps, kx3.same so, kx.same so, alike_rd ps⟩) (.cons (.inl ⟨rfl, rfl, by cases adds <;> decide⟩) (.cons (.inr ⟨y3, y, dy3, dy, _, _, rfl, rfl, hy3, hy, rd qs, qs, ky3.same so, ky.same so, alike_rd qs⟩) .nil))⟩, fun Hy ep => ?_⟩
    have sp_ : Same Ho Hy := fun b o e => ep b o e
    refine ⟨false, rfl, ifF rfl ?_⟩
    refine ⟨_, rfl, t3, _, (1 : Nat), .bl adds, rfl, rfl, .of (sp_ _ _ (so _ _ ht3)), rfl, adds, rfl, _, rfl, adds, rfl, rfl, _, rfl, ifF (by rw [decide_eq_true rfl]; rfl) ?_⟩
    dsimp only [tNext]
    refine reSt (σ' := [some (.ref d), some (.ref a1), some (.ref a2), some (.bl sees), some (.bl adds), some (.ref x), some (.ref y), some (.ref u), some (.ref r), some (.str (turnText ps adds qs)), some (.ref t3), some (.ref t), none, none, none, none]) rfl ?_
    have s6a := so.trans sp_
    replace ha1 := s6a _ _ ha1
    replace ha2 := s6a _ _ ha2
    replace kx := kx.same s6a
    replace ky := ky.same s6a
    replace kr := kr.same s6a
    replace ht3 := s6a _ _ ht3
    replace kx3 := kx3.same s6a
    replace ky3 := ky3.same s6a
    replace fin : ∀ H', Same Hy H' → Q (.bl true) H' := fun H' s => fin H' (s6a.trans s)
    clear s6a so sp_ ep hx hy hx3 hy3 ht'
    -- the parts of both
    have rok2 := rd_ok ok2
    refine ⟨_, rfl, t3, _, (0 : Nat), .ref x3, rfl, rfl, .of ht3, rfl, _, rfl, t3, _, (2 : Nat), .ref y3, rfl, rfl, .of ht3, rfl, by show 2 ≤ sizeLine; decide, fun p np => ⟨p, rfl, ⟨_, .of upd_same⟩, fun D1 nD1 => ?_⟩⟩
    have sq := same_new (o := .tup [V.ref x3, V.ref y3]) np
    have hp : (upd Hy p (.tup [V.ref x3, V.ref y3])) p = some (.tup [V.ref x3, V.ref y3]) := upd_same
    generalize upd Hy p (.tup [V.ref x3, V.ref y3]) = Hq at sq hp nD1 ⊢
    refine lc_two (pV (rd ps)) (pV (rd qs)) hp nD1 (fun H' Q' N s0 hD0 k => ?_) (fun H' Q' N s0 hD0 k => ?_) (fun Hr m1 m2 sr hD1 hm1 hm2 => ?_)
    · obtain ⟨dz, _, _, _, hz, _⟩ := ((kx3.same sq).same s0).ex
      obtain ⟨o0, hD0⟩ := hD0
      refine ⟨rfl, _, rfl, x3, dz, _, rfl, hz, x3, rd ps, rfl, (kx3.same sq).same s0, fun pp hpp => ⟨pp, _, rfl, .inr (.of hpp), fun l nl => ?_⟩⟩
      exact k l _ (same_new nl) (fun e => by rw [e, hD0] at nl; cases nl) upd_same
    · obtain ⟨dz, _, _, _, hz, _⟩ := ((ky3.same sq).same s0).ex
      obtain ⟨o0, hD0⟩ := hD0
      refine ⟨rfl, _, rfl, y3, dz, _, rfl, hz, y3, rd qs, rfl, (ky3.same sq).same s0, fun pp hpp => ⟨pp, _, rfl, .inr (.of hpp), fun l nl => ?_⟩⟩
      exact k l _ (same_new nl) (fun e => by rw [e, hD0] at nl; cases nl) upd_same
    have s6a := sq.trans sr
    replace ha1 := s6a _ _ ha1
    replace ha2 := s6a _ _ ha2
    replace kx := kx.same s6a
    replace ky := ky.same s6a
    replace kr := kr.same s6a
    replace fin : ∀ H', Same Hr H' → Q (.bl true) H' := fun H' s => fin H' (s6a.trans s)
    clear s6a sq sr hp ht3 kx3 ky3 np nD1
    refine ⟨_, rfl, _, rfl, by show 2 ≤ sizeLine; decide, fun p2 np2 => ⟨p2, rfl, ⟨_, .of upd_same⟩, fun D2 nD2 => ?_⟩⟩
    have sq := same_new (o := .tup [V.ref a1, V.ref a2]) np2
    have hp : (upd Hr p2 (.tup [V.ref a1, V.ref a2])) p2 = some (.tup [V.ref a1, V.ref a2]) := upd_same
    generalize upd Hr p2 (.tup [V.ref a1, V.ref a2]) = Hs at sq hp nD2 ⊢
    refine lc_two (pV (rd ps)) (pV (rd qs)) hp nD2 (fun H' Q' N s0 hD0 k => ?_) (fun H' Q' N s0 hD0 k => ?_) (fun Ht r1 r2 st hD2 hr1 hr2 => ?_)
    · obtain ⟨o0, hD0⟩ := hD0
      refine ⟨rfl, _, rfl, by show 0 ≤ sizeLine; decide, fun l nl => ?_⟩
      have sl := same_new (o := .lst []) nl
      refine ⟨.list (dP ps), .list [], .lst (.of (sl _ _ (s0 _ _ (sq _ _ ha1)))) (dpAll_pV _), .lst (.of upd_same) .nil, shp_dP ok1, by decide +kernel, _, rfl, ?_⟩
      rw [eqv_empty]
      by_cases e : ps = []
      · subst e
        refine ifF rfl ⟨by show 1 ≤ sizeLine; decide, fun b nb => k b _ (sl.trans (same_new nb)) (fun e => ?_) upd_same⟩
        rw [e, sl _ _ hD0] at nb
        cases nb
      · refine ifT ?_ ⟨_, rfl, k a1 _ sl (fun e => ?_) ?_⟩
        · cases ps with
          | nil => exact absurd rfl e
          | cons _ _ => rfl
        · rw [e] at ha1
          rw [sq _ _ ha1] at nD2
          cases nD2
        · have e2 : rd ps = ps := by
            unfold rd
            rw [if_neg e]
          rw [e2]
          exact sl _ _ (s0 _ _ (sq _ _ ha1))
    · obtain ⟨o0, hD0⟩ := hD0
      refine ⟨rfl, _, rfl, by show 0 ≤ sizeLine; decide, fun l nl => ?_⟩
      have sl := same_new (o := .lst []) nl
      refine ⟨.list (dP qs), .list [], .lst (.of (sl _ _ (s0 _ _ (sq _ _ ha2)))) (dpAll_pV _), .lst (.of upd_same) .nil, shp_dP ok2, by decide +kernel, _, rfl, ?_⟩
      rw [eqv_empty]
      by_cases e : qs = []
      · subst e
        refine ifF rfl ⟨by show 1 ≤ sizeLine; decide, fun b nb => k b _ (sl.trans (same_new nb)) (fun e => ?_) upd_same⟩
        rw [e, sl _ _ hD0] at nb
        cases nb
      · refine ifT ?_ ⟨_, rfl, k a2 _ sl (fun e => ?_) ?_⟩
        · cases qs with
          | nil => exact absurd rfl e
          | cons _ _ => rfl
        · rw [e] at ha2
          rw [sq _ _ ha2] at nD2
          cases nD2
        · have e2 : rd qs = qs := by
            unfold rd
            rw [if_neg e]
          rw [e2]
          exact sl _ _ (s0 _ _ (sq _ _ ha2))
    have s6a := sq.trans st
    refine ⟨.list [.list (dP (rd ps)), .list (dP (rd qs))], .list [.list (dP (rd ps)), .list (dP (rd qs))], .lst (.of (s6a _ _ hD1)) (.cons (.lst (.of (s6a _ _ hm1)) (dpAll_pV _)) (.cons (.lst (.of (s6a _ _ hm2)) (dpAll_pV _)) .nil)), .lst (.of hD2) (.cons (.lst (.of hr1) (dpAll_pV _)) (.cons (.lst (.of hr2) (dpAll_pV _)) .nil)), shp_two rok1 rok2, shp_two rok1 rok2, _, rfl, ?_⟩
    rw [eqv_two]
    refine ifF rfl ?_
    dsimp only [tNext]
    refine reSt (σ' := [some (.ref d), some (.ref a1), some (.ref a2), some (.bl sees), some (.bl adds), some (.ref x), some (.ref y), some (.ref u), some (.ref r), some (.str (turnText ps adds qs)), some (.ref t3), some (.ref t), none, none, none, none]) rfl ?_
    replace ha1 := s6a _ _ ha1
    replace ha2 := s6a _ _ ha2
    replace kx := kx.same s6a
    replace ky := ky.same s6a
    replace kr := kr.same s6a
    replace fin : ∀ H', Same Ht H' → Q (.bl true) H' := fun H' s => fin H' (s6a.trans s)
    clear s6a sq st hp nD2 np2 hD1 hm1 hm2 hD2 hr1 hr2
    -- a company
    refine ⟨by show 1 ≤ sizeLine; decide, fun p np a na d0 nd0 => ⟨_, rfl, upd_same, [(.inr "ann", .ref y)], rfl, by show 1 ≤ 15; decide, rfl, rfl, fun o dr no ndo hne => ?_⟩⟩
    have s1 := (same_new (o := .tup [V.str "ann"]) np)
    have s2 := (same_new (o := .dK []) na)
    have s3 := same_new2 (o := .dK []) (u := .dK (mergeK [] [((.inr "ann" : Key), V.ref y)])) nd0
    have hp := s3 _ _ (s2 _ _ (upd_same : (upd Ht p (.tup [V.str "ann"])) p = some (.tup [V.str "ann"])))
    have ha := s3 _ _ (upd_same : (upd (upd Ht p (.tup [V.str "ann"])) a (.dK [])) a = some (.dK []))
    have hd : (upd (upd (upd (upd Ht p (.tup [V.str "ann"])) a (.dK [])) d0 (.dK [])) d0 (.dK (mergeK [] [((.inr "ann" : Key), V.ref y)]))) d0 = some (.dK [(.inr "ann", .ref y)]) := upd_same
    have s4 := (s1.trans s2).trans s3
    generalize upd (upd (upd (upd Ht p (.tup [V.str "ann"])) a (.dK [])) d0 (.dK [])) d0 (.dK (mergeK [] [((.inr "ann" : Key), V.ref y)])) = Hu at s4 hp ha hd no ndo ⊢
    have so : Same Hu (upd (upd Hu dr (.own o)) o (.ins O dr [])) := fun z w e => by rw [upd_ne (ne_of_none e no), upd_ne (ne_of_none e ndo)]; exact e
    refine ⟨o, dr, p, a, d0, y, "ann", qs, rfl, upd_same, so _ _ hp, by decide +kernel, so _ _ ha, so _ _ hd, (ky.same s4).same so, fun Hv cv kco => ⟨rfl, ?_⟩⟩
    have sv : Same Hu Hv := fun z w e => cv z w (ne_of_none e no) (so z w e)
    have s6a := s4.trans sv
    replace ha1 := s6a _ _ ha1
    replace ha2 := s6a _ _ ha2
    replace kx := kx.same s6a
    replace ky := ky.same s6a
    replace kr := kr.same s6a
    replace fin : ∀ H', Same Hv H' → Q (.bl true) H' := fun H' s => fin H' (s6a.trans s)
    clear s6a sv cv so s4 hp ha hd s1 s2 s3 np na nd0 no ndo hne
    -- through
    have hok : ∀ p ∈ qs ++ ps, Ok p := fun p hp => (List.mem_append.mp hp).elim (ok2 p) (ok1 p)
    have hle : (qs ++ ps).length ≤ 8 := by rw [List.length_append]; omega
    have kr' := kr
    obtain ⟨dr1, hr1⟩ := kr'
    refine ⟨_, rfl, r, dr1, _, rfl, hr1, rfl, _, rfl, r, x, o, y, sees, "ann", ps, qs, rfl, kr, kx, kco, ky, hle, fun Hw w0 sw kw => ?_⟩
    replace ha1 := sw _ _ ha1
    replace ha2 := sw _ _ ha2
    replace fin : ∀ H', Same Hw H' → Q (.bl true) H' := fun H' s => fin H' (sw.trans s)
    clear sw kx ky kr kco hr1
    -- its text
    refine ⟨_, rfl, _, rfl, a2, a1, pV qs, pV ps, rfl, rfl, ha2, ha1, by rw [pV_len, pV_len]; exact sz1000 (by omega), fun p np => ?_⟩
    have epV : pV qs ++ pV ps = pV (qs ++ ps) := by
      unfold pV
      rw [List.map_append]
    rw [epV]
    refine ⟨p, qs ++ ps, rfl, .of upd_same, hok, hle, fun Hx sx => ?_⟩
    have s5 := (same_new (o := .lst (pV (qs ++ ps))) np).trans sx
    refine ⟨_, rfl, qs ++ ps, rfl, hok, hle, fun Hz v sz kv => ?_⟩
    replace kw := (kw.same s5).same sz
    replace fin : ∀ H', Same Hz H' → Q (.bl true) H' := fun H' s => fin H' ((s5.trans sz).trans s)
    clear s5 sx sz np ha1 ha2
    have rok := rd_ok hok
    have rle := rd_len hle (by decide)
    -- the end
    refine ⟨_, rfl, w0, qs ++ ps, rfl, kw, fun H9 s9 => ⟨_, rfl, rfl, true, by rw [decide_eq_true rfl], ifT rfl ?_⟩⟩
    obtain ⟨dv, _, _, _, hv, _⟩ := (kv.same s9).ex
    obtain ⟨dw, _, _, _, hw, _⟩ := (kw.same s9).ex
    refine ⟨_, rfl, _, rfl, v, w0, dv, dw, _, _, rfl, rfl, hv, hw, v, w0, rd (qs ++ ps), qs ++ ps, rfl, kv.same s9, kw.same s9, alike (rd (qs ++ ps)) (qs ++ ps), rfl, ?_⟩
    rw [alike_rd]
    refine ⟨true, rfl, ifT rfl ?_⟩
    have n1 := cutText_len8 hok hle
    refine ⟨_, rfl, v, dv, _, rfl, hv, v, rd (qs ++ ps), rfl, kv.same s9, fun pp hpp => ⟨pp, _, rfl, .inr (.of hpp), fun l nl => ⟨_, rfl, ⟨_, rfl⟩, _, _, rfl, rfl, by decide +kernel, sz1000 (by omega), fun l2 nl2 => ?_⟩⟩⟩
    rw [split_cut hok]
    have e4 : ((rd (qs ++ ps)).map Part.text).map V.str = pV (rd (qs ++ ps)) := by
      unfold pV
      rw [List.map_map]
      rfl
    rw [e4]
    have sa := same_new (o := .lst (pV (rd (qs ++ ps)))) nl
    have sb := same_new (o := .lst (pV (rd (qs ++ ps)))) nl2
    refine ⟨.list (dP (rd (qs ++ ps))), .list (dP (rd (qs ++ ps))), .lst (.of (sb _ _ upd_same)) (dpAll_pV _), .lst (.of upd_same) (dpAll_pV _), shp_dP rok, shp_dP rok, ?_⟩
    show Q (.bl (PyData.eqvAll (dP (rd (qs ++ ps))) (dP (rd (qs ++ ps))))) _
    rw [eqv_dP]
    exact fin _ ((s9.trans sa).trans sb)

end
end K67
set_option Elab.async false
set_option linter.all false
set_option maxRecDepth 100000
set_option maxHeartbeats 8000000
namespace K67
open PySem PySem.Spec PyProof.Rows L2 Ly Cut

abbrev s_law : Stmt := topS 98
abbrev N_law : List Str := ["_law_script", "_law_spot", "_law_dice_here", "_law_turn"]
abbrev P_law : List Str := ["_law_script"]
theorem sc_law : FnScope N_law P_law (defScope s_law) := ⟨rfl, rfl, rfl, by decide +kernel, rfl, by decide +kernel, by decide +kernel⟩

section
variable {P : Program} {w : World} {K : PySem.W.Frag} {mg : Str → Option Value} {base : Heap} {f C R O : Addr} {fd : FuncData}
def spLaw (K : PySem.W.Frag) : Sp := fun vs H Q _ => ∃ (a : Addr) (ns : List Int), vs = [.ref a] ∧ SqL K H a (ns.map V.int) ∧ ns.length ≤ 63 ∧ ∀ H', Q (.bl true) H'
theorem ok_law (Z : Zs mg) (D : Df K mg "law" s_law P_law f fd) {f1 : Addr} {d1 : FuncData} (D_Ldice : Cl P w K mg base "_law_dice" 1 f1 d1 P_dice (spDice K)) {f2 : Addr} {d2 : FuncData} (D_Lright : Cl P w K mg base "_law_right" 12 f2 d2 P_right spRight) : FnOk P w K mg base CX0 13 f fd P_law (spLaw K) := by
  refine D.F.ok sc_law (fun vs H Q E h => ?_) (fun cdv A outer s H vs Q E hr h => ?_)
  · obtain ⟨a, ns, rfl, _⟩ := h
    rfl
  · obtain ⟨a, ns, rfl, hS, hl, q⟩ := h
    have nd := sc_law.nd
    refine ⟨_,
    (pss_cons
    (ps_for PassesOwn.never rfl (pi_range1 (by rfl) Z.z_range (pa_cons (pe_callB (call_max2 rfl) (by rfl) Z.z_max (by decide +kernel) (pa_cons pe_int (pa_cons (pe_callB (call_min2 rfl) (by rfl) Z.z_min (by decide +kernel) (pa_cons pe_int (pa_cons (pe_callB call_lenL (by rfl) Z.z_len (by decide +kernel) (pa_cons (pv 0) pa_nil)) pa_nil))) pa_nil))) pa_nil)) (pg_name (i := 1) nd rfl (Or.inl rfl))
      (pss_cons
      (ps_set (i := 2) nd rfl (Or.inl rfl) (pe_call D_Ldice.ok (hr.mono (by decide)) (by rfl) D_Ldice.g D_Ldice.kp D_Ldice.b .nil pass0 (pa_cons (pv 0) (pa_cons (pv 1) pa_nil))))
      (pss_one
      (ps_for PassesOwn.never rfl (pi_range1 (by rfl) Z.z_range (pa_cons pe_int pa_nil)) (pg_name (i := 3) nd rfl (Or.inl rfl))
        (pss_one
        (ps_if (pt_not (pt_val (pe_call D_Lright.ok (hr.mono (by decide)) (by rfl) D_Lright.g D_Lright.kp D_Lright.b .nil pass0 (pa_cons (pv 2) pa_nil))))
          (pss_one
          (ps_ret pe_bl))
          pss_nil))))))
    (pss_one
    (ps_ret pe_bl))), ?_⟩
    refine ⟨_, rfl, a, _, rfl, hS, _, _, rfl, _, _, rfl, ?_⟩
    rw [List.length_map]
    generalize hn : (if (if (ns.length : Int) < 6 then (ns.length : Int) else 6) > 1 then (if (ns.length : Int) < 6 then (ns.length : Int) else 6) else 1) = n
    have n0 : 0 ≤ n ∧ n ≤ 6 := by
      rw [← hn]
      split <;> (try split) <;> omega
    refine ⟨n, rfl, by omega, by omega, ?_⟩
    refine for_range (lo := 0) (n := n.toNat) (fun i σ' H' => Same H H' ∧ ∃ x1 x2 x3, σ' = [some (.ref a), x1, x2, x3]) ⟨Same.refl H, none, none, none, rfl⟩ (fun i σ' H1 hi hP => ?_) (fun σ' H1 hP => ?_)
    · obtain ⟨s1, x1, x2, x3, rfl⟩ := hP
      refine ⟨_, rfl, _, rfl, a, ns, i, by simp, s1.seq hS, hl, by omega, fun H2 d s2 nd' D2 => ?_⟩
      have s02 := s1.trans s2
      have hdn := s1.free nd'
      refine ⟨6, rfl, by decide, by decide, ?_⟩
      refine for_range (lo := 0) (n := (6 : Int).toNat) (fun j σ' H' => Same H H' ∧ Dice H' d ∧ ∃ y1 y3, σ' = [some (.ref a), y1, some (.ref d), y3]) ⟨s02, D2, _, _, rfl⟩ (fun j σ' H3 hj hP => ?_) (fun σ' H3 hP => ?_)
      · obtain ⟨s3, D3, y1, y3, rfl⟩ := hP
        exact ⟨_, rfl, d, rfl, D3, fun H4 c4 D4 => ⟨true, rfl, ifF rfl ⟨fun b o e => c4 _ _ (ne_of_none e hdn) (s3 _ _ e), D4, _, _, rfl⟩⟩⟩
      · obtain ⟨s3, D3, y1, y3, rfl⟩ := hP
        exact ⟨s3, _, _, _, rfl⟩
    · exact q H1

end
end K67
set_option Elab.async false
set_option linter.all false
set_option maxRecDepth 100000
set_option maxHeartbeats 4000000
/-! own layer: a head whose facts are any tests of the written part -/
namespace Hm
open PySem PySem.Spec PyProof.Rows L2
abbrev Test := PySem.W.Frag → Bool
/-- told by recursions of their own, so that the kernel compares them cell by cell -/
def defsAt (K : PySem.W.Frag) : List He5.DefA → List He5.FnW
  | [] => []
  | d :: r => He5.fnA K (d.at_ K) :: defsAt K r
def defsVal : List He5.DefA → List He5.FnW
  | [] => []
  | d :: r => d.val :: defsVal r
def okAll (K : PySem.W.Frag) : List He5.DefA → Bool
  | [] => true
  | d :: r => d.ok K && okAll K r
def testAll (K : PySem.W.Frag) : List Test → Bool
  | [] => true
  | c :: r => c K && testAll K r
def told (cs : List Test) (fn : List He5.DefA) (K : PySem.W.Frag) : He.AlD := (testAll K cs && okAll K fn, defsAt K fn)
def due (fn : List He5.DefA) : He.AlD := (true, defsVal fn)
theorem defsAt_get {K : PySem.W.Frag} : ∀ {fn : List He5.DefA} {i : Nat} {d : He5.DefA}, fn[i]? = some d → (defsAt K fn)[i]? = some (He5.fnA K (d.at_ K))
  | d :: r, 0, e, h => by cases h; rfl
  | d :: r, i + 1, e, h => defsAt_get (fn := r) (i := i) h
theorem defsVal_get : ∀ {fn : List He5.DefA} {i : Nat} {d : He5.DefA}, fn[i]? = some d → (defsVal fn)[i]? = some d.val
  | d :: r, 0, e, h => by cases h; rfl
  | d :: r, i + 1, e, h => defsVal_get (fn := r) (i := i) h
theorem okAll_get {K : PySem.W.Frag} : ∀ {fn : List He5.DefA} {i : Nat} {d : He5.DefA}, okAll K fn = true → fn[i]? = some d → d.ok K = true
  | d :: r, 0, e, k, h => by cases h; exact (Bool.and_eq_true_iff.mp k).1
  | d :: r, i + 1, e, k, h => okAll_get (fn := r) (i := i) (Bool.and_eq_true_iff.mp k).2 h
theorem testAll_get {K : PySem.W.Frag} : ∀ {cs : List Test} {i : Nat} {f : Test}, testAll K cs = true → cs[i]? = some f → f K = true
  | c :: r, 0, f, k, h => by cases h; exact (Bool.and_eq_true_iff.mp k).1
  | c :: r, i + 1, f, k, h => testAll_get (cs := r) (i := i) (Bool.and_eq_true_iff.mp k).2 h
def Says (cs : List Test) (fn : List He5.DefA) (K : PySem.W.Frag) : Prop := told cs fn K = due fn
/-- a def's keyword defaults -/
def kwOf (o : Obj) : List Addr := match o.data with
  | .func fd => He.refV fd.kwdefaults
  | _ => []
/-- what an object names -/
def step (g : Addr → Option Obj) (a : Addr) : List Addr := match g a with
  | some o => He.refsO o ++ kwOf o
  | none => []
def steps (g : Addr → Option Obj) : List Addr → List Addr
  | [] => []
  | a :: r => step g a ++ steps g r
def rounds (g : Addr → Option Obj) : Nat → List Addr → List Addr
  | 0, _ => []
  | n + 1, as => as ++ rounds g n (steps g as)
def stands (K : PySem.W.Frag) : List Str → List Addr
  | [] => []
  | x :: r => He.ga K x :: stands K r
/-- the written part: the module's names, and what these few of them reach -/
def reach (n : Nat) (xs : List Str) (g : Addr → Option Obj) : List Addr := mainGlobals :: cStatics :: rounds g n (stands (He.frG g [mainGlobals]) xs)
def look (n : Nat) (xs : List Str) (cs : List Test) (fn : List He5.DefA) (g : Addr → Option Obj) : He.AlD := told cs fn (He.frG g (reach n xs g))
def hook (n : Nat) (xs : List Str) (cs : List Test) (fn : List He5.DefA) : PySem.W.Hook where
  α := He.AlD
  obs := fun s => look n xs cs fn s.heap.get?
  val := fun _ => due fn
  says := fun _ h => ∃ K : PySem.W.Frag, K.In h ∧ Says cs fn K
  of := fun _ _ e => ⟨_, He.frG_in, e⟩
  keeps := fun _ _ _ ⟨K, hK, c⟩ k => ⟨K, PySem.W.Frag.In.keeps hK k, c⟩
theorem look_eq {n : Nat} {xs : List Str} {cs : List Test} {fn : List He5.DefA} {g : Addr → Option Obj} {s : Shared} (h : ∀ a, g a = s.heap.get? a) : look n xs cs fn g = (hook n xs cs fn).obs s := by
  rw [(funext h : g = s.heap.get?)]
  rfl
section
variable {cs : List Test} {fn : List He5.DefA} {K : PySem.W.Frag}
theorem Says.test (c : Says cs fn K) (i : Nat) {f : Test} (h : cs[i]? = some f) : f K = true := by
  have z : (testAll K cs && okAll K fn) = true := congrArg Prod.fst c
  exact testAll_get (Bool.and_eq_true_iff.mp z).1 h
theorem Says.def_ (c : Says cs fn K) (i : Nat) {d : He5.DefA} (h : fn[i]? = some d) : ∃ fd, FunD K d.name d.qual d.params d.body d.scope (d.dvs K) (d.kws K) (d.at_ K) fd := by
  have z : (testAll K cs && okAll K fn) = true := congrArg Prod.fst c
  have e : defsAt K fn = defsVal fn := congrArg Prod.snd c
  have e2 : (defsAt K fn)[i]? = (defsVal fn)[i]? := by rw [e]
  rw [defsAt_get h, defsVal_get h] at e2
  exact He5.DefA.funD (Option.some.inj e2) (okAll_get (Bool.and_eq_true_iff.mp z).2 h)
end
end Hm

set_option Elab.async false
set_option linter.all false
set_option maxRecDepth 100000
set_option maxHeartbeats 4000000
namespace Ly
open PySem PySem.Spec PyProof.Rows L2
/-- the end over a head whose written part is found by its facts -/
theorem walk_ofH {l : PySem.W.OpenLaw} {n k : Nat} {q : Program} {loose : List Str} {XP : (Str → Option Value) → Heap → Prop} {YP : World → Heap → Prop} {d : DefRec}
    (hn : l.most = some n) (hn2 : n ≤ sizeLine) (hdf : d.params.defaults = []) (hr : Room k callerA)
    (F : ∀ (w : World) (mg : Str → Option Value) (fa : Addr) (h : Heap), YP w h → h.Ns mainGlobals mg → mg d.name = some (.ref fa) → ∃ (K : PySem.W.Frag) (sp : Sp), K.In h ∧
      (∀ (H : Hp) (a : Addr) (ns : List Int), ns.length ≤ n → Only H → SqL K H a (ns.map V.int) → sp [.ref a] H (fun v _ => v = .bl true) fun _ _ _ => False) ∧
        ∀ base : Heap, K.In base → base.Ns mainGlobals mg → FnG l.prog w K mg base CX0 k fa sp) : PySem.W.WalkO q loose XP YP l.row.toRowW d [] (fun f vs => PySem.call f vs) :=
  Att.attach_call hn hdf fun w _ _ mg _ fa _ _ _ _ a vs ns G Y ho hd hcd hmg hobj hints hlen hg => by
    obtain ⟨K, sp, KX, hsp, hF⟩ := F w mg fa _ Y G.T.g hmg
    exact lawG KX G.T.g G.T.b G.T.builtins G.T.nolimit hg hobj hints (Nat.le_trans hlen hn2) hr hF (fun H hO hS => hsp H a ns hlen hO hS) fun _ _ _ z => z
end Ly

set_option Elab.async false
set_option linter.all false
set_option maxRecDepth 100000
set_option maxHeartbeats 8000000
namespace K67
open PySem PySem.Spec PyProof.Rows L2 Ly Cut

theorem all_mk {l : PySem.W.OpenLaw} {w : World} {K : PySem.W.Frag} {h : Heap} {mg : Str → Option Value} {fa : Addr} (X : K.In h) (G : h.Ns mainGlobals mg) (hfa : mg "law" = some (.ref fa)) {f_is_part : Addr} {f_check_parts : Addr} {f_has_plus : Addr} {f_part_places : Addr} {f_kept_places : Addr} {f_table_of : Addr} {f_keep_all : Addr} {f_check_cutter : Addr} {f_is_name : Addr} {f_is_ascending : Addr} {f_is_people : Addr} {f_is_some_of : Addr} {f_is_turn : Addr} {f_is_turns : Addr} {f_is_copies : Addr} {f_in_order : Addr} {f_check_company : Addr} {f_check_person : Addr} {f_check_rule : Addr} {f_cutter_in : Addr} {f_rule_in : Addr} {f_turn_in : Addr} {f_cutter_text : Addr} {f_rule_text : Addr} {f_turn_text : Addr} {f_read_cutter : Addr} {f_read_rule : Addr} {f_read_turn : Addr} {f_lines_of : Addr} {f_first_line : Addr} {f_read_line : Addr} {f_dice : Addr} {f_roll : Addr} {f_one_of : Addr} {f_signs : Addr} {f_part : Addr} {f_ctext : Addr} {f_ttext : Addr} {f_long : Addr} {f_right : Addr} {f_law : Addr} {C : Addr} {f_init : Addr} {p_of : Addr} {f_of : Addr} {p_of_any : Addr} {f_of_any : Addr} {p_parts : Addr} {f_parts : Addr} {f_eqc : Addr} {f_strc : Addr} {R : Addr} {f_rinit : Addr} {p_rcutter : Addr} {f_rcutter : Addr} {p_rsees : Addr} {f_rsees : Addr} {f_req : Addr} {f_through : Addr} {O : Addr} {f_oinit : Addr} {p_opeople : Addr} {f_opeople : Addr} {f_ocopy : Addr} {f_oroad : Addr} {rest_parts : List Value} {rest_rcutter : List Value} {rest_rsees : List Value} {rest_opeople : List Value} {t_MAX_PARTS : Tok} {t_MAX_ROW : Tok} {t_KEEP_ALL : Tok} {t_DOTS : Tok} {t_MAX_FRONT : Tok} {t_MAX_BACK : Tok} {t_REACH : Tok} {t_MAX_NAME : Tok} {t_MAX_PEOPLE : Tok} {t_BETWEEN_PARTS : Tok} {t_BETWEEN_CUTTERS : Tok} {t_ADDS : Tok} {t_HIDES : Tok} {t_SEES : Tok} {t_SKIPS : Tok} {fd_is_part : FuncData} {fd_check_parts : FuncData} {fd_has_plus : FuncData} {fd_part_places : FuncData} {fd_kept_places : FuncData} {fd_table_of : FuncData} {fd_keep_all : FuncData} {fd_check_cutter : FuncData} {fd_is_name : FuncData} {fd_is_ascending : FuncData} {fd_is_people : FuncData} {fd_is_some_of : FuncData} {fd_is_turn : FuncData} {fd_is_turns : FuncData} {fd_is_copies : FuncData} {fd_in_order : FuncData} {fd_check_company : FuncData} {fd_check_person : FuncData} {fd_check_rule : FuncData} {fd_cutter_in : FuncData} {fd_rule_in : FuncData} {fd_turn_in : FuncData} {fd_cutter_text : FuncData} {fd_rule_text : FuncData} {fd_turn_text : FuncData} {fd_read_cutter : FuncData} {fd_read_rule : FuncData} {fd_read_turn : FuncData} {fd_lines_of : FuncData} {fd_first_line : FuncData} {fd_read_line : FuncData} {fd_dice : FuncData} {fd_roll : FuncData} {fd_one_of : FuncData} {fd_signs : FuncData} {fd_part : FuncData} {fd_ctext : FuncData} {fd_ttext : FuncData} {fd_long : FuncData} {fd_right : FuncData} {fd_law : FuncData} {fd_init : FuncData} {fd_of : FuncData} {fd_of_any : FuncData} {fd_parts : FuncData} {fd_eqc : FuncData} {fd_strc : FuncData} {fd_rinit : FuncData} {fd_rcutter : FuncData} {fd_rsees : FuncData} {fd_req : FuncData} {fd_through : FuncData} {fd_oinit : FuncData} {fd_opeople : FuncData} {fd_ocopy : FuncData} {fd_oroad : FuncData}
    (a_is_part : PySem.W.nsIn K mainGlobals "is_part" = some (some (.ref f_is_part)))
    (a_check_parts : PySem.W.nsIn K mainGlobals "check_parts" = some (some (.ref f_check_parts)))
    (a_has_plus : PySem.W.nsIn K mainGlobals "has_plus" = some (some (.ref f_has_plus)))
    (a_part_places : PySem.W.nsIn K mainGlobals "part_places" = some (some (.ref f_part_places)))
    (a_kept_places : PySem.W.nsIn K mainGlobals "kept_places" = some (some (.ref f_kept_places)))
    (a_table_of : PySem.W.nsIn K mainGlobals "table_of" = some (some (.ref f_table_of)))
    (a_keep_all : PySem.W.nsIn K mainGlobals "keep_all" = some (some (.ref f_keep_all)))
    (a_check_cutter : PySem.W.nsIn K mainGlobals "check_cutter" = some (some (.ref f_check_cutter)))
    (a_is_name : PySem.W.nsIn K mainGlobals "is_name" = some (some (.ref f_is_name)))
    (a_is_ascending : PySem.W.nsIn K mainGlobals "is_ascending" = some (some (.ref f_is_ascending)))
    (a_is_people : PySem.W.nsIn K mainGlobals "is_people" = some (some (.ref f_is_people)))
    (a_is_some_of : PySem.W.nsIn K mainGlobals "is_some_of" = some (some (.ref f_is_some_of)))
    (a_is_turn : PySem.W.nsIn K mainGlobals "is_turn" = some (some (.ref f_is_turn)))
    (a_is_turns : PySem.W.nsIn K mainGlobals "is_turns" = some (some (.ref f_is_turns)))
    (a_is_copies : PySem.W.nsIn K mainGlobals "is_copies" = some (some (.ref f_is_copies)))
    (a_in_order : PySem.W.nsIn K mainGlobals "in_order" = some (some (.ref f_in_order)))
    (a_check_company : PySem.W.nsIn K mainGlobals "check_company" = some (some (.ref f_check_company)))
    (a_check_person : PySem.W.nsIn K mainGlobals "check_person" = some (some (.ref f_check_person)))
    (a_check_rule : PySem.W.nsIn K mainGlobals "check_rule" = some (some (.ref f_check_rule)))
    (a_cutter_in : PySem.W.nsIn K mainGlobals "cutter_in" = some (some (.ref f_cutter_in)))
    (a_rule_in : PySem.W.nsIn K mainGlobals "rule_in" = some (some (.ref f_rule_in)))
    (a_turn_in : PySem.W.nsIn K mainGlobals "turn_in" = some (some (.ref f_turn_in)))
    (a_cutter_text : PySem.W.nsIn K mainGlobals "cutter_text" = some (some (.ref f_cutter_text)))
    (a_rule_text : PySem.W.nsIn K mainGlobals "rule_text" = some (some (.ref f_rule_text)))
    (a_turn_text : PySem.W.nsIn K mainGlobals "turn_text" = some (some (.ref f_turn_text)))
    (a_read_cutter : PySem.W.nsIn K mainGlobals "read_cutter" = some (some (.ref f_read_cutter)))
    (a_read_rule : PySem.W.nsIn K mainGlobals "read_rule" = some (some (.ref f_read_rule)))
    (a_read_turn : PySem.W.nsIn K mainGlobals "read_turn" = some (some (.ref f_read_turn)))
    (a_lines_of : PySem.W.nsIn K mainGlobals "lines_of" = some (some (.ref f_lines_of)))
    (a_first_line : PySem.W.nsIn K mainGlobals "first_line" = some (some (.ref f_first_line)))
    (a_read_line : PySem.W.nsIn K mainGlobals "read_line" = some (some (.ref f_read_line)))
    (a_dice : PySem.W.nsIn K mainGlobals "_law_dice" = some (some (.ref f_dice)))
    (a_roll : PySem.W.nsIn K mainGlobals "_law_roll" = some (some (.ref f_roll)))
    (a_one_of : PySem.W.nsIn K mainGlobals "_law_one_of" = some (some (.ref f_one_of)))
    (a_signs : PySem.W.nsIn K mainGlobals "_law_signs" = some (some (.ref f_signs)))
    (a_part : PySem.W.nsIn K mainGlobals "_law_part" = some (some (.ref f_part)))
    (a_ctext : PySem.W.nsIn K mainGlobals "_law_cutter_text" = some (some (.ref f_ctext)))
    (a_ttext : PySem.W.nsIn K mainGlobals "_law_turn_text" = some (some (.ref f_ttext)))
    (a_long : PySem.W.nsIn K mainGlobals "_law_long_parts" = some (some (.ref f_long)))
    (a_right : PySem.W.nsIn K mainGlobals "_law_right" = some (some (.ref f_right)))
    (a_law : PySem.W.nsIn K mainGlobals "law" = some (some (.ref f_law)))
    (aC : PySem.W.nsIn K mainGlobals "Cutter" = some (some (.ref C)))
    (C1 : PySem.W.makesIn K C = true)
    (C2 : PySem.W.keepIn K (.ref C) = true)
    (C3 : PySem.W.plainGet K C Str.empty = true)
    (C4 : PySem.W.hasDictIn K C = true)
    (C5 : PySem.W.plainOver K C = true)
    (C6 : PySem.W.findIn K (.ref C) "__setattr__" = some (some (.builtin "object.__setattr__")))
    (C_parts : PySem.W.findIn K (.ref C) "_parts" = some none)
    (C_table : PySem.W.findIn K (.ref C) "_table" = some none)
    (C_keeps_all : PySem.W.findIn K (.ref C) "_keeps_all" = some none)
    (C9 : PySem.W.findIn K (.ref C) "__class__" = some (some (.builtin "object.__class__")))
    (C10 : PySem.W.specialIn K (.builtin "object.__class__") "__get__" = some (some (.builtin "getset_descriptor.__get__")))
    (C11 : PySem.W.takesIn K (.builtin "object.__class__") = some true)
    (C12 : PySem.W.mroIn K C (.type "object") = some true)
    (C13 : PySem.W.findIn K (.ref C) "__ne__" = some (some (.builtin "object.__ne__")))
    (C16 : PySem.W.isClsIn K C = true)
    (C17 : PySem.W.typeIn K (.ref C) = some (.type "type"))
    (C14 : PySem.W.readsIn K C (.type "type") = true)
    (C15 : PySem.W.specialIn K (.ref C) "__getattribute__" = some (some (.builtin "type.__getattribute__")))
    (C18 : PySem.W.selfFirst K C = true)
    (t_init : PySem.W.findIn K (.ref C) "__init__" = some (some (.ref f_init)))
    (n_init : PySem.W.isFn K (.ref f_init) = true)
    (w_of : He5.wrapB K C "classmethod" "classmethod.__get__" "of" = true)
    (i_of : PySem.W.fnIn K f_of = true)
    (t_of : PySem.W.findCls K (.ref C) (.type "type") "of" = some (.get (.builtin "classmethod.__get__") (.ref p_of) .none (.ref C)))
    (r_of : ∃ rest, PySem.W.recIn K p_of "classmethod" = some (.ref f_of :: rest))
    (w_of_any : He5.wrapB K C "classmethod" "classmethod.__get__" "of_any" = true)
    (i_of_any : PySem.W.fnIn K f_of_any = true)
    (t_of_any : PySem.W.findCls K (.ref C) (.type "type") "of_any" = some (.get (.builtin "classmethod.__get__") (.ref p_of_any) .none (.ref C)))
    (r_of_any : ∃ rest, PySem.W.recIn K p_of_any "classmethod" = some (.ref f_of_any :: rest))
    (t_parts : PySem.W.findIn K (.ref C) "parts" = some (some (.ref p_parts)))
    (g_parts : PySem.W.specialIn K (.ref p_parts) "__get__" = some (some (.builtin "property.__get__")))
    (u_parts : PySem.W.takesIn K (.ref p_parts) = some true)
    (r_parts : PySem.W.recIn K p_parts "property" = some (.ref f_parts :: rest_parts))
    (t_eqc : PySem.W.findIn K (.ref C) "__eq__" = some (some (.ref f_eqc)))
    (n_eqc : PySem.W.isFn K (.ref f_eqc) = true)
    (t_strc : PySem.W.findIn K (.ref C) "__str__" = some (some (.ref f_strc)))
    (n_strc : PySem.W.isFn K (.ref f_strc) = true)
    (aR : PySem.W.nsIn K mainGlobals "Rule" = some (some (.ref R)))
    (R1 : PySem.W.makesIn K R = true)
    (R2 : PySem.W.keepIn K (.ref R) = true)
    (R3 : PySem.W.plainGet K R Str.empty = true)
    (R4 : PySem.W.hasDictIn K R = true)
    (R5 : PySem.W.plainOver K R = true)
    (R6 : PySem.W.findIn K (.ref R) "__setattr__" = some (some (.builtin "object.__setattr__")))
    (R_cutter : PySem.W.findIn K (.ref R) "_cutter" = some none)
    (R_sees_lost : PySem.W.findIn K (.ref R) "_sees_lost" = some none)
    (R9 : PySem.W.findIn K (.ref R) "__class__" = some (some (.builtin "object.__class__")))
    (R10 : PySem.W.specialIn K (.builtin "object.__class__") "__get__" = some (some (.builtin "getset_descriptor.__get__")))
    (R11 : PySem.W.takesIn K (.builtin "object.__class__") = some true)
    (R12 : PySem.W.mroIn K R (.type "object") = some true)
    (R13 : PySem.W.findIn K (.ref R) "__ne__" = some (some (.builtin "object.__ne__")))
    (R16 : PySem.W.isClsIn K R = true)
    (R17 : PySem.W.typeIn K (.ref R) = some (.type "type"))
    (R14 : PySem.W.readsIn K R (.type "type") = true)
    (R15 : PySem.W.specialIn K (.ref R) "__getattribute__" = some (some (.builtin "type.__getattribute__")))
    (R18 : PySem.W.selfFirst K R = true)
    (t_rinit : PySem.W.findIn K (.ref R) "__init__" = some (some (.ref f_rinit)))
    (n_rinit : PySem.W.isFn K (.ref f_rinit) = true)
    (t_rcutter : PySem.W.findIn K (.ref R) "cutter" = some (some (.ref p_rcutter)))
    (g_rcutter : PySem.W.specialIn K (.ref p_rcutter) "__get__" = some (some (.builtin "property.__get__")))
    (u_rcutter : PySem.W.takesIn K (.ref p_rcutter) = some true)
    (r_rcutter : PySem.W.recIn K p_rcutter "property" = some (.ref f_rcutter :: rest_rcutter))
    (t_rsees : PySem.W.findIn K (.ref R) "sees_lost" = some (some (.ref p_rsees)))
    (g_rsees : PySem.W.specialIn K (.ref p_rsees) "__get__" = some (some (.builtin "property.__get__")))
    (u_rsees : PySem.W.takesIn K (.ref p_rsees) = some true)
    (r_rsees : PySem.W.recIn K p_rsees "property" = some (.ref f_rsees :: rest_rsees))
    (t_req : PySem.W.findIn K (.ref R) "__eq__" = some (some (.ref f_req)))
    (n_req : PySem.W.isFn K (.ref f_req) = true)
    (t_through : PySem.W.findIn K (.ref R) "through" = some (some (.ref f_through)))
    (n_through : PySem.W.isFn K (.ref f_through) = true)
    (aO : PySem.W.nsIn K mainGlobals "Company" = some (some (.ref O)))
    (O1 : PySem.W.makesIn K O = true)
    (O2 : PySem.W.keepIn K (.ref O) = true)
    (O3 : PySem.W.plainGet K O Str.empty = true)
    (O4 : PySem.W.hasDictIn K O = true)
    (O5 : PySem.W.plainOver K O = true)
    (O6 : PySem.W.findIn K (.ref O) "__setattr__" = some (some (.builtin "object.__setattr__")))
    (O_people : PySem.W.findIn K (.ref O) "_people" = some none)
    (O_answers : PySem.W.findIn K (.ref O) "_answers" = some none)
    (O_takings : PySem.W.findIn K (.ref O) "_takings" = some none)
    (O_starts : PySem.W.findIn K (.ref O) "_starts" = some none)
    (O_copies : PySem.W.findIn K (.ref O) "_copies" = some none)
    (O9 : PySem.W.findIn K (.ref O) "__class__" = some (some (.builtin "object.__class__")))
    (O10 : PySem.W.specialIn K (.builtin "object.__class__") "__get__" = some (some (.builtin "getset_descriptor.__get__")))
    (O11 : PySem.W.takesIn K (.builtin "object.__class__") = some true)
    (O12 : PySem.W.mroIn K O (.type "object") = some true)
    (O13 : PySem.W.findIn K (.ref O) "__ne__" = some (some (.builtin "object.__ne__")))
    (O16 : PySem.W.isClsIn K O = true)
    (O17 : PySem.W.typeIn K (.ref O) = some (.type "type"))
    (O14 : PySem.W.readsIn K O (.type "type") = true)
    (O15 : PySem.W.specialIn K (.ref O) "__getattribute__" = some (some (.builtin "type.__getattribute__")))
    (O18 : PySem.W.selfFirst K O = true)
    (t_oinit : PySem.W.findIn K (.ref O) "__init__" = some (some (.ref f_oinit)))
    (n_oinit : PySem.W.isFn K (.ref f_oinit) = true)
    (t_opeople : PySem.W.findIn K (.ref O) "people" = some (some (.ref p_opeople)))
    (g_opeople : PySem.W.specialIn K (.ref p_opeople) "__get__" = some (some (.builtin "property.__get__")))
    (u_opeople : PySem.W.takesIn K (.ref p_opeople) = some true)
    (r_opeople : PySem.W.recIn K p_opeople "property" = some (.ref f_opeople :: rest_opeople))
    (t_ocopy : PySem.W.findIn K (.ref O) "copy" = some (some (.ref f_ocopy)))
    (n_ocopy : PySem.W.isFn K (.ref f_ocopy) = true)
    (t_oroad : PySem.W.findIn K (.ref O) "road_to_reader" = some (some (.ref f_oroad)))
    (n_oroad : PySem.W.isFn K (.ref f_oroad) = true)
    (kp_through : PySem.W.keepIn K (.ref f_through) = true)
    (kp_ocopy : PySem.W.keepIn K (.ref f_ocopy) = true)
    (kp_oroad : PySem.W.keepIn K (.ref f_oroad) = true)
    (z_len : PySem.W.nsIn K mainGlobals "len" = some none)
    (z_int : PySem.W.nsIn K mainGlobals "int" = some none)
    (z_abs : PySem.W.nsIn K mainGlobals "abs" = some none)
    (z_max : PySem.W.nsIn K mainGlobals "max" = some none)
    (z_min : PySem.W.nsIn K mainGlobals "min" = some none)
    (z_range : PySem.W.nsIn K mainGlobals "range" = some none)
    (z_all : PySem.W.nsIn K mainGlobals "all" = some none)
    (z_isinstance : PySem.W.nsIn K mainGlobals "isinstance" = some none)
    (z_str : PySem.W.nsIn K mainGlobals "str" = some none)
    (z_repr : PySem.W.nsIn K mainGlobals "repr" = some none)
    (z_bool : PySem.W.nsIn K mainGlobals "bool" = some none)
    (z_list : PySem.W.nsIn K mainGlobals "list" = some none)
    (z_tuple : PySem.W.nsIn K mainGlobals "tuple" = some none)
    (z_enumerate : PySem.W.nsIn K mainGlobals "enumerate" = some none)
    (z_zip : PySem.W.nsIn K mainGlobals "zip" = some none)
    (z_dict : PySem.W.nsIn K mainGlobals "dict" = some none)
    (z_sorted : PySem.W.nsIn K mainGlobals "sorted" = some none)
    (G_MAX_PARTS : PySem.W.nsIn K mainGlobals "MAX_PARTS" = some (some (.int 4 t_MAX_PARTS)))
    (G_MAX_ROW : PySem.W.nsIn K mainGlobals "MAX_ROW" = some (some (.int 1000 t_MAX_ROW)))
    (G_KEEP_ALL : PySem.W.nsIn K mainGlobals "KEEP_ALL" = some (some (.str "all" t_KEEP_ALL)))
    (G_DOTS : PySem.W.nsIn K mainGlobals "DOTS" = some (some (.str ".." t_DOTS)))
    (G_MAX_FRONT : PySem.W.nsIn K mainGlobals "MAX_FRONT" = some (some (.int 2 t_MAX_FRONT)))
    (G_MAX_BACK : PySem.W.nsIn K mainGlobals "MAX_BACK" = some (some (.int 3 t_MAX_BACK)))
    (G_REACH : PySem.W.nsIn K mainGlobals "REACH" = some (some (.int 5 t_REACH)))
    (G_MAX_NAME : PySem.W.nsIn K mainGlobals "MAX_NAME" = some (some (.int 8 t_MAX_NAME)))
    (G_MAX_PEOPLE : PySem.W.nsIn K mainGlobals "MAX_PEOPLE" = some (some (.int 4 t_MAX_PEOPLE)))
    (G_BETWEEN_PARTS : PySem.W.nsIn K mainGlobals "BETWEEN_PARTS" = some (some (.str " > " t_BETWEEN_PARTS)))
    (G_BETWEEN_CUTTERS : PySem.W.nsIn K mainGlobals "BETWEEN_CUTTERS" = some (some (.str " | " t_BETWEEN_CUTTERS)))
    (G_ADDS : PySem.W.nsIn K mainGlobals "ADDS" = some (some (.str "adds" t_ADDS)))
    (G_HIDES : PySem.W.nsIn K mainGlobals "HIDES" = some (some (.str "hides" t_HIDES)))
    (G_SEES : PySem.W.nsIn K mainGlobals "SEES" = some (some (.str "sees" t_SEES)))
    (G_SKIPS : PySem.W.nsIn K mainGlobals "SKIPS" = some (some (.str "skips" t_SKIPS)))
    (F_is_part : Fun K "is_part" "is_part" s_is_part f_is_part fd_is_part)
    (F_check_parts : Fun K "check_parts" "check_parts" s_check_parts f_check_parts fd_check_parts)
    (F_has_plus : Fun K "has_plus" "has_plus" s_has_plus f_has_plus fd_has_plus)
    (F_part_places : Fun K "part_places" "part_places" s_part_places f_part_places fd_part_places)
    (F_kept_places : Fun K "kept_places" "kept_places" s_kept_places f_kept_places fd_kept_places)
    (F_table_of : Fun K "table_of" "table_of" s_table_of f_table_of fd_table_of)
    (F_keep_all : Fun K "keep_all" "keep_all" s_keep_all f_keep_all fd_keep_all)
    (F_check_cutter : Fun K "check_cutter" "check_cutter" s_check_cutter f_check_cutter fd_check_cutter)
    (F_is_name : Fun K "is_name" "is_name" s_is_name f_is_name fd_is_name)
    (F_is_ascending : Fun K "is_ascending" "is_ascending" s_is_ascending f_is_ascending fd_is_ascending)
    (F_is_people : Fun K "is_people" "is_people" s_is_people f_is_people fd_is_people)
    (F_is_some_of : Fun K "is_some_of" "is_some_of" s_is_some_of f_is_some_of fd_is_some_of)
    (F_is_turn : Fun K "is_turn" "is_turn" s_is_turn f_is_turn fd_is_turn)
    (F_is_turns : Fun K "is_turns" "is_turns" s_is_turns f_is_turns fd_is_turns)
    (F_is_copies : Fun K "is_copies" "is_copies" s_is_copies f_is_copies fd_is_copies)
    (F_in_order : Fun K "in_order" "in_order" s_in_order f_in_order fd_in_order)
    (F_check_company : Fun K "check_company" "check_company" s_check_company f_check_company fd_check_company)
    (F_check_person : Fun K "check_person" "check_person" s_check_person f_check_person fd_check_person)
    (F_check_rule : Fun K "check_rule" "check_rule" s_check_rule f_check_rule fd_check_rule)
    (F_cutter_in : Fun K "cutter_in" "cutter_in" s_cutter_in f_cutter_in fd_cutter_in)
    (F_rule_in : Fun K "rule_in" "rule_in" s_rule_in f_rule_in fd_rule_in)
    (F_turn_in : Fun K "turn_in" "turn_in" s_turn_in f_turn_in fd_turn_in)
    (F_cutter_text : Fun K "cutter_text" "cutter_text" s_cutter_text f_cutter_text fd_cutter_text)
    (F_rule_text : Fun K "rule_text" "rule_text" s_rule_text f_rule_text fd_rule_text)
    (F_turn_text : Fun K "turn_text" "turn_text" s_turn_text f_turn_text fd_turn_text)
    (F_read_cutter : Fun K "read_cutter" "read_cutter" s_read_cutter f_read_cutter fd_read_cutter)
    (F_read_rule : Fun K "read_rule" "read_rule" s_read_rule f_read_rule fd_read_rule)
    (F_read_turn : Fun K "read_turn" "read_turn" s_read_turn f_read_turn fd_read_turn)
    (F_lines_of : Fun K "lines_of" "lines_of" s_lines_of f_lines_of fd_lines_of)
    (F_first_line : Fun K "first_line" "first_line" s_first_line f_first_line fd_first_line)
    (F_read_line : Fun K "read_line" "read_line" s_read_line f_read_line fd_read_line)
    (F_dice : Fun K "_law_dice" "_law_dice" s_dice f_dice fd_dice)
    (F_roll : Fun K "_law_roll" "_law_roll" s_roll f_roll fd_roll)
    (F_one_of : Fun K "_law_one_of" "_law_one_of" s_one_of f_one_of fd_one_of)
    (F_signs : Fun K "_law_signs" "_law_signs" s_signs f_signs fd_signs)
    (F_part : Fun K "_law_part" "_law_part" s_part f_part fd_part)
    (F_ctext : Fun K "_law_cutter_text" "_law_cutter_text" s_ctext f_ctext fd_ctext)
    (F_ttext : Fun K "_law_turn_text" "_law_turn_text" s_ttext f_ttext fd_ttext)
    (F_long : Fun K "_law_long_parts" "_law_long_parts" s_long f_long fd_long)
    (F_right : Fun K "_law_right" "_law_right" s_right f_right fd_right)
    (F_law : Fun K "law" "law" s_law f_law fd_law)
    (F_init : Fun K "__init__" "Cutter.__init__" s_init f_init fd_init)
    (F_of : Fun K "of" "Cutter.of" s_of f_of fd_of)
    (F_of_any : Fun K "of_any" "Cutter.of_any" s_of_any f_of_any fd_of_any)
    (F_parts : Fun K "parts" "Cutter.parts" s_parts f_parts fd_parts)
    (F_eqc : Fun K "__eq__" "Cutter.__eq__" s_eqc f_eqc fd_eqc)
    (F_strc : Fun K "__str__" "Cutter.__str__" s_strc f_strc fd_strc)
    (F_rinit : FunD K "__init__" "Rule.__init__" (defArgs s_rinit) (defBody s_rinit) (defScope s_rinit) [] [("sees_lost", .bl false)] f_rinit fd_rinit)
    (F_rcutter : Fun K "cutter" "Rule.cutter" s_rcutter f_rcutter fd_rcutter)
    (F_rsees : Fun K "sees_lost" "Rule.sees_lost" s_rsees f_rsees fd_rsees)
    (F_req : Fun K "__eq__" "Rule.__eq__" s_req f_req fd_req)
    (F_through : Fun K "through" "Rule.through" s_through f_through fd_through)
    (F_oinit : FunD K "__init__" "Company.__init__" (defArgs s_oinit) (defBody s_oinit) (defScope s_oinit) [] [("takings", .non), ("starts", .non), ("copies", .non)] f_oinit fd_oinit)
    (F_opeople : Fun K "people" "Company.people" s_opeople f_opeople fd_opeople)
    (F_ocopy : Fun K "copy" "Company.copy" s_ocopy f_ocopy fd_ocopy)
    (F_oroad : Fun K "road_to_reader" "Company.road_to_reader" s_oroad f_oroad fd_oroad) :
    ∀ base : Heap, K.In base → base.Ns mainGlobals mg → FnG l.prog w K mg base CX0 13 fa (spLaw K) := by
  have e := hfa.symm.trans (PySem.W.mg_of X G a_law)
  cases e
  have Z : Zs mg := ⟨PySem.W.mg_none_of X G z_len, PySem.W.mg_none_of X G z_int, PySem.W.mg_none_of X G z_abs, PySem.W.mg_none_of X G z_max, PySem.W.mg_none_of X G z_min, PySem.W.mg_none_of X G z_range, PySem.W.mg_none_of X G z_all, PySem.W.mg_none_of X G z_isinstance, PySem.W.mg_none_of X G z_str, PySem.W.mg_none_of X G z_repr, PySem.W.mg_none_of X G z_bool, PySem.W.mg_none_of X G z_list, PySem.W.mg_none_of X G z_tuple, PySem.W.mg_none_of X G z_enumerate, PySem.W.mg_none_of X G z_zip, PySem.W.mg_none_of X G z_dict, PySem.W.mg_none_of X G z_sorted, ⟨_, PySem.W.mg_of X G G_MAX_PARTS⟩, ⟨_, PySem.W.mg_of X G G_MAX_ROW⟩, ⟨_, PySem.W.mg_of X G G_KEEP_ALL⟩, ⟨_, PySem.W.mg_of X G G_DOTS⟩, ⟨_, PySem.W.mg_of X G G_MAX_FRONT⟩, ⟨_, PySem.W.mg_of X G G_MAX_BACK⟩, ⟨_, PySem.W.mg_of X G G_REACH⟩, ⟨_, PySem.W.mg_of X G G_MAX_NAME⟩, ⟨_, PySem.W.mg_of X G G_MAX_PEOPLE⟩, ⟨_, PySem.W.mg_of X G G_BETWEEN_PARTS⟩, ⟨_, PySem.W.mg_of X G G_BETWEEN_CUTTERS⟩, ⟨_, PySem.W.mg_of X G G_ADDS⟩, ⟨_, PySem.W.mg_of X G G_HIDES⟩, ⟨_, PySem.W.mg_of X G G_SEES⟩, ⟨_, PySem.W.mg_of X G G_SKIPS⟩⟩
  have D_is_part : Df K mg "is_part" s_is_part P_is_part f_is_part _ := ⟨F_is_part, F_is_part.binds (ps := P_is_part) fun _ _ _ _ _ _ us hl => match us, hl with | [_], _ => rfl, PySem.W.mg_of X G a_is_part⟩
  have D_check_parts : Df K mg "check_parts" s_check_parts P_check_parts f_check_parts _ := ⟨F_check_parts, F_check_parts.binds (ps := P_check_parts) fun _ _ _ _ _ _ us hl => match us, hl with | [_], _ => rfl, PySem.W.mg_of X G a_check_parts⟩
  have D_has_plus : Df K mg "has_plus" s_has_plus P_has_plus f_has_plus _ := ⟨F_has_plus, F_has_plus.binds (ps := P_has_plus) fun _ _ _ _ _ _ us hl => match us, hl with | [_, _], _ => rfl, PySem.W.mg_of X G a_has_plus⟩
  have D_part_places : Df K mg "part_places" s_part_places P_part_places f_part_places _ := ⟨F_part_places, F_part_places.binds (ps := P_part_places) fun _ _ _ _ _ _ us hl => match us, hl with | [_, _], _ => rfl, PySem.W.mg_of X G a_part_places⟩
  have D_kept_places : Df K mg "kept_places" s_kept_places P_kept_places f_kept_places _ := ⟨F_kept_places, F_kept_places.binds (ps := P_kept_places) fun _ _ _ _ _ _ us hl => match us, hl with | [_, _], _ => rfl, PySem.W.mg_of X G a_kept_places⟩
  have D_table_of : Df K mg "table_of" s_table_of P_table_of f_table_of _ := ⟨F_table_of, F_table_of.binds (ps := P_table_of) fun _ _ _ _ _ _ us hl => match us, hl with | [_], _ => rfl, PySem.W.mg_of X G a_table_of⟩
  have D_keep_all : Df K mg "keep_all" s_keep_all P_keep_all f_keep_all _ := ⟨F_keep_all, F_keep_all.binds (ps := P_keep_all) fun _ _ _ _ _ _ us hl => match us, hl with | [_], _ => rfl, PySem.W.mg_of X G a_keep_all⟩
  have D_check_cutter : Df K mg "check_cutter" s_check_cutter P_check_cutter f_check_cutter _ := ⟨F_check_cutter, F_check_cutter.binds (ps := P_check_cutter) fun _ _ _ _ _ _ us hl => match us, hl with | [_], _ => rfl, PySem.W.mg_of X G a_check_cutter⟩
  have D_is_name : Df K mg "is_name" s_is_name P_is_name f_is_name _ := ⟨F_is_name, F_is_name.binds (ps := P_is_name) fun _ _ _ _ _ _ us hl => match us, hl with | [_], _ => rfl, PySem.W.mg_of X G a_is_name⟩
  have D_is_ascending : Df K mg "is_ascending" s_is_ascending P_is_ascending f_is_ascending _ := ⟨F_is_ascending, F_is_ascending.binds (ps := P_is_ascending) fun _ _ _ _ _ _ us hl => match us, hl with | [_], _ => rfl, PySem.W.mg_of X G a_is_ascending⟩
  have D_is_people : Df K mg "is_people" s_is_people P_is_people f_is_people _ := ⟨F_is_people, F_is_people.binds (ps := P_is_people) fun _ _ _ _ _ _ us hl => match us, hl with | [_], _ => rfl, PySem.W.mg_of X G a_is_people⟩
  have D_is_some_of : Df K mg "is_some_of" s_is_some_of P_is_some_of f_is_some_of _ := ⟨F_is_some_of, F_is_some_of.binds (ps := P_is_some_of) fun _ _ _ _ _ _ us hl => match us, hl with | [_, _], _ => rfl, PySem.W.mg_of X G a_is_some_of⟩
  have D_is_turn : Df K mg "is_turn" s_is_turn P_is_turn f_is_turn _ := ⟨F_is_turn, F_is_turn.binds (ps := P_is_turn) fun _ _ _ _ _ _ us hl => match us, hl with | [_], _ => rfl, PySem.W.mg_of X G a_is_turn⟩
  have D_is_turns : Df K mg "is_turns" s_is_turns P_is_turns f_is_turns _ := ⟨F_is_turns, F_is_turns.binds (ps := P_is_turns) fun _ _ _ _ _ _ us hl => match us, hl with | [_, _], _ => rfl, PySem.W.mg_of X G a_is_turns⟩
  have D_is_copies : Df K mg "is_copies" s_is_copies P_is_copies f_is_copies _ := ⟨F_is_copies, F_is_copies.binds (ps := P_is_copies) fun _ _ _ _ _ _ us hl => match us, hl with | [_, _], _ => rfl, PySem.W.mg_of X G a_is_copies⟩
  have D_in_order : Df K mg "in_order" s_in_order P_in_order f_in_order _ := ⟨F_in_order, F_in_order.binds (ps := P_in_order) fun _ _ _ _ _ _ us hl => match us, hl with | [_], _ => rfl, PySem.W.mg_of X G a_in_order⟩
  have D_check_company : Df K mg "check_company" s_check_company P_check_company f_check_company _ := ⟨F_check_company, F_check_company.binds (ps := P_check_company) fun _ _ _ _ _ _ us hl => match us, hl with | [_], _ => rfl, PySem.W.mg_of X G a_check_company⟩
  have D_check_person : Df K mg "check_person" s_check_person P_check_person f_check_person _ := ⟨F_check_person, F_check_person.binds (ps := P_check_person) fun _ _ _ _ _ _ us hl => match us, hl with | [_, _], _ => rfl, PySem.W.mg_of X G a_check_person⟩
  have D_check_rule : Df K mg "check_rule" s_check_rule P_check_rule f_check_rule _ := ⟨F_check_rule, F_check_rule.binds (ps := P_check_rule) fun _ _ _ _ _ _ us hl => match us, hl with | [_], _ => rfl, PySem.W.mg_of X G a_check_rule⟩
  have D_cutter_in : Df K mg "cutter_in" s_cutter_in P_cutter_in f_cutter_in _ := ⟨F_cutter_in, F_cutter_in.binds (ps := P_cutter_in) fun _ _ _ _ _ _ us hl => match us, hl with | [_], _ => rfl, PySem.W.mg_of X G a_cutter_in⟩
  have D_rule_in : Df K mg "rule_in" s_rule_in P_rule_in f_rule_in _ := ⟨F_rule_in, F_rule_in.binds (ps := P_rule_in) fun _ _ _ _ _ _ us hl => match us, hl with | [_], _ => rfl, PySem.W.mg_of X G a_rule_in⟩
  have D_turn_in : Df K mg "turn_in" s_turn_in P_turn_in f_turn_in _ := ⟨F_turn_in, F_turn_in.binds (ps := P_turn_in) fun _ _ _ _ _ _ us hl => match us, hl with | [_], _ => rfl, PySem.W.mg_of X G a_turn_in⟩
  have D_cutter_text : Df K mg "cutter_text" s_cutter_text P_cutter_text f_cutter_text _ := ⟨F_cutter_text, F_cutter_text.binds (ps := P_cutter_text) fun _ _ _ _ _ _ us hl => match us, hl with | [_], _ => rfl, PySem.W.mg_of X G a_cutter_text⟩
  have D_rule_text : Df K mg "rule_text" s_rule_text P_rule_text f_rule_text _ := ⟨F_rule_text, F_rule_text.binds (ps := P_rule_text) fun _ _ _ _ _ _ us hl => match us, hl with | [_], _ => rfl, PySem.W.mg_of X G a_rule_text⟩
  have D_turn_text : Df K mg "turn_text" s_turn_text P_turn_text f_turn_text _ := ⟨F_turn_text, F_turn_text.binds (ps := P_turn_text) fun _ _ _ _ _ _ us hl => match us, hl with | [_], _ => rfl, PySem.W.mg_of X G a_turn_text⟩
  have D_read_cutter : Df K mg "read_cutter" s_read_cutter P_read_cutter f_read_cutter _ := ⟨F_read_cutter, F_read_cutter.binds (ps := P_read_cutter) fun _ _ _ _ _ _ us hl => match us, hl with | [_], _ => rfl, PySem.W.mg_of X G a_read_cutter⟩
  have D_read_rule : Df K mg "read_rule" s_read_rule P_read_rule f_read_rule _ := ⟨F_read_rule, F_read_rule.binds (ps := P_read_rule) fun _ _ _ _ _ _ us hl => match us, hl with | [_], _ => rfl, PySem.W.mg_of X G a_read_rule⟩
  have D_read_turn : Df K mg "read_turn" s_read_turn P_read_turn f_read_turn _ := ⟨F_read_turn, F_read_turn.binds (ps := P_read_turn) fun _ _ _ _ _ _ us hl => match us, hl with | [_], _ => rfl, PySem.W.mg_of X G a_read_turn⟩
  have D_lines_of : Df K mg "lines_of" s_lines_of P_lines_of f_lines_of _ := ⟨F_lines_of, F_lines_of.binds (ps := P_lines_of) fun _ _ _ _ _ _ us hl => match us, hl with | [_], _ => rfl, PySem.W.mg_of X G a_lines_of⟩
  have D_first_line : Df K mg "first_line" s_first_line P_first_line f_first_line _ := ⟨F_first_line, F_first_line.binds (ps := P_first_line) fun _ _ _ _ _ _ us hl => match us, hl with | [_], _ => rfl, PySem.W.mg_of X G a_first_line⟩
  have D_read_line : Df K mg "read_line" s_read_line P_read_line f_read_line _ := ⟨F_read_line, F_read_line.binds (ps := P_read_line) fun _ _ _ _ _ _ us hl => match us, hl with | [_, _], _ => rfl, PySem.W.mg_of X G a_read_line⟩
  have D_dice : Df K mg "_law_dice" s_dice P_dice f_dice _ := ⟨F_dice, F_dice.binds (ps := P_dice) fun _ _ _ _ _ _ us hl => match us, hl with | [_, _], _ => rfl, PySem.W.mg_of X G a_dice⟩
  have D_roll : Df K mg "_law_roll" s_roll P_roll f_roll _ := ⟨F_roll, F_roll.binds (ps := P_roll) fun _ _ _ _ _ _ us hl => match us, hl with | [_, _], _ => rfl, PySem.W.mg_of X G a_roll⟩
  have D_one_of : Df K mg "_law_one_of" s_one_of P_one_of f_one_of _ := ⟨F_one_of, F_one_of.binds (ps := P_one_of) fun _ _ _ _ _ _ us hl => match us, hl with | [_, _], _ => rfl, PySem.W.mg_of X G a_one_of⟩
  have D_signs : Df K mg "_law_signs" s_signs P_signs f_signs _ := ⟨F_signs, F_signs.binds (ps := P_signs) fun _ _ _ _ _ _ us hl => match us, hl with | [_, _], _ => rfl, PySem.W.mg_of X G a_signs⟩
  have D_part : Df K mg "_law_part" s_part P_part f_part _ := ⟨F_part, F_part.binds (ps := P_part) fun _ _ _ _ _ _ us hl => match us, hl with | [_], _ => rfl, PySem.W.mg_of X G a_part⟩
  have D_ctext : Df K mg "_law_cutter_text" s_ctext P_ctext f_ctext _ := ⟨F_ctext, F_ctext.binds (ps := P_ctext) fun _ _ _ _ _ _ us hl => match us, hl with | [_], _ => rfl, PySem.W.mg_of X G a_ctext⟩
  have D_ttext : Df K mg "_law_turn_text" s_ttext P_ttext f_ttext _ := ⟨F_ttext, F_ttext.binds (ps := P_ttext) fun _ _ _ _ _ _ us hl => match us, hl with | [_], _ => rfl, PySem.W.mg_of X G a_ttext⟩
  have D_long : Df K mg "_law_long_parts" s_long P_long f_long _ := ⟨F_long, F_long.binds (ps := P_long) fun _ _ _ _ _ _ us hl => match us, hl with | [_], _ => rfl, PySem.W.mg_of X G a_long⟩
  have D_right : Df K mg "_law_right" s_right P_right f_right _ := ⟨F_right, F_right.binds (ps := P_right) fun _ _ _ _ _ _ us hl => match us, hl with | [_], _ => rfl, PySem.W.mg_of X G a_right⟩
  have D_law : Df K mg "law" s_law P_law fa _ := ⟨F_law, F_law.binds (ps := P_law) fun _ _ _ _ _ _ us hl => match us, hl with | [_], _ => rfl, PySem.W.mg_of X G a_law⟩
  have D_of : Dm K "of" "Cutter.of" s_of P_of f_of _ := ⟨F_of, F_of.binds (ps := P_of) fun _ _ _ _ _ _ us hl => match us, hl with | [_, _], _ => rfl⟩
  have D_of_any : Dm K "of_any" "Cutter.of_any" s_of_any P_of_any f_of_any _ := ⟨F_of_any, F_of_any.binds (ps := P_of_any) fun _ _ _ _ _ _ us hl => match us, hl with | [_, _], _ => rfl⟩
  have D_parts : Dm K "parts" "Cutter.parts" s_parts P_parts f_parts _ := ⟨F_parts, F_parts.binds (ps := P_parts) fun _ _ _ _ _ _ us hl => match us, hl with | [_], _ => rfl⟩
  have D_eqc : Dm K "__eq__" "Cutter.__eq__" s_eqc P_eqc f_eqc _ := ⟨F_eqc, F_eqc.binds (ps := P_eqc) fun _ _ _ _ _ _ us hl => match us, hl with | [_, _], _ => rfl⟩
  have D_strc : Dm K "__str__" "Cutter.__str__" s_strc P_strc f_strc _ := ⟨F_strc, F_strc.binds (ps := P_strc) fun _ _ _ _ _ _ us hl => match us, hl with | [_], _ => rfl⟩
  have D_rcutter : Dm K "cutter" "Rule.cutter" s_rcutter P_rcutter f_rcutter _ := ⟨F_rcutter, F_rcutter.binds (ps := P_rcutter) fun _ _ _ _ _ _ us hl => match us, hl with | [_], _ => rfl⟩
  have D_rsees : Dm K "sees_lost" "Rule.sees_lost" s_rsees P_rsees f_rsees _ := ⟨F_rsees, F_rsees.binds (ps := P_rsees) fun _ _ _ _ _ _ us hl => match us, hl with | [_], _ => rfl⟩
  have D_req : Dm K "__eq__" "Rule.__eq__" s_req P_req f_req _ := ⟨F_req, F_req.binds (ps := P_req) fun _ _ _ _ _ _ us hl => match us, hl with | [_, _], _ => rfl⟩
  have D_through : Dm K "through" "Rule.through" s_through P_through f_through _ := ⟨F_through, F_through.binds (ps := P_through) fun _ _ _ _ _ _ us hl => match us, hl with | [_, _, _], _ => rfl⟩
  have D_opeople : Dm K "people" "Company.people" s_opeople P_opeople f_opeople _ := ⟨F_opeople, F_opeople.binds (ps := P_opeople) fun _ _ _ _ _ _ us hl => match us, hl with | [_], _ => rfl⟩
  have D_ocopy : Dm K "copy" "Company.copy" s_ocopy P_ocopy f_ocopy _ := ⟨F_ocopy, F_ocopy.binds (ps := P_ocopy) fun _ _ _ _ _ _ us hl => match us, hl with | [_, _], _ => rfl⟩
  have D_oroad : Dm K "road_to_reader" "Company.road_to_reader" s_oroad P_oroad f_oroad _ := ⟨F_oroad, F_oroad.binds (ps := P_oroad) fun _ _ _ _ _ _ us hl => match us, hl with | [_, _], _ => rfl⟩
  intro base _ _
  have cl : Cls K C := ⟨C3, C4, C5, C6⟩
  have c : CK K C := ⟨cl, C_parts, C_table, C_keeps_all, C9, C10, C11, C12, if_pos (beq_self_eq_true _)⟩
  have hC : mg "Cutter" = some (.ref C) := PySem.W.mg_of X G aC
  have hR : mg "Rule" = some (.ref R) := PySem.W.mg_of X G aR
  have hO : mg "Company" = some (.ref O) := PySem.W.mg_of X G aO
  have rk : KC K R := ⟨⟨R3, R4, R5, R6⟩, R9, R10, R11, R12, if_pos (beq_self_eq_true _)⟩
  have oc : KC K O := ⟨⟨O3, O4, O5, O6⟩, O9, O10, O11, O12, if_pos (beq_self_eq_true _)⟩
  have C_plus := D_has_plus.cl (P := l.prog) (w := w) (base := base) (ok_plus Z D_has_plus)
  have C_pplaces := D_part_places.cl (P := l.prog) (w := w) (base := base) (ok_places Z D_part_places C_plus)
  have C_kplaces := D_kept_places.cl (P := l.prog) (w := w) (base := base) (ok_kept Z D_kept_places C_pplaces)
  have C_table' := D_table_of.cl (P := l.prog) (w := w) (base := base) (ok_table Z D_table_of C_kplaces)
  have C_ispart := D_is_part.cl (P := l.prog) (w := w) (base := base) (ok_is_part Z D_is_part)
  have C_check := D_check_parts.cl (P := l.prog) (w := w) (base := base) (ok_check Z D_check_parts C_ispart)
  have C_keepall := D_keep_all.cl (P := l.prog) (w := w) (base := base) (ok_keep_all Z D_keep_all)
  have FI := ok_init (P := l.prog) (w := w) (base := base) Z F_init c C_check C_table' C_keepall
  have M : Mk K C f_init := ⟨C1, t_init, n_init, C2⟩
  have M_parts : Cm l.prog w K mg base 1 f_parts _ P_parts (spParts C) := ⟨okm_parts Z D_parts c, D_parts.b⟩
  have pr_parts : PropOf K C "parts" p_parts f_parts := ⟨t_parts, g_parts, u_parts, _, r_parts⟩
  have OkEq := okm_eqc (P := l.prog) (w := w) (base := base) Z D_eqc c hC
  have F_eq := D_eqc.raw OkEq
  have F_str := D_strc.raw (okm_strc (P := l.prog) (w := w) (base := base) Z D_strc c)
  have F_of := D_of.raw (okm_of (P := l.prog) (w := w) (base := base) Z D_of M FI)
  have cr : ClX.CRead K C (.type "type") := ⟨C14, C15⟩
  have cmO : ClX.CMet K C (.type "type") "of" p_of f_of := ⟨t_of, r_of, i_of⟩
  have cmA : ClX.CMet K C (.type "type") "of_any" p_of_any f_of_any := ⟨t_of_any, r_of_any, i_of_any⟩
  have F_any := D_of_any.raw (ok_of_any (P := l.prog) (w := w) (base := base) Z D_of_any c M FI C_table' C_keepall)
  have sp_str : Sp1 K C f_strc "__str__" := ⟨t_strc, n_strc⟩
  have sp_eq : Sp1 K C f_eqc "__eq__" := ⟨t_eqc, n_eqc⟩
  have C_chk := D_check_cutter.cl (P := l.prog) (w := w) (base := base) (ok_check_cutter Z D_check_cutter c hC)
  have C_ctxt := D_cutter_text.cl (P := l.prog) (w := w) (base := base) (ok_cutter_text Z D_cutter_text C_chk sp_str F_str)
  have C_isturn := D_is_turn.cl (P := l.prog) (w := w) (base := base) (ok_is_turn Z D_is_turn c hC)
  have C_ttxt := D_turn_text.cl (P := l.prog) (w := w) (base := base) (ok_turn_text Z D_turn_text C_isturn sp_str F_str)
  have C_lines := D_lines_of.cl (P := l.prog) (w := w) (base := base) (ok_lines_of Z D_lines_of)
  have C_first := D_first_line.cl (P := l.prog) (w := w) (base := base) (ok_first_line Z D_first_line C_lines)
  have C_rline := D_read_line.cl (P := l.prog) (w := w) (base := base) (ok_read_line Z D_read_line C_lines)
  have C_cin := D_cutter_in.cl (P := l.prog) (w := w) (base := base) (ok_cutter_in Z D_cutter_in hC C_ispart cr cmA F_any)
  have RF := ok_rinit (P := l.prog) (w := w) (base := base) Z F_rinit rk R_cutter R_sees_lost C_chk
  have RM : Mk K R f_rinit := ⟨R1, t_rinit, n_rinit, R2⟩
  obtain ⟨mvr, RB⟩ := F_rinit.kbinds0 (ps := P_rinit) 2 ["sees_lost"] [] (fun us _ ws => us ++ ws) (by intro z; cases z) (by intro q z; cases z) (fun r1 _ r3 => r1.append r3) (fun D doc pm an cdv ct us mv ws h1 h2 h3 => by
    match us, h1, ws, h3 with
    | [x1, x2], _, [x3], _ => exact rfl)
  have M_cutter : Cm l.prog w K mg base 1 f_rcutter _ P_rcutter (spRCut R) := ⟨ok_rcutter Z D_rcutter rk R_cutter, D_rcutter.b⟩
  have pr_cutter : PropOf K R "cutter" p_rcutter f_rcutter := ⟨t_rcutter, g_rcutter, u_rcutter, _, r_rcutter⟩
  have M_sees : Cm l.prog w K mg base 1 f_rsees _ P_rsees (spRSees R) := ⟨ok_rsees Z D_rsees rk R_sees_lost, D_rsees.b⟩
  have pr_sees : PropOf K R "sees_lost" p_rsees f_rsees := ⟨t_rsees, g_rsees, u_rsees, _, r_rsees⟩
  have F_req := D_req.raw (ok_req (P := l.prog) (w := w) (base := base) Z D_req rk R_cutter R_sees_lost hR sp_eq F_eq)
  have C_chkr := D_check_rule.cl (P := l.prog) (w := w) (base := base) (ok_check_rule Z D_check_rule rk hR)
  have C_rtxt := D_rule_text.cl (P := l.prog) (w := w) (base := base) (ok_rule_text Z D_rule_text rk C_chkr pr_cutter M_cutter pr_sees M_sees sp_str F_str)
  have C_rin := D_rule_in.cl (P := l.prog) (w := w) (base := base) (ok_rule_in Z D_rule_in C_cin hR RM RF RB)
  have C_tin := D_turn_in.cl (P := l.prog) (w := w) (base := base) (ok_turn_in Z D_turn_in C_cin)
  have C_rdc := D_read_cutter.cl (P := l.prog) (w := w) (base := base) (ok_read_cutter Z D_read_cutter C_cin C_first C_rline)
  have C_rdr := D_read_rule.cl (P := l.prog) (w := w) (base := base) (ok_read_rule Z D_read_rule C_rin C_first C_rline)
  have C_rdt := D_read_turn.cl (P := l.prog) (w := w) (base := base) (ok_read_turn Z D_read_turn C_tin C_first C_rline)
  have C_name := D_is_name.cl (P := l.prog) (w := w) (base := base) (ok_nameS Z D_is_name)
  have C_asc := D_is_ascending.cl (P := l.prog) (w := w) (base := base) (ok_is_ascending Z D_is_ascending)
  have C_people := D_is_people.cl (P := l.prog) (w := w) (base := base) (ok_is_people Z D_is_people C_name C_asc)
  have C_some := D_is_some_of.cl (P := l.prog) (w := w) (base := base) (ok_is_some_of Z D_is_some_of C_asc)
  have C_turns := D_is_turns.cl (P := l.prog) (w := w) (base := base) (ok_is_turns Z D_is_turns)
  have C_copies := D_is_copies.cl (P := l.prog) (w := w) (base := base) (ok_is_copies Z D_is_copies c hC)
  have C_order := D_in_order.cl (P := l.prog) (w := w) (base := base) (ok_in_order Z D_in_order)
  have OF := ok_oinit (P := l.prog) (w := w) (base := base) Z F_oinit oc O_people O_answers O_takings O_starts O_copies C_people C_turns C_some C_copies C_order
  have OM : Mk K O f_oinit := ⟨O1, t_oinit, n_oinit, O2⟩
  obtain ⟨mvo, OB⟩ := F_oinit.kbinds0 (ps := P_oinit) 3 ["copies"] [("takings", .non), ("starts", .non)] (fun us mv ws => us ++ mv ++ ws) (by intro z; cases z) (by
    intro q hq
    simp only [List.mem_cons, List.not_mem_nil, or_false] at hq ⊢
    rcases hq with rfl | rfl
    · exact .inl rfl
    · exact .inr (.inl rfl)) (fun r1 r2 r3 => (r1.append r2).append r3) (fun D doc pm an cdv ct us mv ws h1 h2 h3 => by
    match us, h1, mv, h2, ws, h3 with
    | [x1, x2, x3], _, [y1, y2], _, [x4], _ => exact ⟨_, _, _, _, _, _, rfl, rfl, _, _, _, _, _, _, rfl, rfl, rfl⟩)
  have M_people : Cm l.prog w K mg base 1 f_opeople _ P_opeople (spPpl O) := ⟨ok_opeople Z D_opeople oc O_people, D_opeople.b⟩
  have pr_people : PropOf K O "people" p_opeople f_opeople := ⟨t_opeople, g_opeople, u_opeople, _, r_opeople⟩
  have C_chko := D_check_company.cl (P := l.prog) (w := w) (base := base) (ok_check_company Z D_check_company oc hO)
  have C_chkp := D_check_person.cl (P := l.prog) (w := w) (base := base) (ok_check_person Z D_check_person oc pr_people M_people)
  have M_road : Cm l.prog w K mg base 4 f_oroad _ P_oroad (spRoad O) := ⟨ok_oroad Z D_oroad oc O_copies C_chkp, D_oroad.b⟩
  have me_road : Meth K O "road_to_reader" f_oroad := ⟨t_oroad, n_oroad, kp_oroad⟩
  have M_copy : Cm l.prog w K mg base 5 f_ocopy _ P_ocopy (spRoad O) := ⟨ok_ocopy Z D_ocopy oc me_road M_road, D_ocopy.b⟩
  have me_copy : Meth K O "copy" f_ocopy := ⟨t_ocopy, n_ocopy, kp_ocopy⟩
  have M_through : Cm l.prog w K mg base 8 f_through _ P_through (spThrough R O C) := ⟨ok_through Z D_through rk R_cutter oc c hC C_chko C_chkp me_copy M_copy pr_parts M_parts cr cmA F_any, D_through.b⟩
  have me_through : Meth K R "through" f_through := ⟨t_through, n_through, kp_through⟩
  have C_roll := D_roll.cl (P := l.prog) (w := w) (base := base) (ok_roll Z D_roll)
  have C_one := D_one_of.cl (P := l.prog) (w := w) (base := base) (ok_oneL Z D_one_of C_roll)
  have C_signs := D_signs.cl (P := l.prog) (w := w) (base := base) (ok_signs Z D_signs C_roll C_one)
  have C_part := D_part.cl (P := l.prog) (w := w) (base := base) (ok_part Z D_part C_roll C_one C_signs)
  have C_long := D_long.cl (P := l.prog) (w := w) (base := base) (ok_long Z D_long C_roll C_part)
  have C_ct := D_ctext.cl (P := l.prog) (w := w) (base := base) (ok_ctext Z D_ctext)
  have C_tt := D_ttext.cl (P := l.prog) (w := w) (base := base) (ok_ttext Z D_ttext C_ct)
  have C_right := D_right.cl (P := l.prog) (w := w) (base := base) (ok_right Z D_right c hC hO rk oc C_long C_roll C_ct C_tt C_ctxt C_rtxt C_ttxt C_rdc C_rdr C_rdt pr_cutter M_cutter pr_sees M_sees sp_str F_str hR RM RF RB pr_parts M_parts cr cmO F_of sp_eq OkEq D_eqc.b F_eq ⟨C13, C12⟩ ⟨t_req, n_req⟩ F_req ⟨R13, R12⟩ me_through M_through OM OF OB)
  exact (ok_law Z D_law (D_dice.cl (ok_dice Z D_dice)) C_right).quiet D_law.b
end K67
namespace K67.HD
open PySem PySem.W PySem.Calls PyProof.Rows L2 K67
def nm0 : List PySem.Str := ["_wall", "MAX_NAME", "is_whole", "is_name", "is_mark", "is_mark_below", "is_ascending", "is_marks_below", "kept", "LetterError", "InvalidCutter", "InvalidCompany", "InvalidBundle", "InvalidRule", "InvalidOperation", "ParseError", "UnknownName", "InvalidNumber", "TooMany", "MAX_PARTS", "MAX_ROW", "KEEP_ALL", "DOTS", "MAX_FRONT", "MAX_BACK", "REACH", "is_part", "check_parts", "has_plus", "part_places"]
def nm1 : List PySem.Str := ["kept_places", "keep_all", "table_of", "Cutter", "check_cutter", "cut", "MAX_PEOPLE", "is_people", "is_some_of", "is_turn", "is_pair", "is_turns", "is_copies", "in_order", "turns_within", "Company", "check_company", "check_person", "check_group", "MAX_LETTERS", "is_letter", "check_letters", "list_behind", "told_of", "Pile", "pile_of", "pile_with", "Bundle", "check_bundle", "check_mark"]
def nm2 : List PySem.Str := ["Rule", "check_rule", "BETWEEN_PARTS", "BETWEEN_CUTTERS", "ADDS", "HIDES", "SEES", "SKIPS", "cutter_in", "rule_in", "turn_in", "cutter_text", "rule_text", "turn_text", "read_cutter", "read_rule", "read_turn", "lines_of", "first_line", "read_line", "_law_dice", "_law_roll", "_law_one_of", "_law_signs", "_law_part", "_law_cutter_text", "_law_turn_text", "_law_long_parts", "_law_right"]
def nms : List PySem.Str := nm0 ++ nm1 ++ nm2
def ad_f_is_part (K : Frag) : Addr := He.ga K "is_part"
def ad_f_check_parts (K : Frag) : Addr := He.ga K "check_parts"
def ad_f_has_plus (K : Frag) : Addr := He.ga K "has_plus"
def ad_f_part_places (K : Frag) : Addr := He.ga K "part_places"
def ad_f_kept_places (K : Frag) : Addr := He.ga K "kept_places"
def ad_f_table_of (K : Frag) : Addr := He.ga K "table_of"
def ad_f_keep_all (K : Frag) : Addr := He.ga K "keep_all"
def ad_f_check_cutter (K : Frag) : Addr := He.ga K "check_cutter"
def ad_f_is_name (K : Frag) : Addr := He.ga K "is_name"
def ad_f_is_ascending (K : Frag) : Addr := He.ga K "is_ascending"
def ad_f_is_people (K : Frag) : Addr := He.ga K "is_people"
def ad_f_is_some_of (K : Frag) : Addr := He.ga K "is_some_of"
def ad_f_is_turn (K : Frag) : Addr := He.ga K "is_turn"
def ad_f_is_turns (K : Frag) : Addr := He.ga K "is_turns"
def ad_f_is_copies (K : Frag) : Addr := He.ga K "is_copies"
def ad_f_in_order (K : Frag) : Addr := He.ga K "in_order"
def ad_f_check_company (K : Frag) : Addr := He.ga K "check_company"
def ad_f_check_person (K : Frag) : Addr := He.ga K "check_person"
def ad_f_check_rule (K : Frag) : Addr := He.ga K "check_rule"
def ad_f_cutter_in (K : Frag) : Addr := He.ga K "cutter_in"
def ad_f_rule_in (K : Frag) : Addr := He.ga K "rule_in"
def ad_f_turn_in (K : Frag) : Addr := He.ga K "turn_in"
def ad_f_cutter_text (K : Frag) : Addr := He.ga K "cutter_text"
def ad_f_rule_text (K : Frag) : Addr := He.ga K "rule_text"
def ad_f_turn_text (K : Frag) : Addr := He.ga K "turn_text"
def ad_f_read_cutter (K : Frag) : Addr := He.ga K "read_cutter"
def ad_f_read_rule (K : Frag) : Addr := He.ga K "read_rule"
def ad_f_read_turn (K : Frag) : Addr := He.ga K "read_turn"
def ad_f_lines_of (K : Frag) : Addr := He.ga K "lines_of"
def ad_f_first_line (K : Frag) : Addr := He.ga K "first_line"
def ad_f_read_line (K : Frag) : Addr := He.ga K "read_line"
def ad_f_dice (K : Frag) : Addr := He.ga K "_law_dice"
def ad_f_roll (K : Frag) : Addr := He.ga K "_law_roll"
def ad_f_one_of (K : Frag) : Addr := He.ga K "_law_one_of"
def ad_f_signs (K : Frag) : Addr := He.ga K "_law_signs"
def ad_f_part (K : Frag) : Addr := He.ga K "_law_part"
def ad_f_ctext (K : Frag) : Addr := He.ga K "_law_cutter_text"
def ad_f_ttext (K : Frag) : Addr := He.ga K "_law_turn_text"
def ad_f_long (K : Frag) : Addr := He.ga K "_law_long_parts"
def ad_f_right (K : Frag) : Addr := He.ga K "_law_right"
def ad_f_law (K : Frag) : Addr := He.ga K "law"
def ad_C (K : Frag) : Addr := He.ga K "Cutter"
def ad_f_init (K : Frag) : Addr := He.ma K (He.ga K "Cutter") "__init__"
def ad_p_of (K : Frag) : Addr := He.ma K (He.ga K "Cutter") "of"
def ad_f_of (K : Frag) : Addr := He5.wf K (He.ga K "Cutter") "classmethod" "of"
def ad_p_of_any (K : Frag) : Addr := He.ma K (He.ga K "Cutter") "of_any"
def ad_f_of_any (K : Frag) : Addr := He5.wf K (He.ga K "Cutter") "classmethod" "of_any"
def ad_p_parts (K : Frag) : Addr := He.ma K (He.ga K "Cutter") "parts"
def ad_f_parts (K : Frag) : Addr := He5.wf K (He.ga K "Cutter") "property" "parts"
def ad_f_eqc (K : Frag) : Addr := He.ma K (He.ga K "Cutter") "__eq__"
def ad_f_strc (K : Frag) : Addr := He.ma K (He.ga K "Cutter") "__str__"
def ad_R (K : Frag) : Addr := He.ga K "Rule"
def ad_f_rinit (K : Frag) : Addr := He.ma K (He.ga K "Rule") "__init__"
def ad_p_rcutter (K : Frag) : Addr := He.ma K (He.ga K "Rule") "cutter"
def ad_f_rcutter (K : Frag) : Addr := He5.wf K (He.ga K "Rule") "property" "cutter"
def ad_p_rsees (K : Frag) : Addr := He.ma K (He.ga K "Rule") "sees_lost"
def ad_f_rsees (K : Frag) : Addr := He5.wf K (He.ga K "Rule") "property" "sees_lost"
def ad_f_req (K : Frag) : Addr := He.ma K (He.ga K "Rule") "__eq__"
def ad_f_through (K : Frag) : Addr := He.ma K (He.ga K "Rule") "through"
def ad_O (K : Frag) : Addr := He.ga K "Company"
def ad_f_oinit (K : Frag) : Addr := He.ma K (He.ga K "Company") "__init__"
def ad_p_opeople (K : Frag) : Addr := He.ma K (He.ga K "Company") "people"
def ad_f_opeople (K : Frag) : Addr := He5.wf K (He.ga K "Company") "property" "people"
def ad_f_ocopy (K : Frag) : Addr := He.ma K (He.ga K "Company") "copy"
def ad_f_oroad (K : Frag) : Addr := He.ma K (He.ga K "Company") "road_to_reader"
def ad_rest_parts (K : Frag) : List Value := ((PySem.W.recIn K (He.ma K (He.ga K "Cutter") "parts") "property").getD []).tail
def ad_rest_rcutter (K : Frag) : List Value := ((PySem.W.recIn K (He.ma K (He.ga K "Rule") "cutter") "property").getD []).tail
def ad_rest_rsees (K : Frag) : List Value := ((PySem.W.recIn K (He.ma K (He.ga K "Rule") "sees_lost") "property").getD []).tail
def ad_rest_opeople (K : Frag) : List Value := ((PySem.W.recIn K (He.ma K (He.ga K "Company") "people") "property").getD []).tail
def ad_t_MAX_PARTS (K : Frag) : Tok := (match PySem.W.nsIn K mainGlobals "MAX_PARTS" with | some (some (.int _ t)) => t | _ => default)
def ad_t_MAX_ROW (K : Frag) : Tok := (match PySem.W.nsIn K mainGlobals "MAX_ROW" with | some (some (.int _ t)) => t | _ => default)
def ad_t_KEEP_ALL (K : Frag) : Tok := (match PySem.W.nsIn K mainGlobals "KEEP_ALL" with | some (some (.str _ t)) => t | _ => default)
def ad_t_DOTS (K : Frag) : Tok := (match PySem.W.nsIn K mainGlobals "DOTS" with | some (some (.str _ t)) => t | _ => default)
def ad_t_MAX_FRONT (K : Frag) : Tok := (match PySem.W.nsIn K mainGlobals "MAX_FRONT" with | some (some (.int _ t)) => t | _ => default)
def ad_t_MAX_BACK (K : Frag) : Tok := (match PySem.W.nsIn K mainGlobals "MAX_BACK" with | some (some (.int _ t)) => t | _ => default)
def ad_t_REACH (K : Frag) : Tok := (match PySem.W.nsIn K mainGlobals "REACH" with | some (some (.int _ t)) => t | _ => default)
def ad_t_MAX_NAME (K : Frag) : Tok := (match PySem.W.nsIn K mainGlobals "MAX_NAME" with | some (some (.int _ t)) => t | _ => default)
def ad_t_MAX_PEOPLE (K : Frag) : Tok := (match PySem.W.nsIn K mainGlobals "MAX_PEOPLE" with | some (some (.int _ t)) => t | _ => default)
def ad_t_BETWEEN_PARTS (K : Frag) : Tok := (match PySem.W.nsIn K mainGlobals "BETWEEN_PARTS" with | some (some (.str _ t)) => t | _ => default)
def ad_t_BETWEEN_CUTTERS (K : Frag) : Tok := (match PySem.W.nsIn K mainGlobals "BETWEEN_CUTTERS" with | some (some (.str _ t)) => t | _ => default)
def ad_t_ADDS (K : Frag) : Tok := (match PySem.W.nsIn K mainGlobals "ADDS" with | some (some (.str _ t)) => t | _ => default)
def ad_t_HIDES (K : Frag) : Tok := (match PySem.W.nsIn K mainGlobals "HIDES" with | some (some (.str _ t)) => t | _ => default)
def ad_t_SEES (K : Frag) : Tok := (match PySem.W.nsIn K mainGlobals "SEES" with | some (some (.str _ t)) => t | _ => default)
def ad_t_SKIPS (K : Frag) : Tok := (match PySem.W.nsIn K mainGlobals "SKIPS" with | some (some (.str _ t)) => t | _ => default)
def cs0 : List Hm.Test := [fun K => decide (PySem.W.nsIn K mainGlobals "is_part" = some (some (.ref (ad_f_is_part K)))),
  fun K => decide (PySem.W.nsIn K mainGlobals "check_parts" = some (some (.ref (ad_f_check_parts K)))),
  fun K => decide (PySem.W.nsIn K mainGlobals "has_plus" = some (some (.ref (ad_f_has_plus K)))),
  fun K => decide (PySem.W.nsIn K mainGlobals "part_places" = some (some (.ref (ad_f_part_places K)))),
  fun K => decide (PySem.W.nsIn K mainGlobals "kept_places" = some (some (.ref (ad_f_kept_places K)))),
  fun K => decide (PySem.W.nsIn K mainGlobals "table_of" = some (some (.ref (ad_f_table_of K)))),
  fun K => decide (PySem.W.nsIn K mainGlobals "keep_all" = some (some (.ref (ad_f_keep_all K)))),
  fun K => decide (PySem.W.nsIn K mainGlobals "check_cutter" = some (some (.ref (ad_f_check_cutter K)))),
  fun K => decide (PySem.W.nsIn K mainGlobals "is_name" = some (some (.ref (ad_f_is_name K)))),
  fun K => decide (PySem.W.nsIn K mainGlobals "is_ascending" = some (some (.ref (ad_f_is_ascending K)))),
  fun K => decide (PySem.W.nsIn K mainGlobals "is_people" = some (some (.ref (ad_f_is_people K)))),
  fun K => decide (PySem.W.nsIn K mainGlobals "is_some_of" = some (some (.ref (ad_f_is_some_of K)))),
  fun K => decide (PySem.W.nsIn K mainGlobals "is_turn" = some (some (.ref (ad_f_is_turn K)))),
  fun K => decide (PySem.W.nsIn K mainGlobals "is_turns" = some (some (.ref (ad_f_is_turns K)))),
  fun K => decide (PySem.W.nsIn K mainGlobals "is_copies" = some (some (.ref (ad_f_is_copies K)))),
  fun K => decide (PySem.W.nsIn K mainGlobals "in_order" = some (some (.ref (ad_f_in_order K)))),
  fun K => decide (PySem.W.nsIn K mainGlobals "check_company" = some (some (.ref (ad_f_check_company K)))),
  fun K => decide (PySem.W.nsIn K mainGlobals "check_person" = some (some (.ref (ad_f_check_person K)))),
  fun K => decide (PySem.W.nsIn K mainGlobals "check_rule" = some (some (.ref (ad_f_check_rule K)))),
  fun K => decide (PySem.W.nsIn K mainGlobals "cutter_in" = some (some (.ref (ad_f_cutter_in K))))]
def cs1 : List Hm.Test := [fun K => decide (PySem.W.nsIn K mainGlobals "rule_in" = some (some (.ref (ad_f_rule_in K)))),
  fun K => decide (PySem.W.nsIn K mainGlobals "turn_in" = some (some (.ref (ad_f_turn_in K)))),
  fun K => decide (PySem.W.nsIn K mainGlobals "cutter_text" = some (some (.ref (ad_f_cutter_text K)))),
  fun K => decide (PySem.W.nsIn K mainGlobals "rule_text" = some (some (.ref (ad_f_rule_text K)))),
  fun K => decide (PySem.W.nsIn K mainGlobals "turn_text" = some (some (.ref (ad_f_turn_text K)))),
  fun K => decide (PySem.W.nsIn K mainGlobals "read_cutter" = some (some (.ref (ad_f_read_cutter K)))),
  fun K => decide (PySem.W.nsIn K mainGlobals "read_rule" = some (some (.ref (ad_f_read_rule K)))),
  fun K => decide (PySem.W.nsIn K mainGlobals "read_turn" = some (some (.ref (ad_f_read_turn K)))),
  fun K => decide (PySem.W.nsIn K mainGlobals "lines_of" = some (some (.ref (ad_f_lines_of K)))),
  fun K => decide (PySem.W.nsIn K mainGlobals "first_line" = some (some (.ref (ad_f_first_line K)))),
  fun K => decide (PySem.W.nsIn K mainGlobals "read_line" = some (some (.ref (ad_f_read_line K)))),
  fun K => decide (PySem.W.nsIn K mainGlobals "_law_dice" = some (some (.ref (ad_f_dice K)))),
  fun K => decide (PySem.W.nsIn K mainGlobals "_law_roll" = some (some (.ref (ad_f_roll K)))),
  fun K => decide (PySem.W.nsIn K mainGlobals "_law_one_of" = some (some (.ref (ad_f_one_of K)))),
  fun K => decide (PySem.W.nsIn K mainGlobals "_law_signs" = some (some (.ref (ad_f_signs K)))),
  fun K => decide (PySem.W.nsIn K mainGlobals "_law_part" = some (some (.ref (ad_f_part K)))),
  fun K => decide (PySem.W.nsIn K mainGlobals "_law_cutter_text" = some (some (.ref (ad_f_ctext K)))),
  fun K => decide (PySem.W.nsIn K mainGlobals "_law_turn_text" = some (some (.ref (ad_f_ttext K)))),
  fun K => decide (PySem.W.nsIn K mainGlobals "_law_long_parts" = some (some (.ref (ad_f_long K)))),
  fun K => decide (PySem.W.nsIn K mainGlobals "_law_right" = some (some (.ref (ad_f_right K))))]
def cs2 : List Hm.Test := [fun K => decide (PySem.W.nsIn K mainGlobals "law" = some (some (.ref (ad_f_law K)))),
  fun K => decide (PySem.W.nsIn K mainGlobals "Cutter" = some (some (.ref (ad_C K)))),
  fun K => PySem.W.makesIn K (ad_C K),
  fun K => PySem.W.keepIn K (.ref (ad_C K)),
  fun K => PySem.W.plainGet K (ad_C K) Str.empty,
  fun K => PySem.W.hasDictIn K (ad_C K),
  fun K => PySem.W.plainOver K (ad_C K),
  fun K => decide (PySem.W.findIn K (.ref (ad_C K)) "__setattr__" = some (some (.builtin "object.__setattr__"))),
  fun K => decide (PySem.W.findIn K (.ref (ad_C K)) "_parts" = some none),
  fun K => decide (PySem.W.findIn K (.ref (ad_C K)) "_table" = some none),
  fun K => decide (PySem.W.findIn K (.ref (ad_C K)) "_keeps_all" = some none),
  fun K => decide (PySem.W.findIn K (.ref (ad_C K)) "__class__" = some (some (.builtin "object.__class__"))),
  fun K => decide (PySem.W.specialIn K (.builtin "object.__class__") "__get__" = some (some (.builtin "getset_descriptor.__get__"))),
  fun K => decide (PySem.W.takesIn K (.builtin "object.__class__") = some true),
  fun K => decide (PySem.W.mroIn K (ad_C K) (.type "object") = some true),
  fun K => decide (PySem.W.findIn K (.ref (ad_C K)) "__ne__" = some (some (.builtin "object.__ne__"))),
  fun K => PySem.W.isClsIn K (ad_C K),
  fun K => decide (PySem.W.typeIn K (.ref (ad_C K)) = some (.type "type")),
  fun K => PySem.W.readsIn K (ad_C K) (.type "type"),
  fun K => decide (PySem.W.specialIn K (.ref (ad_C K)) "__getattribute__" = some (some (.builtin "type.__getattribute__")))]
def cs3 : List Hm.Test := [fun K => PySem.W.selfFirst K (ad_C K),
  fun K => decide (PySem.W.findIn K (.ref (ad_C K)) "__init__" = some (some (.ref (ad_f_init K)))),
  fun K => PySem.W.isFn K (.ref (ad_f_init K)),
  fun K => He5.wrapB K (ad_C K) "classmethod" "classmethod.__get__" "of",
  fun K => PySem.W.fnIn K (ad_f_of K),
  fun K => He5.wrapB K (ad_C K) "classmethod" "classmethod.__get__" "of_any",
  fun K => PySem.W.fnIn K (ad_f_of_any K),
  fun K => decide (PySem.W.findIn K (.ref (ad_C K)) "parts" = some (some (.ref (ad_p_parts K)))),
  fun K => decide (PySem.W.specialIn K (.ref (ad_p_parts K)) "__get__" = some (some (.builtin "property.__get__"))),
  fun K => decide (PySem.W.takesIn K (.ref (ad_p_parts K)) = some true),
  fun K => decide (PySem.W.recIn K (ad_p_parts K) "property" = some (.ref (ad_f_parts K) :: (ad_rest_parts K))),
  fun K => decide (PySem.W.findIn K (.ref (ad_C K)) "__eq__" = some (some (.ref (ad_f_eqc K)))),
  fun K => PySem.W.isFn K (.ref (ad_f_eqc K)),
  fun K => decide (PySem.W.findIn K (.ref (ad_C K)) "__str__" = some (some (.ref (ad_f_strc K)))),
  fun K => PySem.W.isFn K (.ref (ad_f_strc K)),
  fun K => decide (PySem.W.nsIn K mainGlobals "Rule" = some (some (.ref (ad_R K)))),
  fun K => PySem.W.makesIn K (ad_R K),
  fun K => PySem.W.keepIn K (.ref (ad_R K)),
  fun K => PySem.W.plainGet K (ad_R K) Str.empty,
  fun K => PySem.W.hasDictIn K (ad_R K)]
def cs4 : List Hm.Test := [fun K => PySem.W.plainOver K (ad_R K),
  fun K => decide (PySem.W.findIn K (.ref (ad_R K)) "__setattr__" = some (some (.builtin "object.__setattr__"))),
  fun K => decide (PySem.W.findIn K (.ref (ad_R K)) "_cutter" = some none),
  fun K => decide (PySem.W.findIn K (.ref (ad_R K)) "_sees_lost" = some none),
  fun K => decide (PySem.W.findIn K (.ref (ad_R K)) "__class__" = some (some (.builtin "object.__class__"))),
  fun K => decide (PySem.W.specialIn K (.builtin "object.__class__") "__get__" = some (some (.builtin "getset_descriptor.__get__"))),
  fun K => decide (PySem.W.takesIn K (.builtin "object.__class__") = some true),
  fun K => decide (PySem.W.mroIn K (ad_R K) (.type "object") = some true),
  fun K => decide (PySem.W.findIn K (.ref (ad_R K)) "__ne__" = some (some (.builtin "object.__ne__"))),
  fun K => PySem.W.isClsIn K (ad_R K),
  fun K => decide (PySem.W.typeIn K (.ref (ad_R K)) = some (.type "type")),
  fun K => PySem.W.readsIn K (ad_R K) (.type "type"),
  fun K => decide (PySem.W.specialIn K (.ref (ad_R K)) "__getattribute__" = some (some (.builtin "type.__getattribute__"))),
  fun K => PySem.W.selfFirst K (ad_R K),
  fun K => decide (PySem.W.findIn K (.ref (ad_R K)) "__init__" = some (some (.ref (ad_f_rinit K)))),
  fun K => PySem.W.isFn K (.ref (ad_f_rinit K)),
  fun K => decide (PySem.W.findIn K (.ref (ad_R K)) "cutter" = some (some (.ref (ad_p_rcutter K)))),
  fun K => decide (PySem.W.specialIn K (.ref (ad_p_rcutter K)) "__get__" = some (some (.builtin "property.__get__"))),
  fun K => decide (PySem.W.takesIn K (.ref (ad_p_rcutter K)) = some true),
  fun K => decide (PySem.W.recIn K (ad_p_rcutter K) "property" = some (.ref (ad_f_rcutter K) :: (ad_rest_rcutter K)))]
def cs5 : List Hm.Test := [fun K => decide (PySem.W.findIn K (.ref (ad_R K)) "sees_lost" = some (some (.ref (ad_p_rsees K)))),
  fun K => decide (PySem.W.specialIn K (.ref (ad_p_rsees K)) "__get__" = some (some (.builtin "property.__get__"))),
  fun K => decide (PySem.W.takesIn K (.ref (ad_p_rsees K)) = some true),
  fun K => decide (PySem.W.recIn K (ad_p_rsees K) "property" = some (.ref (ad_f_rsees K) :: (ad_rest_rsees K))),
  fun K => decide (PySem.W.findIn K (.ref (ad_R K)) "__eq__" = some (some (.ref (ad_f_req K)))),
  fun K => PySem.W.isFn K (.ref (ad_f_req K)),
  fun K => decide (PySem.W.findIn K (.ref (ad_R K)) "through" = some (some (.ref (ad_f_through K)))),
  fun K => PySem.W.isFn K (.ref (ad_f_through K)),
  fun K => decide (PySem.W.nsIn K mainGlobals "Company" = some (some (.ref (ad_O K)))),
  fun K => PySem.W.makesIn K (ad_O K),
  fun K => PySem.W.keepIn K (.ref (ad_O K)),
  fun K => PySem.W.plainGet K (ad_O K) Str.empty,
  fun K => PySem.W.hasDictIn K (ad_O K),
  fun K => PySem.W.plainOver K (ad_O K),
  fun K => decide (PySem.W.findIn K (.ref (ad_O K)) "__setattr__" = some (some (.builtin "object.__setattr__"))),
  fun K => decide (PySem.W.findIn K (.ref (ad_O K)) "_people" = some none),
  fun K => decide (PySem.W.findIn K (.ref (ad_O K)) "_answers" = some none),
  fun K => decide (PySem.W.findIn K (.ref (ad_O K)) "_takings" = some none),
  fun K => decide (PySem.W.findIn K (.ref (ad_O K)) "_starts" = some none),
  fun K => decide (PySem.W.findIn K (.ref (ad_O K)) "_copies" = some none)]
def cs6 : List Hm.Test := [fun K => decide (PySem.W.findIn K (.ref (ad_O K)) "__class__" = some (some (.builtin "object.__class__"))),
  fun K => decide (PySem.W.specialIn K (.builtin "object.__class__") "__get__" = some (some (.builtin "getset_descriptor.__get__"))),
  fun K => decide (PySem.W.takesIn K (.builtin "object.__class__") = some true),
  fun K => decide (PySem.W.mroIn K (ad_O K) (.type "object") = some true),
  fun K => decide (PySem.W.findIn K (.ref (ad_O K)) "__ne__" = some (some (.builtin "object.__ne__"))),
  fun K => PySem.W.isClsIn K (ad_O K),
  fun K => decide (PySem.W.typeIn K (.ref (ad_O K)) = some (.type "type")),
  fun K => PySem.W.readsIn K (ad_O K) (.type "type"),
  fun K => decide (PySem.W.specialIn K (.ref (ad_O K)) "__getattribute__" = some (some (.builtin "type.__getattribute__"))),
  fun K => PySem.W.selfFirst K (ad_O K),
  fun K => decide (PySem.W.findIn K (.ref (ad_O K)) "__init__" = some (some (.ref (ad_f_oinit K)))),
  fun K => PySem.W.isFn K (.ref (ad_f_oinit K)),
  fun K => decide (PySem.W.findIn K (.ref (ad_O K)) "people" = some (some (.ref (ad_p_opeople K)))),
  fun K => decide (PySem.W.specialIn K (.ref (ad_p_opeople K)) "__get__" = some (some (.builtin "property.__get__"))),
  fun K => decide (PySem.W.takesIn K (.ref (ad_p_opeople K)) = some true),
  fun K => decide (PySem.W.recIn K (ad_p_opeople K) "property" = some (.ref (ad_f_opeople K) :: (ad_rest_opeople K))),
  fun K => decide (PySem.W.findIn K (.ref (ad_O K)) "copy" = some (some (.ref (ad_f_ocopy K)))),
  fun K => PySem.W.isFn K (.ref (ad_f_ocopy K)),
  fun K => decide (PySem.W.findIn K (.ref (ad_O K)) "road_to_reader" = some (some (.ref (ad_f_oroad K)))),
  fun K => PySem.W.isFn K (.ref (ad_f_oroad K))]
def cs7 : List Hm.Test := [fun K => PySem.W.keepIn K (.ref (ad_f_through K)),
  fun K => PySem.W.keepIn K (.ref (ad_f_ocopy K)),
  fun K => PySem.W.keepIn K (.ref (ad_f_oroad K)),
  fun K => decide (PySem.W.nsIn K mainGlobals "len" = some none),
  fun K => decide (PySem.W.nsIn K mainGlobals "int" = some none),
  fun K => decide (PySem.W.nsIn K mainGlobals "abs" = some none),
  fun K => decide (PySem.W.nsIn K mainGlobals "max" = some none),
  fun K => decide (PySem.W.nsIn K mainGlobals "min" = some none),
  fun K => decide (PySem.W.nsIn K mainGlobals "range" = some none),
  fun K => decide (PySem.W.nsIn K mainGlobals "all" = some none),
  fun K => decide (PySem.W.nsIn K mainGlobals "isinstance" = some none),
  fun K => decide (PySem.W.nsIn K mainGlobals "str" = some none),
  fun K => decide (PySem.W.nsIn K mainGlobals "repr" = some none),
  fun K => decide (PySem.W.nsIn K mainGlobals "bool" = some none),
  fun K => decide (PySem.W.nsIn K mainGlobals "list" = some none),
  fun K => decide (PySem.W.nsIn K mainGlobals "tuple" = some none),
  fun K => decide (PySem.W.nsIn K mainGlobals "enumerate" = some none),
  fun K => decide (PySem.W.nsIn K mainGlobals "zip" = some none),
  fun K => decide (PySem.W.nsIn K mainGlobals "dict" = some none),
  fun K => decide (PySem.W.nsIn K mainGlobals "sorted" = some none)]
def cs8 : List Hm.Test := [fun K => decide (PySem.W.nsIn K mainGlobals "MAX_PARTS" = some (some (.int 4 (ad_t_MAX_PARTS K)))),
  fun K => decide (PySem.W.nsIn K mainGlobals "MAX_ROW" = some (some (.int 1000 (ad_t_MAX_ROW K)))),
  fun K => decide (PySem.W.nsIn K mainGlobals "KEEP_ALL" = some (some (.str "all" (ad_t_KEEP_ALL K)))),
  fun K => decide (PySem.W.nsIn K mainGlobals "DOTS" = some (some (.str ".." (ad_t_DOTS K)))),
  fun K => decide (PySem.W.nsIn K mainGlobals "MAX_FRONT" = some (some (.int 2 (ad_t_MAX_FRONT K)))),
  fun K => decide (PySem.W.nsIn K mainGlobals "MAX_BACK" = some (some (.int 3 (ad_t_MAX_BACK K)))),
  fun K => decide (PySem.W.nsIn K mainGlobals "REACH" = some (some (.int 5 (ad_t_REACH K)))),
  fun K => decide (PySem.W.nsIn K mainGlobals "MAX_NAME" = some (some (.int 8 (ad_t_MAX_NAME K)))),
  fun K => decide (PySem.W.nsIn K mainGlobals "MAX_PEOPLE" = some (some (.int 4 (ad_t_MAX_PEOPLE K)))),
  fun K => decide (PySem.W.nsIn K mainGlobals "BETWEEN_PARTS" = some (some (.str " > " (ad_t_BETWEEN_PARTS K)))),
  fun K => decide (PySem.W.nsIn K mainGlobals "BETWEEN_CUTTERS" = some (some (.str " | " (ad_t_BETWEEN_CUTTERS K)))),
  fun K => decide (PySem.W.nsIn K mainGlobals "ADDS" = some (some (.str "adds" (ad_t_ADDS K)))),
  fun K => decide (PySem.W.nsIn K mainGlobals "HIDES" = some (some (.str "hides" (ad_t_HIDES K)))),
  fun K => decide (PySem.W.nsIn K mainGlobals "SEES" = some (some (.str "sees" (ad_t_SEES K)))),
  fun K => decide (PySem.W.nsIn K mainGlobals "SKIPS" = some (some (.str "skips" (ad_t_SKIPS K))))]
def cs : List Hm.Test := cs0 ++ cs1 ++ cs2 ++ cs3 ++ cs4 ++ cs5 ++ cs6 ++ cs7 ++ cs8
def d_is_part : He5.DefA := ⟨ad_f_is_part, "is_part", "is_part", defArgs s_is_part, defBody s_is_part, defScope s_is_part, [], []⟩
def d_check_parts : He5.DefA := ⟨ad_f_check_parts, "check_parts", "check_parts", defArgs s_check_parts, defBody s_check_parts, defScope s_check_parts, [], []⟩
def d_has_plus : He5.DefA := ⟨ad_f_has_plus, "has_plus", "has_plus", defArgs s_has_plus, defBody s_has_plus, defScope s_has_plus, [], []⟩
def d_part_places : He5.DefA := ⟨ad_f_part_places, "part_places", "part_places", defArgs s_part_places, defBody s_part_places, defScope s_part_places, [], []⟩
def d_kept_places : He5.DefA := ⟨ad_f_kept_places, "kept_places", "kept_places", defArgs s_kept_places, defBody s_kept_places, defScope s_kept_places, [], []⟩
def d_table_of : He5.DefA := ⟨ad_f_table_of, "table_of", "table_of", defArgs s_table_of, defBody s_table_of, defScope s_table_of, [], []⟩
def d_keep_all : He5.DefA := ⟨ad_f_keep_all, "keep_all", "keep_all", defArgs s_keep_all, defBody s_keep_all, defScope s_keep_all, [], []⟩
def d_check_cutter : He5.DefA := ⟨ad_f_check_cutter, "check_cutter", "check_cutter", defArgs s_check_cutter, defBody s_check_cutter, defScope s_check_cutter, [], []⟩
def d_is_name : He5.DefA := ⟨ad_f_is_name, "is_name", "is_name", defArgs s_is_name, defBody s_is_name, defScope s_is_name, [], []⟩
def d_is_ascending : He5.DefA := ⟨ad_f_is_ascending, "is_ascending", "is_ascending", defArgs s_is_ascending, defBody s_is_ascending, defScope s_is_ascending, [], []⟩
def d_is_people : He5.DefA := ⟨ad_f_is_people, "is_people", "is_people", defArgs s_is_people, defBody s_is_people, defScope s_is_people, [], []⟩
def d_is_some_of : He5.DefA := ⟨ad_f_is_some_of, "is_some_of", "is_some_of", defArgs s_is_some_of, defBody s_is_some_of, defScope s_is_some_of, [], []⟩
def d_is_turn : He5.DefA := ⟨ad_f_is_turn, "is_turn", "is_turn", defArgs s_is_turn, defBody s_is_turn, defScope s_is_turn, [], []⟩
def d_is_turns : He5.DefA := ⟨ad_f_is_turns, "is_turns", "is_turns", defArgs s_is_turns, defBody s_is_turns, defScope s_is_turns, [], []⟩
def d_is_copies : He5.DefA := ⟨ad_f_is_copies, "is_copies", "is_copies", defArgs s_is_copies, defBody s_is_copies, defScope s_is_copies, [], []⟩
def d_in_order : He5.DefA := ⟨ad_f_in_order, "in_order", "in_order", defArgs s_in_order, defBody s_in_order, defScope s_in_order, [], []⟩
def d_check_company : He5.DefA := ⟨ad_f_check_company, "check_company", "check_company", defArgs s_check_company, defBody s_check_company, defScope s_check_company, [], []⟩
def d_check_person : He5.DefA := ⟨ad_f_check_person, "check_person", "check_person", defArgs s_check_person, defBody s_check_person, defScope s_check_person, [], []⟩
def d_check_rule : He5.DefA := ⟨ad_f_check_rule, "check_rule", "check_rule", defArgs s_check_rule, defBody s_check_rule, defScope s_check_rule, [], []⟩
def d_cutter_in : He5.DefA := ⟨ad_f_cutter_in, "cutter_in", "cutter_in", defArgs s_cutter_in, defBody s_cutter_in, defScope s_cutter_in, [], []⟩
def d_rule_in : He5.DefA := ⟨ad_f_rule_in, "rule_in", "rule_in", defArgs s_rule_in, defBody s_rule_in, defScope s_rule_in, [], []⟩
def d_turn_in : He5.DefA := ⟨ad_f_turn_in, "turn_in", "turn_in", defArgs s_turn_in, defBody s_turn_in, defScope s_turn_in, [], []⟩
def d_cutter_text : He5.DefA := ⟨ad_f_cutter_text, "cutter_text", "cutter_text", defArgs s_cutter_text, defBody s_cutter_text, defScope s_cutter_text, [], []⟩
def d_rule_text : He5.DefA := ⟨ad_f_rule_text, "rule_text", "rule_text", defArgs s_rule_text, defBody s_rule_text, defScope s_rule_text, [], []⟩
def d_turn_text : He5.DefA := ⟨ad_f_turn_text, "turn_text", "turn_text", defArgs s_turn_text, defBody s_turn_text, defScope s_turn_text, [], []⟩
def d_read_cutter : He5.DefA := ⟨ad_f_read_cutter, "read_cutter", "read_cutter", defArgs s_read_cutter, defBody s_read_cutter, defScope s_read_cutter, [], []⟩
def d_read_rule : He5.DefA := ⟨ad_f_read_rule, "read_rule", "read_rule", defArgs s_read_rule, defBody s_read_rule, defScope s_read_rule, [], []⟩
def d_read_turn : He5.DefA := ⟨ad_f_read_turn, "read_turn", "read_turn", defArgs s_read_turn, defBody s_read_turn, defScope s_read_turn, [], []⟩
def d_lines_of : He5.DefA := ⟨ad_f_lines_of, "lines_of", "lines_of", defArgs s_lines_of, defBody s_lines_of, defScope s_lines_of, [], []⟩
def d_first_line : He5.DefA := ⟨ad_f_first_line, "first_line", "first_line", defArgs s_first_line, defBody s_first_line, defScope s_first_line, [], []⟩
def d_read_line : He5.DefA := ⟨ad_f_read_line, "read_line", "read_line", defArgs s_read_line, defBody s_read_line, defScope s_read_line, [], []⟩
def d_dice : He5.DefA := ⟨ad_f_dice, "_law_dice", "_law_dice", defArgs s_dice, defBody s_dice, defScope s_dice, [], []⟩
def d_roll : He5.DefA := ⟨ad_f_roll, "_law_roll", "_law_roll", defArgs s_roll, defBody s_roll, defScope s_roll, [], []⟩
def d_one_of : He5.DefA := ⟨ad_f_one_of, "_law_one_of", "_law_one_of", defArgs s_one_of, defBody s_one_of, defScope s_one_of, [], []⟩
def d_signs : He5.DefA := ⟨ad_f_signs, "_law_signs", "_law_signs", defArgs s_signs, defBody s_signs, defScope s_signs, [], []⟩
def d_part : He5.DefA := ⟨ad_f_part, "_law_part", "_law_part", defArgs s_part, defBody s_part, defScope s_part, [], []⟩
def d_ctext : He5.DefA := ⟨ad_f_ctext, "_law_cutter_text", "_law_cutter_text", defArgs s_ctext, defBody s_ctext, defScope s_ctext, [], []⟩
def d_ttext : He5.DefA := ⟨ad_f_ttext, "_law_turn_text", "_law_turn_text", defArgs s_ttext, defBody s_ttext, defScope s_ttext, [], []⟩
def d_long : He5.DefA := ⟨ad_f_long, "_law_long_parts", "_law_long_parts", defArgs s_long, defBody s_long, defScope s_long, [], []⟩
def d_right : He5.DefA := ⟨ad_f_right, "_law_right", "_law_right", defArgs s_right, defBody s_right, defScope s_right, [], []⟩
def d_law : He5.DefA := ⟨ad_f_law, "law", "law", defArgs s_law, defBody s_law, defScope s_law, [], []⟩
def d_init : He5.DefA := ⟨ad_f_init, "__init__", "Cutter.__init__", defArgs s_init, defBody s_init, defScope s_init, [], []⟩
def d_of : He5.DefA := ⟨ad_f_of, "of", "Cutter.of", defArgs s_of, defBody s_of, defScope s_of, [], []⟩
def d_of_any : He5.DefA := ⟨ad_f_of_any, "of_any", "Cutter.of_any", defArgs s_of_any, defBody s_of_any, defScope s_of_any, [], []⟩
def d_parts : He5.DefA := ⟨ad_f_parts, "parts", "Cutter.parts", defArgs s_parts, defBody s_parts, defScope s_parts, [], []⟩
def d_eqc : He5.DefA := ⟨ad_f_eqc, "__eq__", "Cutter.__eq__", defArgs s_eqc, defBody s_eqc, defScope s_eqc, [], []⟩
def d_strc : He5.DefA := ⟨ad_f_strc, "__str__", "Cutter.__str__", defArgs s_strc, defBody s_strc, defScope s_strc, [], []⟩
def d_rinit : He5.DefA := ⟨ad_f_rinit, "__init__", "Rule.__init__", defArgs s_rinit, defBody s_rinit, defScope s_rinit, [], [("sees_lost", .bl false)]⟩
def d_rcutter : He5.DefA := ⟨ad_f_rcutter, "cutter", "Rule.cutter", defArgs s_rcutter, defBody s_rcutter, defScope s_rcutter, [], []⟩
def d_rsees : He5.DefA := ⟨ad_f_rsees, "sees_lost", "Rule.sees_lost", defArgs s_rsees, defBody s_rsees, defScope s_rsees, [], []⟩
def d_req : He5.DefA := ⟨ad_f_req, "__eq__", "Rule.__eq__", defArgs s_req, defBody s_req, defScope s_req, [], []⟩
def d_through : He5.DefA := ⟨ad_f_through, "through", "Rule.through", defArgs s_through, defBody s_through, defScope s_through, [], []⟩
def d_oinit : He5.DefA := ⟨ad_f_oinit, "__init__", "Company.__init__", defArgs s_oinit, defBody s_oinit, defScope s_oinit, [], [("takings", .non), ("starts", .non), ("copies", .non)]⟩
def d_opeople : He5.DefA := ⟨ad_f_opeople, "people", "Company.people", defArgs s_opeople, defBody s_opeople, defScope s_opeople, [], []⟩
def d_ocopy : He5.DefA := ⟨ad_f_ocopy, "copy", "Company.copy", defArgs s_ocopy, defBody s_ocopy, defScope s_ocopy, [], []⟩
def d_oroad : He5.DefA := ⟨ad_f_oroad, "road_to_reader", "Company.road_to_reader", defArgs s_oroad, defBody s_oroad, defScope s_oroad, [], []⟩
def fn0 : List He5.DefA := [d_is_part, d_check_parts, d_has_plus, d_part_places, d_kept_places, d_table_of, d_keep_all, d_check_cutter, d_is_name, d_is_ascending, d_is_people, d_is_some_of, d_is_turn, d_is_turns, d_is_copies, d_in_order, d_check_company, d_check_person, d_check_rule, d_cutter_in]
def fn1 : List He5.DefA := [d_rule_in, d_turn_in, d_cutter_text, d_rule_text, d_turn_text, d_read_cutter, d_read_rule, d_read_turn, d_lines_of, d_first_line, d_read_line, d_dice, d_roll, d_one_of, d_signs, d_part, d_ctext, d_ttext, d_long, d_right]
def fn2 : List He5.DefA := [d_law, d_init, d_of, d_of_any, d_parts, d_eqc, d_strc, d_rinit, d_rcutter, d_rsees, d_req, d_through, d_oinit, d_opeople, d_ocopy, d_oroad]
def fn : List He5.DefA := fn0 ++ fn1 ++ fn2
def stay0 : List PySem.Str := ["is_part", "check_parts", "has_plus", "part_places", "kept_places", "table_of", "keep_all", "check_cutter", "is_name", "is_ascending", "is_people", "is_some_of", "is_turn", "is_turns", "is_copies", "in_order", "check_company", "check_person", "check_rule", "cutter_in", "rule_in", "turn_in", "cutter_text", "rule_text", "turn_text", "read_cutter", "read_rule", "read_turn", "lines_of", "first_line"]
def stay1 : List PySem.Str := ["read_line", "_law_dice", "_law_roll", "_law_one_of", "_law_signs", "_law_part", "_law_cutter_text", "_law_turn_text", "_law_long_parts", "_law_right", "law", "Cutter", "Rule", "Company"]
def stay : List PySem.Str := stay0 ++ stay1
abbrev R : OpenRow := OpenLaw.row PySem.Challenge.rw_namedabove_k67_texts_of_cutters_rules_an
abbrev hk : Hook := Hm.hook 5 stay cs fn
def ob (s : SharedT) : He.AlD := Hm.look 5 stay cs fn (HandSHeadRun.getT s)
theorem ob_eq (s : SharedT) : ob s = hk.obs s.abs := Hm.look_eq (HandSHeadRun.getT_eq s)
theorem run (w : World) : HandSHeadRun.RunEq R (view R.prog [98]) hk ob 20000 nms w := by
  intro os
  kernel_rfl
theorem facts {l : OpenLaw} {w : World} {K : Frag} {h : Heap} {mg : PySem.Str → Option Value} {fa : Addr} (X : K.In h) (G : h.Ns mainGlobals mg) (hfa : mg "law" = some (.ref fa)) (c : Hm.Says cs fn K) : ∀ base : Heap, K.In base → base.Ns mainGlobals mg → Ly.FnG l.prog w K mg base CX0 13 fa (K67.spLaw K) := by
  obtain ⟨fd_is_part, G_is_part⟩ := c.def_ 0 (d := d_is_part) rfl
  obtain ⟨fd_check_parts, G_check_parts⟩ := c.def_ 1 (d := d_check_parts) rfl
  obtain ⟨fd_has_plus, G_has_plus⟩ := c.def_ 2 (d := d_has_plus) rfl
  obtain ⟨fd_part_places, G_part_places⟩ := c.def_ 3 (d := d_part_places) rfl
  obtain ⟨fd_kept_places, G_kept_places⟩ := c.def_ 4 (d := d_kept_places) rfl
  obtain ⟨fd_table_of, G_table_of⟩ := c.def_ 5 (d := d_table_of) rfl
  obtain ⟨fd_keep_all, G_keep_all⟩ := c.def_ 6 (d := d_keep_all) rfl
  obtain ⟨fd_check_cutter, G_check_cutter⟩ := c.def_ 7 (d := d_check_cutter) rfl
  obtain ⟨fd_is_name, G_is_name⟩ := c.def_ 8 (d := d_is_name) rfl
  obtain ⟨fd_is_ascending, G_is_ascending⟩ := c.def_ 9 (d := d_is_ascending) rfl
  obtain ⟨fd_is_people, G_is_people⟩ := c.def_ 10 (d := d_is_people) rfl
  obtain ⟨fd_is_some_of, G_is_some_of⟩ := c.def_ 11 (d := d_is_some_of) rfl
  obtain ⟨fd_is_turn, G_is_turn⟩ := c.def_ 12 (d := d_is_turn) rfl
  obtain ⟨fd_is_turns, G_is_turns⟩ := c.def_ 13 (d := d_is_turns) rfl
  obtain ⟨fd_is_copies, G_is_copies⟩ := c.def_ 14 (d := d_is_copies) rfl
  obtain ⟨fd_in_order, G_in_order⟩ := c.def_ 15 (d := d_in_order) rfl
  obtain ⟨fd_check_company, G_check_company⟩ := c.def_ 16 (d := d_check_company) rfl
  obtain ⟨fd_check_person, G_check_person⟩ := c.def_ 17 (d := d_check_person) rfl
  obtain ⟨fd_check_rule, G_check_rule⟩ := c.def_ 18 (d := d_check_rule) rfl
  obtain ⟨fd_cutter_in, G_cutter_in⟩ := c.def_ 19 (d := d_cutter_in) rfl
  obtain ⟨fd_rule_in, G_rule_in⟩ := c.def_ 20 (d := d_rule_in) rfl
  obtain ⟨fd_turn_in, G_turn_in⟩ := c.def_ 21 (d := d_turn_in) rfl
  obtain ⟨fd_cutter_text, G_cutter_text⟩ := c.def_ 22 (d := d_cutter_text) rfl
  obtain ⟨fd_rule_text, G_rule_text⟩ := c.def_ 23 (d := d_rule_text) rfl
  obtain ⟨fd_turn_text, G_turn_text⟩ := c.def_ 24 (d := d_turn_text) rfl
  obtain ⟨fd_read_cutter, G_read_cutter⟩ := c.def_ 25 (d := d_read_cutter) rfl
  obtain ⟨fd_read_rule, G_read_rule⟩ := c.def_ 26 (d := d_read_rule) rfl
  obtain ⟨fd_read_turn, G_read_turn⟩ := c.def_ 27 (d := d_read_turn) rfl
  obtain ⟨fd_lines_of, G_lines_of⟩ := c.def_ 28 (d := d_lines_of) rfl
  obtain ⟨fd_first_line, G_first_line⟩ := c.def_ 29 (d := d_first_line) rfl
  obtain ⟨fd_read_line, G_read_line⟩ := c.def_ 30 (d := d_read_line) rfl
  obtain ⟨fd_dice, G_dice⟩ := c.def_ 31 (d := d_dice) rfl
  obtain ⟨fd_roll, G_roll⟩ := c.def_ 32 (d := d_roll) rfl
  obtain ⟨fd_one_of, G_one_of⟩ := c.def_ 33 (d := d_one_of) rfl
  obtain ⟨fd_signs, G_signs⟩ := c.def_ 34 (d := d_signs) rfl
  obtain ⟨fd_part, G_part⟩ := c.def_ 35 (d := d_part) rfl
  obtain ⟨fd_ctext, G_ctext⟩ := c.def_ 36 (d := d_ctext) rfl
  obtain ⟨fd_ttext, G_ttext⟩ := c.def_ 37 (d := d_ttext) rfl
  obtain ⟨fd_long, G_long⟩ := c.def_ 38 (d := d_long) rfl
  obtain ⟨fd_right, G_right⟩ := c.def_ 39 (d := d_right) rfl
  obtain ⟨fd_law, G_law⟩ := c.def_ 40 (d := d_law) rfl
  obtain ⟨fd_init, G_init⟩ := c.def_ 41 (d := d_init) rfl
  obtain ⟨fd_of, G_of⟩ := c.def_ 42 (d := d_of) rfl
  obtain ⟨fd_of_any, G_of_any⟩ := c.def_ 43 (d := d_of_any) rfl
  obtain ⟨fd_parts, G_parts⟩ := c.def_ 44 (d := d_parts) rfl
  obtain ⟨fd_eqc, G_eqc⟩ := c.def_ 45 (d := d_eqc) rfl
  obtain ⟨fd_strc, G_strc⟩ := c.def_ 46 (d := d_strc) rfl
  obtain ⟨fd_rinit, G_rinit⟩ := c.def_ 47 (d := d_rinit) rfl
  obtain ⟨fd_rcutter, G_rcutter⟩ := c.def_ 48 (d := d_rcutter) rfl
  obtain ⟨fd_rsees, G_rsees⟩ := c.def_ 49 (d := d_rsees) rfl
  obtain ⟨fd_req, G_req⟩ := c.def_ 50 (d := d_req) rfl
  obtain ⟨fd_through, G_through⟩ := c.def_ 51 (d := d_through) rfl
  obtain ⟨fd_oinit, G_oinit⟩ := c.def_ 52 (d := d_oinit) rfl
  obtain ⟨fd_opeople, G_opeople⟩ := c.def_ 53 (d := d_opeople) rfl
  obtain ⟨fd_ocopy, G_ocopy⟩ := c.def_ 54 (d := d_ocopy) rfl
  obtain ⟨fd_oroad, G_oroad⟩ := c.def_ 55 (d := d_oroad) rfl
  exact all_mk X G hfa (of_decide_eq_true (c.test 0 rfl)) (of_decide_eq_true (c.test 1 rfl)) (of_decide_eq_true (c.test 2 rfl)) (of_decide_eq_true (c.test 3 rfl)) (of_decide_eq_true (c.test 4 rfl)) (of_decide_eq_true (c.test 5 rfl)) (of_decide_eq_true (c.test 6 rfl)) (of_decide_eq_true (c.test 7 rfl)) (of_decide_eq_true (c.test 8 rfl)) (of_decide_eq_true (c.test 9 rfl)) (of_decide_eq_true (c.test 10 rfl)) (of_decide_eq_true (c.test 11 rfl)) (of_decide_eq_true (c.test 12 rfl)) (of_decide_eq_true (c.test 13 rfl)) (of_decide_eq_true (c.test 14 rfl)) (of_decide_eq_true (c.test 15 rfl)) (of_decide_eq_true (c.test 16 rfl)) (of_decide_eq_true (c.test 17 rfl)) (of_decide_eq_true (c.test 18 rfl)) (of_decide_eq_true (c.test 19 rfl)) (of_decide_eq_true (c.test 20 rfl)) (of_decide_eq_true (c.test 21 rfl)) (of_decide_eq_true (c.test 22 rfl)) (of_decide_eq_true (c.test 23 rfl)) (of_decide_eq_true (c.test 24 rfl)) (of_decide_eq_true (c.test 25 rfl)) (of_decide_eq_true (c.test 26 rfl)) (of_decide_eq_true (c.test 27 rfl)) (of_decide_eq_true (c.test 28 rfl)) (of_decide_eq_true (c.test 29 rfl)) (of_decide_eq_true (c.test 30 rfl)) (of_decide_eq_true (c.test 31 rfl)) (of_decide_eq_true (c.test 32 rfl)) (of_decide_eq_true (c.test 33 rfl)) (of_decide_eq_true (c.test 34 rfl)) (of_decide_eq_true (c.test 35 rfl)) (of_decide_eq_true (c.test 36 rfl)) (of_decide_eq_true (c.test 37 rfl)) (of_decide_eq_true (c.test 38 rfl)) (of_decide_eq_true (c.test 39 rfl)) (of_decide_eq_true (c.test 40 rfl)) (of_decide_eq_true (c.test 41 rfl)) (c.test 42 rfl) (c.test 43 rfl) (c.test 44 rfl) (c.test 45 rfl) (c.test 46 rfl) (of_decide_eq_true (c.test 47 rfl)) (of_decide_eq_true (c.test 48 rfl)) (of_decide_eq_true (c.test 49 rfl)) (of_decide_eq_true (c.test 50 rfl)) (of_decide_eq_true (c.test 51 rfl)) (of_decide_eq_true (c.test 52 rfl)) (of_decide_eq_true (c.test 53 rfl)) (of_decide_eq_true (c.test 54 rfl)) (of_decide_eq_true (c.test 55 rfl)) (c.test 56 rfl) (of_decide_eq_true (c.test 57 rfl)) (c.test 58 rfl) (of_decide_eq_true (c.test 59 rfl)) (c.test 60 rfl) (of_decide_eq_true (c.test 61 rfl)) (c.test 62 rfl) (c.test 63 rfl) (c.test 64 rfl) ((He5.wrapB_ok (c.test 63 rfl)).1) ((He5.wrapB_ok (c.test 63 rfl)).2) (c.test 65 rfl) (c.test 66 rfl) ((He5.wrapB_ok (c.test 65 rfl)).1) ((He5.wrapB_ok (c.test 65 rfl)).2) (of_decide_eq_true (c.test 67 rfl)) (of_decide_eq_true (c.test 68 rfl)) (of_decide_eq_true (c.test 69 rfl)) (of_decide_eq_true (c.test 70 rfl)) (of_decide_eq_true (c.test 71 rfl)) (c.test 72 rfl) (of_decide_eq_true (c.test 73 rfl)) (c.test 74 rfl) (of_decide_eq_true (c.test 75 rfl)) (c.test 76 rfl) (c.test 77 rfl) (c.test 78 rfl) (c.test 79 rfl) (c.test 80 rfl) (of_decide_eq_true (c.test 81 rfl)) (of_decide_eq_true (c.test 82 rfl)) (of_decide_eq_true (c.test 83 rfl)) (of_decide_eq_true (c.test 84 rfl)) (of_decide_eq_true (c.test 85 rfl)) (of_decide_eq_true (c.test 86 rfl)) (of_decide_eq_true (c.test 87 rfl)) (of_decide_eq_true (c.test 88 rfl)) (c.test 89 rfl) (of_decide_eq_true (c.test 90 rfl)) (c.test 91 rfl) (of_decide_eq_true (c.test 92 rfl)) (c.test 93 rfl) (of_decide_eq_true (c.test 94 rfl)) (c.test 95 rfl) (of_decide_eq_true (c.test 96 rfl)) (of_decide_eq_true (c.test 97 rfl)) (of_decide_eq_true (c.test 98 rfl)) (of_decide_eq_true (c.test 99 rfl)) (of_decide_eq_true (c.test 100 rfl)) (of_decide_eq_true (c.test 101 rfl)) (of_decide_eq_true (c.test 102 rfl)) (of_decide_eq_true (c.test 103 rfl)) (of_decide_eq_true (c.test 104 rfl)) (c.test 105 rfl) (of_decide_eq_true (c.test 106 rfl)) (c.test 107 rfl) (of_decide_eq_true (c.test 108 rfl)) (c.test 109 rfl) (c.test 110 rfl) (c.test 111 rfl) (c.test 112 rfl) (c.test 113 rfl) (of_decide_eq_true (c.test 114 rfl)) (of_decide_eq_true (c.test 115 rfl)) (of_decide_eq_true (c.test 116 rfl)) (of_decide_eq_true (c.test 117 rfl)) (of_decide_eq_true (c.test 118 rfl)) (of_decide_eq_true (c.test 119 rfl)) (of_decide_eq_true (c.test 120 rfl)) (of_decide_eq_true (c.test 121 rfl)) (of_decide_eq_true (c.test 122 rfl)) (of_decide_eq_true (c.test 123 rfl)) (of_decide_eq_true (c.test 124 rfl)) (c.test 125 rfl) (of_decide_eq_true (c.test 126 rfl)) (c.test 127 rfl) (of_decide_eq_true (c.test 128 rfl)) (c.test 129 rfl) (of_decide_eq_true (c.test 130 rfl)) (c.test 131 rfl) (of_decide_eq_true (c.test 132 rfl)) (of_decide_eq_true (c.test 133 rfl)) (of_decide_eq_true (c.test 134 rfl)) (of_decide_eq_true (c.test 135 rfl)) (of_decide_eq_true (c.test 136 rfl)) (c.test 137 rfl) (of_decide_eq_true (c.test 138 rfl)) (c.test 139 rfl) (c.test 140 rfl) (c.test 141 rfl) (c.test 142 rfl) (of_decide_eq_true (c.test 143 rfl)) (of_decide_eq_true (c.test 144 rfl)) (of_decide_eq_true (c.test 145 rfl)) (of_decide_eq_true (c.test 146 rfl)) (of_decide_eq_true (c.test 147 rfl)) (of_decide_eq_true (c.test 148 rfl)) (of_decide_eq_true (c.test 149 rfl)) (of_decide_eq_true (c.test 150 rfl)) (of_decide_eq_true (c.test 151 rfl)) (of_decide_eq_true (c.test 152 rfl)) (of_decide_eq_true (c.test 153 rfl)) (of_decide_eq_true (c.test 154 rfl)) (of_decide_eq_true (c.test 155 rfl)) (of_decide_eq_true (c.test 156 rfl)) (of_decide_eq_true (c.test 157 rfl)) (of_decide_eq_true (c.test 158 rfl)) (of_decide_eq_true (c.test 159 rfl)) (of_decide_eq_true (c.test 160 rfl)) (of_decide_eq_true (c.test 161 rfl)) (of_decide_eq_true (c.test 162 rfl)) (of_decide_eq_true (c.test 163 rfl)) (of_decide_eq_true (c.test 164 rfl)) (of_decide_eq_true (c.test 165 rfl)) (of_decide_eq_true (c.test 166 rfl)) (of_decide_eq_true (c.test 167 rfl)) (of_decide_eq_true (c.test 168 rfl)) (of_decide_eq_true (c.test 169 rfl)) (of_decide_eq_true (c.test 170 rfl)) (of_decide_eq_true (c.test 171 rfl)) (of_decide_eq_true (c.test 172 rfl)) (of_decide_eq_true (c.test 173 rfl)) (of_decide_eq_true (c.test 174 rfl)) (He5.fun_of G_is_part) (He5.fun_of G_check_parts) (He5.fun_of G_has_plus) (He5.fun_of G_part_places) (He5.fun_of G_kept_places) (He5.fun_of G_table_of) (He5.fun_of G_keep_all) (He5.fun_of G_check_cutter) (He5.fun_of G_is_name) (He5.fun_of G_is_ascending) (He5.fun_of G_is_people) (He5.fun_of G_is_some_of) (He5.fun_of G_is_turn) (He5.fun_of G_is_turns) (He5.fun_of G_is_copies) (He5.fun_of G_in_order) (He5.fun_of G_check_company) (He5.fun_of G_check_person) (He5.fun_of G_check_rule) (He5.fun_of G_cutter_in) (He5.fun_of G_rule_in) (He5.fun_of G_turn_in) (He5.fun_of G_cutter_text) (He5.fun_of G_rule_text) (He5.fun_of G_turn_text) (He5.fun_of G_read_cutter) (He5.fun_of G_read_rule) (He5.fun_of G_read_turn) (He5.fun_of G_lines_of) (He5.fun_of G_first_line) (He5.fun_of G_read_line) (He5.fun_of G_dice) (He5.fun_of G_roll) (He5.fun_of G_one_of) (He5.fun_of G_signs) (He5.fun_of G_part) (He5.fun_of G_ctext) (He5.fun_of G_ttext) (He5.fun_of G_long) (He5.fun_of G_right) (He5.fun_of G_law) (He5.fun_of G_init) (He5.fun_of G_of) (He5.fun_of G_of_any) (He5.fun_of G_parts) (He5.fun_of G_eqc) (He5.fun_of G_strc) G_rinit (He5.fun_of G_rcutter) (He5.fun_of G_rsees) (He5.fun_of G_req) (He5.fun_of G_through) G_oinit (He5.fun_of G_opeople) (He5.fun_of G_ocopy) (He5.fun_of G_oroad)
end K67.HD
open PySem PySem.W PySem.Calls PyProof.Rows
set_option maxHeartbeats 0 in
theorem PySem.Challenge.cw_namedabove_k67_texts_of_cutters_rules_an_holds : PySem.Challenge.rw_namedabove_k67_texts_of_cutters_rules_an.Holds := by
  w_on; o_law
  refine HandSHeadRun.head_any (r := OpenLaw.row PySem.Challenge.rw_namedabove_k67_texts_of_cutters_rules_an) (q := view (OpenLaw.row PySem.Challenge.rw_namedabove_k67_texts_of_cutters_rules_an).prog [98]) (H := K67.HD.hk) (ob := K67.HD.ob) (M := 20000) (loose := K67.HD.nms) (d := HandSHeadRun.topDef (OpenLaw.row PySem.Challenge.rw_namedabove_k67_texts_of_cutters_rules_an).prog 98) (kwd := []) K67.HD.ob_eq
    (by kernel_rfl) (fun s => by kernel_rfl) K67.HD.run (by kernel_rfl) (by kernel_rfl) (by kernel_rfl) (by rfl) (by first | assumption | decide +kernel) (by decide +kernel) ⟨rfl, rfl, rfl, rfl, rfl, by decide +kernel⟩ ?hw ?hc
  case hw => w_witness2
  case hc =>
    refine Ly.walk_ofH (l := PySem.Challenge.rw_namedabove_k67_texts_of_cutters_rules_an) (n := 63) (k := 13) rfl (by decide) (by kernel_rfl) ⟨rfl, by decide, by decide⟩ ?F
    intro w mg fa h Y G hmg0
    obtain ⟨K, KX, c⟩ := Y
    have e : (HandSHeadRun.topDef (OpenLaw.row PySem.Challenge.rw_namedabove_k67_texts_of_cutters_rules_an).prog 98).name = ("law" : PySem.Str) := by kernel_rfl
    rw [e] at hmg0
    exact ⟨K, K67.spLaw K, KX, fun H a ns hl _ hS => ⟨a, ns, rfl, hS, hl, fun _ => rfl⟩, K67.HD.facts (l := PySem.Challenge.rw_namedabove_k67_texts_of_cutters_rules_an) (w := w) KX G hmg0 c⟩
