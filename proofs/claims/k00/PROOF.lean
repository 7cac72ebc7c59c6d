import PyProof.Rows.All
import Wide.All
import OpenK.AllK
import Wide.FinOn
import HandS.ForMost
import HandS.IsInst
import HandS.Style
import HandS.Wide
import HandS.Star
import HandS.Property
import HandS.ClsMeth
import HandS.OwnEq
import HandS.Conv
import KE.GoesEnum
import HandS.Zip
import HandS.ExcInit
import HandS.ExcField
import HandS.TryOnly
import HandS.WordsExc
import KE.KExcInit
import HandS.ExcIs
import HandS.ExcValue
import HandS.DictComp
import KE.KExcIs
import PyProof.ExcBaseAll.LookupError
import HandS.Iter
import PySem.Challenge.RW_namedabove_k00_errors_and_what_they_keep
set_option Elab.async false
set_option linter.all false
set_option maxRecDepth 100000
set_option maxHeartbeats 4000000
/-! own layer: flat rules, what a list of three numbers keeps -/
namespace Ly
open PySem PySem.Spec PyProof.Rows L2

/-- all but d stands -/
def Chg (d : Addr) (H H' : Hp) : Prop := ∀ x o, x ≠ d → H x = some o → H' x = some o
theorem Chg.refl (d : Addr) (H : Hp) : Chg d H H := fun _ _ _ h => h
theorem Chg.trans {d : Addr} {H H1 H2 : Hp} (a : Chg d H H1) (b : Chg d H1 H2) : Chg d H H2 := fun x o n h => b x o n (a x o n h)
theorem Chg.of {d : Addr} {H H' : Hp} (s : Same H H') : Chg d H H' := fun x o _ h => s x o h
theorem Chg.upd {d : Addr} {H H' : Hp} {o : HO} (c : Chg d H H') : Chg d H (upd H' d o) := fun x u n h => by
  rw [upd_ne n]
  exact c x u n h
theorem same_new {H : Hp} {p : Addr} {o : HO} (h : H p = none) : Same H (upd H p o) := fun b x e => by
  rw [upd_ne (ne_of_none e h)]
  exact e
theorem Chg.new {d p : Addr} {H H' : Hp} {o : HO} (c : Chg d H H') (h : H' p = none) : Chg d H (L2.upd H' p o) := c.trans (.of (same_new h))

/-! ### rules with flat readings -/
section
variable {X : Cx}
theorem call_intI : CallR X (.type "int") (fun xs H Q => ∃ i, xs = [.int i] ∧ Q (.int i) H) := fun pins s σ H xs us Q I r ⟨i, e, q⟩ => call_int1 pins s σ H xs us Q I r (.inl ⟨i, e, q⟩)
theorem call_intB : CallR X (.type "int") (fun xs H Q => ∃ b : Bool, xs = [.bl b] ∧ Q (.int (if b then 1 else 0)) H) := fun pins s σ H xs us Q I r ⟨i, e, q⟩ => call_int1 pins s σ H xs us Q I r (.inr ⟨i, e, q⟩)
theorem call_lenL : CallR X (.builtin "len") (fun xs H Q => ∃ p ys, xs = [.ref p] ∧ SqL X.K H p ys ∧ Q (.int ys.length) H) := fun pins s σ H xs us Q I r ⟨p, ys, e, h, q⟩ => call_len_seq pins s σ H xs us Q I r ⟨p, ys, e, .inl h, q⟩
theorem call_lenT : CallR X (.builtin "len") (fun xs H Q => ∃ p ys, xs = [.ref p] ∧ SqT X.K H p ys ∧ Q (.int ys.length) H) := fun pins s σ H xs us Q I r ⟨p, ys, e, h, q⟩ => call_len_seq pins s σ H xs us Q I r ⟨p, ys, e, .inr h, q⟩
/-- powers of great numbers -/
def CPw (i j : Int) : Prop := 0 ≤ j ∧ (Builtin.Int.intBits i : Int) * j ≤ 2 ^ 27
theorem op_powW : OpR X (binaryOp .Pow) (rI CPw fun i j => .int (i ^ j.toNat)) := opI fun _ _ _ _ _ _ _ hc q => pow_int hc.1 hc.2 q
theorem call_reprB : CallR X (.builtin "repr") (fun xs H Q => ∃ b : Bool, xs = [.bl b] ∧ Q (.str (if b then "True" else "False")) H) := by
  intro pins s σ H xs us Q I r h
  obtain ⟨b, rfl, q⟩ := h
  obtain ⟨u, rfl, r1⟩ := vals1 r
  cases r1
  exact PySem.P.repr_of_bool ⟨.str (if b then "True" else "False"), H, I.tok _, ⟨_, rfl⟩, q⟩
end

/-! ### the three numbers of the dice -/
structure DB (a b c : Int) : Prop where
  a0 : 0 ≤ a
  aB : a.natAbs < 2 ^ 2000
  b0 : 0 ≤ b
  b1 : b < 2305843009213693951
  c0 : 0 ≤ c
def Dice (H : Hp) (d : Addr) : Prop := ∃ a b c : Int, H d = some (.lst [.int a, .int b, .int c]) ∧ DB a b c
theorem Dice.keep {H H' : Hp} {d : Addr} (s : Same H H') (h : Dice H d) : Dice H' d := by
  obtain ⟨a, b, c, e, D⟩ := h
  exact ⟨a, b, c, s _ _ e, D⟩
theorem Dice.chg {H H' : Hp} {d p : Addr} (s : Chg p H H') (n : d ≠ p) (h : Dice H d) : Dice H' d := by
  obtain ⟨a, b, c, e, D⟩ := h
  exact ⟨a, b, c, s _ _ n e, D⟩
theorem great_ok (x : Int) : 0 ≤ x % ((10 : Int) ^ (60 : Int).toNat) ^ (10 : Int).toNat ∧ (x % ((10 : Int) ^ (60 : Int).toNat) ^ (10 : Int).toNat).natAbs < 2 ^ 2000 := by
  have p : (0 : Int) < ((10 : Int) ^ (60 : Int).toNat) ^ (10 : Int).toNat := by decide +kernel
  have h0 := Int.emod_nonneg x (Int.ne_of_gt p)
  have h1 := Int.emod_lt_of_pos x p
  refine ⟨h0, ?_⟩
  have q : ((10 : Int) ^ (60 : Int).toNat) ^ (10 : Int).toNat < ((2 ^ 2000 : Nat) : Int) := by decide +kernel
  generalize ((10 : Int) ^ (60 : Int).toNat) ^ (10 : Int).toNat = m at *
  generalize (2 ^ 2000 : Nat) = n at *
  omega
theorem less_ok {x y : Int} (hx : 0 ≤ x) (hb : x.natAbs < 2 ^ 2000) (hy : 0 ≤ y) (h : y ≤ x) : y.natAbs < 2 ^ 2000 := by
  generalize (2 ^ 2000 : Nat) = n at *
  omega

/-! ### promises -/
def spDice (K : PySem.W.Frag) : Sp := fun vs H Q _ => ∃ (a : Addr) (ns : List Int) (k : Nat), vs = [.ref a, .int k] ∧ SqL K H a (ns.map V.int) ∧ ns.length ≤ 63 ∧ k < 64 ∧
  ∀ H' p, Same H H' → H p = none → Dice H' p → Q (.ref p) H'
def spRoll : Sp := fun vs H Q _ => ∃ (d : Addr) (n : Int), vs = [.ref d, .int n] ∧ Dice H d ∧ 0 < n ∧ n < 2 ^ 200 ∧ ∀ H' r, Chg d H H' → Dice H' d → 0 ≤ r → r < n → Q (.int r) H'
/-- an item of a list, or a sign of a text -/
def spOneL (K : PySem.W.Frag) : Sp := fun vs H Q _ => ∃ (d a : Addr) (xs : List V), vs = [.ref d, .ref a] ∧ Dice H d ∧ a ≠ d ∧ SqL K H a xs ∧ 0 < xs.length ∧ xs.length < 1000 ∧
  ∀ H' x, Chg d H H' → Dice H' d → x ∈ xs → Q x H'
def spOneS : Sp := fun vs H Q _ => ∃ (d : Addr) (z : Str), vs = [.ref d, .str z] ∧ Dice H d ∧ 0 < z.length ∧ z.length < 1000 ∧
  ∀ H' c, Chg d H H' → Dice H' d → c ∈ z.cps.toList → Q (.str ⟨#[c]⟩) H'
theorem Chg.seq {K : PySem.W.Frag} {H H' : Hp} {d a : Addr} {xs : List V} (e : Chg d H H') (n : a ≠ d) (h : SqL K H a xs) : SqL K H' a xs := by
  rcases h with (h | ⟨o, h⟩) | h
  · exact .inl (.inl (e _ _ n h))
  · exact .inl (.inr ⟨o, e _ _ n h⟩)
  · exact .inr h
end Ly
namespace Ly
open PySem PySem.Spec PyProof.Rows L2
/-- a value with its heap, told by P alone -/
theorem cutE {te : TE} {σ : L2.St} {H : Hp} {Q : VK} (P : V → Hp → Prop) (h : ∀ Q' : VK, (∀ v H', P v H' → Q' v H') → te σ H Q') (k : ∀ v H', P v H' → Q v H') : te σ H Q := h Q k
theorem cutT {te : TT} {σ : L2.St} {H : Hp} {Q : Bool → Hp → Prop} (P : Bool → Hp → Prop) (h : ∀ Q' : Bool → Hp → Prop, (∀ v H', P v H' → Q' v H') → te σ H Q') (k : ∀ v H', P v H' → Q v H') : te σ H Q := h Q k
/-- a def of the top: where it stands, how it is called -/
structure Df (K : PySem.W.Frag) (mg : Str → Option Value) (x : Str) (st : Stmt) (ps : List Str) (f : Addr) (fd : FuncData) : Prop where
  F : Fun K x x st f fd
  b : Binds K fd ps []
  g : mg x = some (.ref f)
theorem Df.kp {K : PySem.W.Frag} {mg : Str → Option Value} {x : Str} {st : Stmt} {ps : List Str} {f : Addr} {fd : FuncData} (D : Df K mg x st ps f fd) : PySem.W.keepIn K (.ref f) = true := D.F.kp
end Ly
namespace Ly
open PySem PySem.Spec PyProof.Rows L2
/-- x = e, its value told by P alone -/
theorem asgS {te : TE} {i : Nat} {t : TS} {D : Ends} {σ : L2.St} {H : Hp} (P : V → Hp → Prop) (h : ∀ Q' : VK, (∀ v H', P v H' → Q' v H') → te σ H Q') (k : ∀ v H', P v H' → t D (σ.set i (some v)) H') : tSeq (tAsg te (gName i)) t D σ H := h _ k
/-- if c: .. told by what holds of the test -/
theorem cutR {te : TE} {D : Ends} {σ : L2.St} {H : Hp} (P : V → Hp → Prop) (h : ∀ Q' : VK, (∀ v H', P v H' → Q' v H') → te σ H Q') (k : ∀ v H', P v H' → D.rt v H') : tRet te D σ H := h _ k
end Ly
namespace Ly
open PySem PySem.Spec PyProof.Rows L2
structure Cl (P : Program) (w : World) (K : PySem.W.Frag) (mg : Str → Option Value) (base : Heap) (x : Str) (k : Nat) (f : Addr) (fd : FuncData) (ps : List Str) (sp : Sp) : Prop where
  ok : FnOk P w K mg base CX0 k f fd ps sp
  g : mg x = some (.ref f)
  kp : PySem.W.keepIn K (.ref f) = true
  b : Binds K fd ps []
theorem Df.cl {P : Program} {w : World} {K : PySem.W.Frag} {mg : Str → Option Value} {base : Heap} {x : Str} {k : Nat} {st : Stmt} {ps : List Str} {f : Addr} {fd : FuncData} {sp : Sp} (D : Df K mg x st ps f fd) (o : FnOk P w K mg base CX0 k f fd ps sp) : Cl P w K mg base x k f fd ps sp := ⟨o, D.g, D.kp, D.b⟩
/-! ### texts of signs -/
theorem str_len (z : Str) : z.cps.toList.length = z.length := by
  show z.cps.toList.length = z.cps.size
  simp
theorem sz1000 {n : Nat} (h : n < 1000) : n ≤ sizeLine := Nat.le_of_lt (small1000 (Nat.le_of_lt h))
/-- the built-in class of a value's type, asked -/
def TyB (K : PySem.W.Frag) (H : Hp) (x : V) (t : String) : Prop := TyX K H x (.type t)
end Ly
namespace Ly
open PySem PySem.Spec PyProof.Rows L2
theorem at_nat {α : Type} {xs : List α} {i : Int} {v : α} (h0 : 0 ≤ i) (h : xs[i.toNat]? = some v) : atI xs i = some v := by
  have e := atI_nat h
  rwa [Int.toNat_of_nonneg h0] at e
end Ly
namespace Ly
open PySem PySem.Spec PyProof.Rows L2
/-- what a comprehension's loop asks of its turns -/
abbrev LcW (J : It) (g : TG) (tt : TT) (te : TE) (vs : List Nat) (σ : L2.St) (H1 : Hp) (D : Addr) (Qd : Hp → Prop) : Prop :=
  ∃ W : Nat → Nat → Hp → Prop, (∃ m, W 0 m (upd H1 D (.lst []))) ∧ (∀ i m H, W i m H → (J.stop i H ∧ Qd H) ∨ (J.go i H ∧ ∃ Nx : Hp → Prop,
    (∀ H', Nx H' → ∃ m', m' < m ∧ W (i + 1) m' H') ∧ (∀ x H', J.yld i H x H' → g x (wipe σ vs) H' fun σ2 H2 => wipe σ2 vs = wipe σ vs ∧
      tt σ2 H2 fun b H3 => if b = true then te σ2 H3 fun y H4 => ∃ acc, H4 D = some (.lst acc) ∧ acc.length < sizeLine ∧ Nx (upd H4 D (.lst (acc ++ [y]))) else Nx H3)))
theorem lc_gen {J : It} {n : Nat} {g : TG} {tt : TT} {te : TE} {vs : List Nat} {σ : L2.St} {H1 : Hp} {D : Addr} {Qd : Hp → Prop} (Pv : Nat → Hp → Prop) (h0 : Pv 0 (upd H1 D (.lst [])))
    (hgo : ∀ i H, i < n → Pv i H → J.go i H) (hst : ∀ H, Pv n H → J.stop n H)
    (hs : ∀ i x H H', i < n → Pv i H → J.yld i H x H' → g x (wipe σ vs) H' fun σ2 H2 => wipe σ2 vs = wipe σ vs ∧ tt σ2 H2 fun b H3 => if b = true then
      te σ2 H3 fun y H4 => ∃ acc, H4 D = some (.lst acc) ∧ acc.length < sizeLine ∧ Pv (i + 1) (upd H4 D (.lst (acc ++ [y]))) else Pv (i + 1) H3)
    (hd : ∀ H, Pv n H → Qd H) : LcW J g tt te vs σ H1 D Qd := by
  refine ⟨fun j left H => left + j = n ∧ Pv j H, ⟨n, by omega, h0⟩, ?_⟩
  rintro i m H ⟨em, p⟩
  rcases Nat.lt_or_ge i n with hlt | hge
  · exact .inr ⟨hgo i H hlt p, Pv (i + 1), fun H' p' => ⟨m - 1, by omega, by omega, p'⟩, fun x H' y => hs i x H H' hlt p y⟩
  · have e : i = n := by omega
    subst e
    exact .inl ⟨hst H p, hd H p⟩
/-- one sign against one sign -/
theorem sign_lt (a b : Nat) : decide ((⟨#[a]⟩ : Str).cps.toList < (⟨#[b]⟩ : Str).cps.toList) = decide (a < b) := by
  rw [decide_eq_decide]
  show ([a] : List Nat) < [b] ↔ a < b
  constructor
  · intro h
    rcases (List.cons_lt_cons_iff).mp h with h | ⟨_, h⟩
    · exact h
    · exact absurd h (List.not_lt_nil _)
  · exact fun h => List.cons_lt_cons_iff.mpr (.inl h)
end Ly
namespace Ly
open PySem PySem.Spec PyProof.Rows L2
theorem join_cps : ∀ ys : List Str, (Str.join Str.empty ys).cps.toList = ys.flatMap fun y => y.cps.toList
  | [] => rfl
  | [x] => by
    show x.cps.toList = _
    simp
  | x :: y :: r => by
    have h := join_cps (y :: r)
    show ((x ++ Str.empty ++ Str.join Str.empty (y :: r)) : Str).cps.toList = _
    rw [Str.cps_append, Str.append_empty, Array.toList_append, h]
    rfl
theorem txt_join (ys : List Str) : (Txt.join Str.empty ys).cps.toList = ys.flatMap fun y => y.cps.toList := by
  rw [show Txt.join Str.empty ys = Str.join Str.empty ys from StrLaws.glued_eq_join _ _, join_cps]
theorem app_cps (a b : Str) : (a ++ b).cps.toList = a.cps.toList ++ b.cps.toList := by
  rw [Str.cps_append, Array.toList_append]
theorem app_len (a b : Str) : (a ++ b).length = a.length + b.length := Str.length_append a b
theorem cut_to (z : Str) (k : Nat) (h : k ≤ z.length) : (cutS z none (some (k : Int))).cps.toList = z.cps.toList.take k := by
  unfold cutS
  rw [HT.sIx_none, HT.sIx_nat]
  show (List.take (min k z.length - 0) (z.cps.toList.drop 0)) = _
  rw [Nat.min_eq_left h]
  rfl
theorem cut_from (z : Str) (k : Nat) (h : k ≤ z.length) : (cutS z (some (k : Int)) none).cps.toList = z.cps.toList.drop k := by
  unfold cutS
  rw [HT.sIx_none, HT.sIx_nat, Nat.min_eq_left h]
  show (List.take (z.length - k) (z.cps.toList.drop k)) = _
  refine List.take_of_length_le ?_
  rw [List.length_drop, str_len]
  omega
theorem len_of_cps {z : Str} {l : List Nat} (h : z.cps.toList = l) : z.length = l.length := by
  rw [← h, str_len]
theorem Chg.dice {H H' : Hp} {d : Addr} (c : Chg d H H') {p : Addr} {o : HO} (n : p ≠ d) (h : H p = some o) : H' p = some o := c p o n h
theorem dice_ne {H : Hp} {d p : Addr} (h : Dice H d) (n : H p = none) : d ≠ p := by
  obtain ⟨a, b, c, e, _⟩ := h
  exact ne_of_none e n
theorem Dice.new {H : Hp} {d p : Addr} {o : HO} (h : Dice H d) (n : H p = none) : Dice (L2.upd H p o) d := h.keep (same_new n)
end Ly
namespace Ly
open PySem PySem.Spec PyProof.Rows L2
theorem ifF {c : Bool} {A B : Prop} (h : c = false) (b : B) : if c = true then A else B := by
  subst h
  exact iteF b
theorem ifT {c : Bool} {A B : Prop} (h : c = true) (b : A) : if c = true then A else B := by
  subst h
  exact iteT b
/-- if c: .., not taken -/
theorem ifNo {c : TT} {t r : TS} {D : Ends} {σ : L2.St} {H : Hp} (P : Hp → Prop) (h : ∀ Q' : Bool → Hp → Prop, (∀ H', P H' → Q' false H') → c σ H Q') (k : ∀ H', P H' → r D σ H') : tSeq (tIfS c t tNext) r D σ H :=
  h _ fun H' p => iteF (k H' p)
/-- things that are no text -/
def Odd (H : Hp) (x : V) : Prop := x = .non ∨ (∃ b, x = .bl b) ∨ (∃ i, x = .int i) ∨ ∃ p, x = .ref p ∧ ((∃ xs, H p = some (.lst xs)) ∨ (∃ xs, H p = some (.tup xs)) ∨ ∃ kvs, H p = some (.dK kvs))
theorem Odd.keep {H H' : Hp} {x : V} (s : Same H H') (h : Odd H x) : Odd H' x := by
  rcases h with h | h | h | ⟨p, e, h⟩
  · exact .inl h
  · exact .inr (.inl h)
  · exact .inr (.inr (.inl h))
  · refine .inr (.inr (.inr ⟨p, e, ?_⟩))
    rcases h with ⟨_, h⟩ | ⟨_, h⟩ | ⟨_, h⟩
    · exact .inl ⟨_, s _ _ h⟩
    · exact .inr (.inl ⟨_, s _ _ h⟩)
    · exact .inr (.inr ⟨_, s _ _ h⟩)
theorem Odd.ty {K : PySem.W.Frag} {H : Hp} {x : V} (h : Odd H x) : ∃ t, TyB K H x t ∧ kitB t "str" = some false := by
  rcases h with rfl | ⟨b, rfl⟩ | ⟨i, rfl⟩ | ⟨p, rfl, ⟨_, h⟩ | ⟨_, h⟩ | ⟨_, h⟩⟩
  · exact ⟨"NoneType", .base .non, by decide +kernel⟩
  · exact ⟨"bool", .base (.bl b), by decide +kernel⟩
  · exact ⟨"int", .base (.int i), by decide +kernel⟩
  · exact ⟨"list", .base (.lst h), by decide +kernel⟩
  · exact ⟨"tuple", .base (.tup h), by decide +kernel⟩
  · exact ⟨"dict", .base (.dK h), by decide +kernel⟩
theorem same_new2 {H : Hp} {p : Addr} {o u : HO} (h : H p = none) : Same H (upd (upd H p o) p u) := by
  rw [upd_upd]
  exact same_new h
theorem log_ok {n : Int} (h0 : 0 ≤ n) (h : n < 2 ^ 200) : n.natAbs.log2 < 1920 := by
  have e : (2 : Int) ^ 200 = ((2 ^ 200 : Nat) : Int) := by decide +kernel
  rw [e] at h
  have h2 : n.natAbs < 2 ^ 200 := by
    generalize (2 ^ 200 : Nat) = m at *
    omega
  exact Nat.lt_trans (PySem.Flt.log2_lt_of (by decide) h2) (by decide)
end Ly
namespace Ly
open PySem PySem.Spec PyProof.Rows L2
theorem or_ok {P : Program} {w : World} {K : PySem.W.Frag} {mg : Str → Option Value} {base : Heap} {CX : CXT} {k : Nat} {f : Addr} {fd : FuncData} {ps : List Str} {sp1 sp2 : Sp} (h1 : FnOk P w K mg base CX k f fd ps sp1) (h2 : FnOk P w K mg base CX k f fd ps sp2) :
    FnOk P w K mg base CX k f fd ps (fun vs H Q E => sp1 vs H Q E ∨ sp2 vs H Q E) :=
  ⟨fun vs H Q E h => h.elim (h1.len vs H Q E) (h2.len vs H Q E), fun A outer s H args us vs Q E hr e0 hb hv hs => hs.elim (h1.run A outer s H args us vs Q E hr e0 hb hv) (h2.run A outer s H args us vs Q E hr e0 hb hv)⟩
def timesS (z : Str) (k : Int) : Str := ⟨(List.replicate k.toNat z.cps).foldl (· ++ ·) #[]⟩
def MulS (z : Str) (k : Int) : Bool := decide (1 < k) && decide (k ≤ 1000) && decide (0 < z.length) && !decide ((z.length : Int) > (2 ^ 63 - 1) / k) && !Builtin.Str.tooLong (z.length * k.toNat) && decide ((timesS z k).length ≤ sizeLine)
theorem op_mul_str {X : Cx} : OpR X (binaryOp .Mult) (fun x y H Q => ∃ z k, x = .str z ∧ y = .int k ∧ MulS z k = true ∧ Q (.str (timesS z k)) H) := by
  intro pins s σ H x y v u Q I rx ry h
  obtain ⟨z, k, rfl, rfl, hm, q⟩ := h
  obtain ⟨t, rfl⟩ := rx
  obtain ⟨t', rfl⟩ := ry
  unfold MulS at hm
  simp only [Bool.and_eq_true, Bool.not_eq_true', decide_eq_true_eq, decide_eq_false_iff_not] at hm
  obtain ⟨⟨⟨⟨⟨h1, h2⟩, h3⟩, h4⟩, h5⟩, h6⟩ := hm
  refine PySem.P.mul_str ?_ (fun _ _ => h4) (fun _ _ => h5) ?_
  · rw [decide_eq_false (by omega), decide_eq_false (by omega)]
    rfl
  · rw [if_neg (by omega)]
    have e1 : (k == 1) = false := beq_eq_false_iff_ne.mpr (by omega)
    have e2 : (z.length == 0) = false := beq_eq_false_iff_ne.mpr (by omega)
    rw [e1, e2, if_neg (by decide)]
    exact ⟨h6, ⟨.str (timesS z k), H, I.tok _, ⟨_, rfl⟩, q⟩⟩
end Ly

set_option Elab.async false
set_option linter.all false
set_option maxRecDepth 100000
set_option maxHeartbeats 4000000
/-! own layer: defs that ask for repr of lists: the promise is told where no repr is under way -/
namespace Ly
open PySem PySem.Spec PyProof.Rows L2
abbrev Quiet (A : Around) : Prop := A.guards = some []
/-- the promise of a def, called where no repr is under way -/
def FnG (P : Program) (w : World) (K : PySem.W.Frag) (mg : Str → Option Value) (base : Heap) (CX : CXT) (k : Nat) (f : Addr) (sp : Sp) : Prop :=
  ∀ (A : Around) (outer : List Env) (s : Shared) (H : Hp) (us : List Value) (vs : List V) (Q : VK) (E : XK), Room k A → Quiet A →
    Env0 P w K mg base A outer s H → Vals vs us → sp vs H Q E → codeAny (model P w) A (.call (.ref f) ⟨us, []⟩) (CR CX outer P w H s Q E) s
section
variable {P : Program} {w : World} {K : PySem.W.Frag} {mg : Str → Option Value} {base : Heap} {CX : CXT} {k : Nat}
/-- a def's body, walked where no repr is under way -/
theorem fnG_of {x qual : Str} {st : Stmt} {f : Addr} {fd : FuncData} {N ps : List Str} {sp : Sp} (F : Fun K x qual st f fd) (S : FnScope N ps (defScope st)) (b : Binds K fd ps []) (len : ∀ vs H Q E, sp vs H Q E → vs.length = ps.length)
    (hbody : ∀ (cdv : Value) (A : Around) (outer : List Env) (s : Shared) (H : Hp) (vs : List V) (Q : VK) (E : XK), Room k (A.deeper (envOfC qual (defScope st) s.heap.objs.size f cdv)) → Quiet (A.deeper (envOfC qual (defScope st) s.heap.objs.size f cdv)) →
      sp vs H Q E → ∃ t, PSs (cxOf CX P w K mg base N qual (defScope st) f cdv A outer s H E).nox (defBody st) t ∧ t { nx := fun _ H' => Q .non H', rt := Q } (start N vs) H) :
    FnG P w K mg base CX (k + 1) f sp := by
  obtain ⟨oc, od, kV, doc, pm, an, cdv, ct, osl, rfl, lk, hcd⟩ := F.ex
  intro A outer s H us vs Q E hr hq e0 r hsp
  have hl := len vs H Q E hsp
  have hl2 : (us ++ ([] : List Value)).length = ps.length := by
    rw [List.append_nil, ← r.length]
    exact hl
  have hb := b s us (e0.mod.kin.keeps fun b o e => (e0.bs b o e).1) hl2
  rw [List.append_nil] at hb
  refine StX.run_bnd (G := fun xs H2 => xs = vs ∧ H2 = H) lk hcd S hr e0 (fun A' Ex Q' h => hb _ A' Ex Q' (h s H vs us e0 .refl rfl (fun _ _ z => z) r hl ⟨rfl, rfl⟩)) fun s2 H2 xs g hr' => ?_
  obtain ⟨rfl, rfl⟩ := g
  obtain ⟨t, h, q⟩ := hbody cdv A outer s2 H2 xs Q E hr' hq hsp
  exact ⟨t, h.nox, q⟩
theorem FnG.or {f : Addr} {sp1 sp2 : Sp} (h1 : FnG P w K mg base CX k f sp1) (h2 : FnG P w K mg base CX k f sp2) : FnG P w K mg base CX k f (fun vs H Q E => sp1 vs H Q E ∨ sp2 vs H Q E) :=
  fun A outer s H us vs Q E hr hq e0 r hs => hs.elim (h1 A outer s H us vs Q E hr hq e0 r) (h2 A outer s H us vs Q E hr hq e0 r)
theorem _root_.L2.FnOk.quiet {f : Addr} {fd : FuncData} {ps : List Str} {sp : Sp} (F : FnOk P w K mg base CX k f fd ps sp) (b : Binds K fd ps []) : FnG P w K mg base CX k f sp := by
  intro A outer s H us vs Q E hr _ e0 r hs
  have z := F.raw b .nil A outer s H us vs Q E hr e0 r
  simp only [List.append_nil] at z
  exact z hs
end
section
variable {X : Cx} {CX : CXT} {k : Nat} {f : Addr} {sp : Sp} {E : XK}
/-- such a def as a thing that is called -/
theorem callG (F : FnG X.prog X.w X.K X.mg X.base CX k f sp) (hr : Room k X.A) (hq : Quiet X.A) (hx : Passes CX X E) : CallR X (.ref f) (fun vs H Q => sp vs H Q E) := by
  intro pins s σ H vs us Q I r h
  refine wpAny_call (codeAny_mono (F X.A X.stack s H us vs Q E hr hq I.env0 r h) fun res s' hres => ?_)
  cases res with
  | error e => exact hx pins σ H s e s' I hres
  | ok fl =>
    cases fl with
    | ret u => exact I.after hres
    | next => exact False.elim hres
    | brk => exact False.elim hres
    | cont => exact False.elim hres
/-- x(..), x a def of the module, by what its call is worth -/
theorem pe_callV {x : Str} {p pos : Pos} {e : Expr} {es : List Expr} {t : TA} {r : List V → Hp → VK → Prop} (c : CallR X (.ref f) r) (hg : Gl X x) (hm : X.mg x = some (.ref f)) (hk : PySem.W.keepIn X.K (.ref f) = true) (ha : PA X (e :: es) t)
    (hdb : (x == ("__debug__" : Str)) = false := by decide) (he : starEach (e :: es) X.env = (false, eval e X.env) :: starEach es X.env := by rfl) (hpl : (backTo pos (starEach es X.env)).any (·.1) = false := by rfl) :
    PE X (.Call (.Name x p) (e :: es) [] pos) (tCB r t) := ⟨fun pins s σ H Q I h => wpAny_Call_Name_kw (ld_glob I hg hm
  (PySem.W.callWith_K (h₀ := X.base) I.ok.mod.kin hk (thn (ha.run pos pins s σ H _ I h) fun us s1 ⟨vs, H1, I1, rv, q⟩ => ⟨I1.kIn, c pins s1 σ H1 vs us Q I1 rv q⟩) he hpl) hdb)⟩
end
/-! ### the law's own end -/
section
variable {P : Program} {w : World} {K : PySem.W.Frag} {mg mb : Str → Option Value} {CX : CXT} {k : Nat} {fa a : Addr} {sp : Sp} {s1 : Shared} {vs : List Value} {ns : List Int}
/-- what is asked of the call of the law -/
abbrev LawGoal (P : Program) (w : World) (fa a : Addr) (s1 : Shared) : Prop :=
  codeAny (model P w) callerA (.call (.ref fa) ⟨[.ref a], []⟩) (fun r s' => r = .ok (.ret (.bool true)) ∧ OldK s1.heap s'.heap ∧ s'.os = s1.os ∧ AllBare s'.gens) s1
theorem lawG_core (KX : K.In s1.heap) (hns : s1.heap.Ns mainGlobals mg) (hb : s1.heap.Ns builtinsNs mb) (hbb : ∀ x : Str, x ≠ "__name__" → mb x = bootBuiltins x) (hlim : s1.heap.NoLimit) (hg : s1.gens = #[])
    (ha : s1.heap.get? a = some { cls := .type "list", data := .seq vs.toArray }) (hr : Room k callerA) (F : ∀ base : Heap, K.In base → base.Ns mainGlobals mg → FnG P w K mg base CX k fa sp)
    (hCX : ∀ H e s', CX [] H s1 (fun _ _ _ => False) e s' → False) {H : Hp} (hO : Only H) (hok : HOk P w H s1.heap) (hA : ∀ b, H b ≠ none → b = a ∧ K.lookup a = none) (hsp : sp [.ref a] H (fun v _ => v = .bl true) fun _ _ _ => False) : LawGoal P w fa a s1 := by
  -- what is tracked is the script alone: it is no dict and no part of K
  have plain : ∀ {b : Addr} {o : Obj}, s1.heap.get? b = some o → (∀ its n, o.data ≠ .seq its n) → H b = none := by
    intro b o e d
    rcases hO b with z | ⟨ob, xs, z⟩
    · exact z
    · obtain ⟨rfl, _⟩ := hA b (by rw [z]; exact fun q => nomatch q)
      rw [ha] at e
      cases e
      exact absurd rfl (d _ _)
  have nsB : ∀ {b : Addr} {m : Str → Option Value}, s1.heap.Ns b m → (hidT s1.heap H).Ns b m := fun {b m} h => by
    obtain ⟨o, es, ep, e, d, r⟩ := h
    exact ⟨o, es, ep, hidT_get e (plain e fun its n z => by rw [d] at z; cases z), d, r⟩
  have kB : K.In (hidT s1.heap H) := fun b o e => hidT_get (KX b o e) (by
    rcases hO b with z | ⟨ob, xs, z⟩
    · exact z
    · obtain ⟨rfl, n⟩ := hA b (by rw [z]; exact fun q => nomatch q)
      rw [n] at e
      cases e)
  obtain ⟨mc, l1, l2⟩ := hlim
  have e0 : Env0 P w K mg (hidT s1.heap H) callerA [] s1 H := {
    frames := rfl
    mod := ⟨kB, nsB hns, ⟨mb, nsB hb, hbb⟩, ⟨mc, nsB l1, l2⟩⟩
    bs := fun b o e => of_hidT e
    bsz := Nat.le_of_eq (hidT_size _ _)
    funs := trivial
    frf := fun b hb' => by cases hb'
    hok := hok
    bare := .of_eq hg }
  refine codeAny_mono (F _ kB (nsB hns) callerA [] s1 H [.ref a] [.ref a] _ _ hr rfl e0 (.cons rfl .nil) hsp) fun r s' h => ?_
  match r, h with
  | .error e, h => exact (hCX H e s' h).elim
  | .ok .next, h => exact False.elim h
  | .ok .brk, h => exact False.elim h
  | .ok .cont, h => exact False.elim h
  | .ok (.ret u), h =>
    obtain ⟨v, H', os, bare, un, hok', r', q⟩ := h
    have q' : v = .bl true := q
    subst q'
    obtain rfl : u = Value.bool true := r'
    refine ⟨rfl, OldK.of_keep fun b o e => ?_, os, bare⟩
    rcases hO b with z | ⟨ob, xs, z⟩
    · exact un.keep b o e z (fun z => by cases z) (fun z => by cases z)
    · obtain ⟨e1, _⟩ := hok b _ z
      obtain ⟨e2, _⟩ := hok' b _ (un.frzs b ob _ z)
      rw [e] at e1
      cases e1
      exact e2
theorem lawG (KX : K.In s1.heap) (hns : s1.heap.Ns mainGlobals mg) (hb : s1.heap.Ns builtinsNs mb) (hbb : ∀ x : Str, x ≠ "__name__" → mb x = bootBuiltins x) (hlim : s1.heap.NoLimit) (hg : s1.gens = #[])
    (ha : s1.heap.get? a = some { cls := .type "list", data := .seq vs.toArray }) (hi : IntsAre vs ns) (hl : ns.length ≤ sizeLine) (hr : Room k callerA) (F : ∀ base : Heap, K.In base → base.Ns mainGlobals mg → FnG P w K mg base CX k fa sp)
    (hsp : ∀ H : Hp, Only H → SqL K H a (ns.map V.int) → sp [.ref a] H (fun v _ => v = .bl true) fun _ _ _ => False) (hCX : ∀ H e s', CX [] H s1 (fun _ _ _ => False) e s' → False) : LawGoal P w fa a s1 := by
  have rv := vals_ints hi
  have lv := hi.length
  cases hk : K.lookup a with
  | some o =>
    have e := KX a o hk
    rw [ha] at e
    cases e
    exact lawG_core KX hns hb hbb hlim hg ha hr F hCX (H := fun _ => none) (fun _ => .inl rfl) (fun b u z => by cases z) (fun b z => absurd rfl z)
      (hsp _ (fun _ => .inl rfl) (.inr ⟨_, vs.toArray, _, hk, rfl, rfl, rfl, by rw [List.size_toArray, lv]; exact hl, by simpa using rv⟩))
  | none =>
    have at_ : ∀ b, (upd (fun _ => none) a (.frz { cls := .type "list", data := .seq vs.toArray } (.lst (ns.map V.int)))) b ≠ none → b = a := fun b z => by
      by_cases hb : b = a
      · exact hb
      · exact absurd (upd_ne hb) z
    have only : Only (upd (fun _ => none) a (.frz { cls := .type "list", data := .seq vs.toArray } (.lst (ns.map V.int)))) := fun b => by
      by_cases hb : b = a
      · exact .inr ⟨_, _, by rw [hb]; exact upd_same⟩
      · exact .inl (upd_ne hb)
    refine lawG_core KX hns hb hbb hlim hg ha hr F hCX only (fun b u z => ?_) (fun b z => ⟨at_ b z, hk⟩) (hsp _ only (.inl (.inr ⟨_, upd_same⟩)))
    have eb := at_ b (by rw [z]; exact fun q => nomatch q)
    subst eb
    rw [upd_same] at z
    cases z
    exact ⟨ha, by rw [List.length_map]; exact hl, vs, _, rv, ha⟩
end
theorem walk_ofG {l : PySem.W.OpenLaw} {n k : Nat} {q : Program} {loose : List Str} {XP : (Str → Option Value) → Heap → Prop} {YP : World → Heap → Prop} {d : DefRec} {K : Params → PySem.W.Frag} {sp : World → Sp}
    (hn : l.most = some n) (hn2 : n ≤ sizeLine) (hdf : d.params.defaults = []) (hr : Room k callerA) (hY : ∀ (w : World) (h : Heap), YP w h → (K w.params).In h)
    (F : ∀ (w : World) (mg : Str → Option Value) (fa : Addr) (h : Heap), (K w.params).In h → h.Ns mainGlobals mg → mg d.name = some (.ref fa) →
      ∀ base : Heap, (K w.params).In base → base.Ns mainGlobals mg → FnG l.prog w (K w.params) mg base CX0 k fa (sp w))
    (hsp : ∀ (w : World) (H : Hp) (a : Addr) (ns : List Int), ns.length ≤ n → Only H → SqL (K w.params) H a (ns.map V.int) → sp w [.ref a] H (fun v _ => v = .bl true) fun _ _ _ => False) :
    PySem.W.WalkO q loose XP YP l.row.toRowW d [] (fun f vs => PySem.call f vs) :=
  Att.attach_call hn hdf fun w _ _ mg _ fa _ _ _ _ a vs ns G Y ho hd hcd hmg hobj hints hlen hg =>
    lawG (hY w _ Y) G.T.g G.T.b G.T.builtins G.T.nolimit hg hobj hints (Nat.le_trans hlen hn2) hr (F w mg fa _ (hY w _ Y) G.T.g hmg) (fun H hO hS => hsp w H a ns hlen hO hS) fun _ _ _ z => z
/-! ### repr of data -/
mutual
/-- the value v is the datum, by the abstract heap; its repr is short enough to be told by its size -/
def Rp (H : Hp) : PyData → V → Prop
  | .none, v => v = .non
  | .bool b, v => v = .bl b
  | .int i, v => v = .int i ∧ i.natAbs.log2 < 1920
  | .str x, v => v = .str x ∧ ∀ c ∈ x.cps.toList, c < 16 ^ 8
  | .list ds, v => ∃ a xs, v = .ref a ∧ a ≠ sysModules ∧ H a = some (.lst xs) ∧ RpAll H ds xs
  | .tuple ds, v => ∃ a xs, v = .ref a ∧ H a = some (.tup xs) ∧ RpAll H ds xs
  | .dict [], v => ∃ a, v = .ref a ∧ H a = some (.dK [])
  | .dict (_ :: _), _ => False
def RpAll (H : Hp) : List PyData → List V → Prop
  | [], xs => xs = []
  | d :: ds, xs => ∃ x r, xs = x :: r ∧ Rp H d x ∧ RpAll H ds r
end
mutual
theorem Rp.ok {H : Hp} : ∀ (d : PyData) (v : V), Rp H d v → d.showable = true ∧ d.leavesShort 1921 = true
  | .none, _, _ => ⟨rfl, rfl⟩
  | .bool _, _, _ => ⟨rfl, rfl⟩
  | .int i, v, h => by
    obtain ⟨_, h⟩ := (show v = .int i ∧ i.natAbs.log2 < 1920 from h)
    exact ⟨decide_eq_true h, decide_eq_true (int_text_len_1921 h)⟩
  | .str x, v, h => by
    obtain ⟨_, h⟩ := (show v = .str x ∧ ∀ c ∈ x.cps.toList, c < 16 ^ 8 from h)
    exact ⟨rfl, List.all_eq_true.mpr fun c hc => decide_eq_true (h c hc)⟩
  | .list ds, v, h => by
    obtain ⟨_, xs, _, _, _, h⟩ := (show ∃ a xs, v = .ref a ∧ a ≠ sysModules ∧ H a = some (.lst xs) ∧ RpAll H ds xs from h)
    exact RpAll.ok ds xs h
  | .tuple ds, v, h => by
    obtain ⟨_, xs, _, _, h⟩ := (show ∃ a xs, v = .ref a ∧ H a = some (.tup xs) ∧ RpAll H ds xs from h)
    exact RpAll.ok ds xs h
  | .dict [], _, _ => ⟨rfl, rfl⟩
  | .dict (_ :: _), _, h => (show False from h).elim
theorem RpAll.ok {H : Hp} : ∀ (ds : List PyData) (xs : List V), RpAll H ds xs → PyData.showableAll ds = true ∧ PyData.leavesShortAll 1921 ds = true
  | [], _, _ => ⟨rfl, rfl⟩
  | d :: ds, xs, h => by
    obtain ⟨x, r, _, h1, h2⟩ := (show ∃ x r, xs = x :: r ∧ Rp H d x ∧ RpAll H ds r from h)
    obtain ⟨a1, a2⟩ := Rp.ok d x h1
    obtain ⟨b1, b2⟩ := RpAll.ok ds r h2
    exact ⟨by simp only [PyData.showableAll, a1, b1, Bool.and_self], by simp only [PyData.leavesShortAll, a2, b2, Bool.and_self]⟩
end
mutual
theorem Rp.keep {H H' : Hp} (s : Same H H') : ∀ (d : PyData) (v : V), Rp H d v → Rp H' d v
  | .none, _, h => h
  | .bool _, _, h => h
  | .int _, _, h => h
  | .str _, _, h => h
  | .list ds, v, h => by
    obtain ⟨a, xs, e, n, ha, h⟩ := (show ∃ a xs, v = .ref a ∧ a ≠ sysModules ∧ H a = some (.lst xs) ∧ RpAll H ds xs from h)
    exact ⟨a, xs, e, n, s _ _ ha, RpAll.keep s ds xs h⟩
  | .tuple ds, v, h => by
    obtain ⟨a, xs, e, ha, h⟩ := (show ∃ a xs, v = .ref a ∧ H a = some (.tup xs) ∧ RpAll H ds xs from h)
    exact ⟨a, xs, e, s _ _ ha, RpAll.keep s ds xs h⟩
  | .dict [], v, h => by
    obtain ⟨a, e, ha⟩ := (show ∃ a, v = .ref a ∧ H a = some (.dK []) from h)
    exact ⟨a, e, s _ _ ha⟩
  | .dict (_ :: _), _, h => (show False from h).elim
theorem RpAll.keep {H H' : Hp} (s : Same H H') : ∀ (ds : List PyData) (xs : List V), RpAll H ds xs → RpAll H' ds xs
  | [], _, h => h
  | d :: ds, xs, h => by
    obtain ⟨x, r, e, h1, h2⟩ := (show ∃ x r, xs = x :: r ∧ Rp H d x ∧ RpAll H ds r from h)
    exact ⟨x, r, e, Rp.keep s d x h1, RpAll.keep s ds r h2⟩
end
section
variable {X : Cx} {pins : List (Addr × Obj)} {σ : L2.St} {H : Hp} {s : Shared}
mutual
theorem Rp.reads (I : Inv X pins σ H s) : ∀ (d : PyData) (v : V) (u : Value), Rp H d v → RelV v u → ∃ as, Reads s.heap u d as ∧ sysModules ∉ as
  | .none, v, u, h, r => by
    obtain rfl := (show v = .non from h)
    cases r
    exact ⟨_, .none, by simp⟩
  | .bool b, v, u, h, r => by
    obtain rfl := (show v = .bl b from h)
    cases r
    exact ⟨_, .bool b, by simp⟩
  | .int i, v, u, h, r => by
    obtain ⟨rfl, _⟩ := (show v = .int i ∧ i.natAbs.log2 < 1920 from h)
    obtain ⟨t, rfl⟩ := r
    exact ⟨_, .int i t, by simp⟩
  | .str x, v, u, h, r => by
    obtain ⟨rfl, _⟩ := (show v = .str x ∧ ∀ c ∈ x.cps.toList, c < 16 ^ 8 from h)
    obtain ⟨t, rfl⟩ := r
    exact ⟨_, .str x t, by simp⟩
  | .list ds, v, u, h, r => by
    obtain ⟨a, xs, rfl, n, ha, h⟩ := (show ∃ a xs, v = .ref a ∧ a ≠ sysModules ∧ H a = some (.lst xs) ∧ RpAll H ds xs from h)
    cases r
    obtain ⟨_, its, m, rv, e⟩ := (show ObjOk X.prog X.w H s.heap a (.lst xs) from I.hok a _ ha)
    obtain ⟨as, ra, na⟩ := RpAll.reads I ds xs its h rv
    exact ⟨_, .list e rfl rfl ra, fun z => (List.mem_cons.mp z).elim (fun z => n z.symm) na⟩
  | .tuple ds, v, u, h, r => by
    obtain ⟨a, xs, rfl, ha, h⟩ := (show ∃ a xs, v = .ref a ∧ H a = some (.tup xs) ∧ RpAll H ds xs from h)
    cases r
    obtain ⟨_, its, rv, o, e, c, m, dd⟩ := (show ObjOk X.prog X.w H s.heap a (.tup xs) from I.hok a _ ha)
    obtain ⟨as, ra, na⟩ := RpAll.reads I ds xs its h rv
    exact ⟨_, .tuple e c dd ra, na⟩
  | .dict [], v, u, h, r => by
    obtain ⟨a, rfl, ha⟩ := (show ∃ a, v = .ref a ∧ H a = some (.dK []) from h)
    cases r
    obtain ⟨_, ns, vs, kv, dk⟩ := (show ObjOk X.prog X.w H s.heap a (.dK []) from I.hok a _ ha)
    cases kv
    obtain ⟨o, es, ep, e, ex, dd, _, hes, _⟩ := dk
    have e0 : es.toList = [] := by
      generalize es.toList = l at hes
      cases hes
      rfl
    refine ⟨_, .dict (kvs := []) e ex.1 dd (by rw [e0]; exact .nil) (by rw [e0]; exact .nil), fun z => ?_⟩
    have z' : sysModules = a := by simpa using z
    rw [← z'] at ns
    exact absurd ns (by decide)
  | .dict (_ :: _), _, _, h, _ => (show False from h).elim
theorem RpAll.reads (I : Inv X pins σ H s) : ∀ (ds : List PyData) (xs : List V) (us : List Value), RpAll H ds xs → Vals xs us → ∃ as, ReadsAll s.heap us ds as ∧ sysModules ∉ as
  | [], xs, us, h, r => by
    obtain rfl := (show xs = [] from h)
    cases r
    exact ⟨_, .nil, by simp⟩
  | d :: ds, xs, us, h, r => by
    obtain ⟨x, rr, rfl, h1, h2⟩ := (show ∃ x r, xs = x :: r ∧ Rp H d x ∧ RpAll H ds r from h)
    cases r with
    | cons q qs =>
      obtain ⟨as, ra, na⟩ := Rp.reads I d x _ h1 q
      obtain ⟨bs, rb, nb⟩ := RpAll.reads I ds rr _ h2 qs
      exact ⟨_, .cons ra rb, fun z => (List.mem_append.mp z).elim na nb⟩
end
end
/-- repr of a list, a tuple, a dict of data -/
def rRepr : List V → Hp → VK → Prop := fun vs H Q => ∃ (x : V) (d : PyData), vs = [x] ∧ Rp H d x ∧ d.bulk ≤ 8000 ∧ d.depth ≤ 60 ∧ Q (.str d.shown) H
theorem call_repr {X : Cx} (hq : Quiet X.A) (hu : X.A.units + 64 < cLine) : CallR X (.builtin "repr") rRepr := by
  intro pins s σ H xs us Q I r h
  obtain ⟨x, d, rfl, hd, hb, hdp, q⟩ := h
  obtain ⟨u, rfl, r1⟩ := vals1 r
  obtain ⟨k1, k2⟩ := Rp.ok d x hd
  have sz : d.shown.length ≤ sizeLine := by
    have z := PyData.shown_le_bulk 1921 (by decide) d k2
    have e : (1921 + 2) * d.bulk ≤ 1923 * 8000 := Nat.mul_le_mul_left _ hb
    rw [sizeLine_eq]
    omega
  obtain ⟨as, ra, na⟩ := Rp.reads I d x u hd r1
  have goal : ∀ a, u = .ref a → wpAny (model X.prog X.w) X.A (call (.builtin "repr") [u]) (EP X pins σ Q) X.xe s := by
    rintro a rfl
    exact repr_of_reads' ra k1 (fun _ => na) hq (by omega) (fun _ _ e => e) (fun h' t tk hk => ⟨.str d.shown, H, I.kept hk, ⟨_, rfl⟩, q⟩) sz
  match d, hd with
  | .none, hd =>
    obtain rfl := (show x = .non from hd)
    cases r1
    exact PySem.P.repr_of_none ⟨.str _, H, I.tok _, ⟨_, rfl⟩, q⟩
  | .bool b, hd =>
    obtain rfl := (show x = .bl b from hd)
    cases r1
    exact PySem.P.repr_of_bool ⟨.str _, H, I.tok _, ⟨_, rfl⟩, q⟩
  | .int i, hd =>
    obtain ⟨rfl, hi⟩ := (show x = .int i ∧ i.natAbs.log2 < 1920 from hd)
    obtain ⟨t, rfl⟩ := r1
    exact PySem.P.repr_of_int hi ⟨.str _, H, I.tok _, ⟨_, rfl⟩, q⟩
  | .str y, hd =>
    obtain ⟨rfl, _⟩ := (show x = .str y ∧ ∀ c ∈ y.cps.toList, c < 16 ^ 8 from hd)
    obtain ⟨t, rfl⟩ := r1
    exact PySem.P.repr_of_str ⟨.str _, H, I.tok _, ⟨_, rfl⟩, q⟩ sz
  | .list ds, hd =>
    obtain ⟨a, _, rfl, _⟩ := (show ∃ a xs, x = .ref a ∧ a ≠ sysModules ∧ H a = some (.lst xs) ∧ RpAll H ds xs from hd)
    exact goal a r1
  | .tuple ds, hd =>
    obtain ⟨a, _, rfl, _⟩ := (show ∃ a xs, x = .ref a ∧ H a = some (.tup xs) ∧ RpAll H ds xs from hd)
    exact goal a r1
  | .dict [], hd =>
    obtain ⟨a, rfl, _⟩ := (show ∃ a, x = .ref a ∧ H a = some (.dK []) from hd)
    exact goal a r1
  | .dict (_ :: _), hd => exact (show False from hd).elim
/-- a list display whose place is told not to be the modules' own -/
theorem pe_lstN {X : Cx} {es : List Expr} {t : TA} {pos : Pos} (h : PA X es t) : PE X (.List es pos) (fun σ H Q => t σ H fun xs H1 => xs.length ≤ sizeLine ∧ ∀ p, H1 p = none → p ≠ sysModules → Q (.ref p) (upd H1 p (.lst xs))) := by
  refine ⟨fun pins s σ H Q I hq => ?_⟩
  refine wpAny_List_spliced (thn (h.run pos pins s σ H _ I hq) fun us s1 hh => ?_)
  obtain ⟨xs, H1, I1, r, z, q⟩ := hh
  have big := I1.big
  refine ⟨by rw [← r.length]; exact z, ⟨.ref s1.heap.objs.size, _, I1.laid (t' := s1.toks) (o := .lst xs) (fun b u e => Heap.get?_push_of_some _ e) (Nat.le_refl _) ⟨z, us, 0, r, Heap.get?_push_size _ rfl⟩, rfl, q _ (I1.hok.fresh (Nat.le_refl _)) fun e => ?_⟩⟩
  rw [e] at big
  exact absurd big (Nat.lt_irrefl _)
end Ly
namespace Ly
open PySem PySem.Spec PyProof.Rows L2
/-! ### the same rules, said of the written part that a block shares with its def -/
section
variable {X : Cx} {K : PySem.W.Frag}
theorem ixL (h : X.K = K) : IxR X (rIxL K) := h ▸ ix_list
theorem ixT (h : X.K = K) : IxR X (rIxT K) := h ▸ ix_tup
theorem isiK (h : X.K = K) : CallR X (.builtin "isinstance") (rIsi K) := h ▸ call_isi
theorem inK (h : X.K = K) : OpR X (compareOp .In) (rIn K false) := h ▸ op_in_seq
theorem ninK (h : X.K = K) : OpR X (compareOp .NotIn) (rIn K true) := h ▸ op_notIn_seq
def rLenL (K : PySem.W.Frag) : List V → Hp → VK → Prop := fun xs H Q => ∃ p ys, xs = [.ref p] ∧ SqL K H p ys ∧ Q (.int ys.length) H
def rLenT (K : PySem.W.Frag) : List V → Hp → VK → Prop := fun xs H Q => ∃ p ys, xs = [.ref p] ∧ SqT K H p ys ∧ Q (.int ys.length) H
theorem lenLK (h : X.K = K) : CallR X (.builtin "len") (rLenL K) := h ▸ call_lenL
theorem lenTK (h : X.K = K) : CallR X (.builtin "len") (rLenT K) := h ▸ call_lenT
end
end Ly
namespace Ly
open PySem PySem.Spec PyProof.Rows L2
theorem sameT {K : PySem.W.Frag} {H H' : Hp} {a : Addr} {xs : List V} (e : Same H H') (h : SqT K H a xs) : SqT K H' a xs := by
  rcases h with (h | ⟨o, h⟩) | h
  · exact .inl (.inl (e _ _ h))
  · exact .inl (.inr ⟨o, e _ _ h⟩)
  · exact .inr h
/-- a loop's comprehension that maps a list's items, told at once: y = [e for x in xs] -/
theorem same_set {H H1 : Hp} {p : Addr} {o : HO} (s : Same H H1) (n : H p = none) : Same H (upd H1 p o) := fun b u e => by
  rw [upd_ne (ne_of_none e n)]
  exact s _ _ e
end Ly

set_option Elab.async false
set_option linter.all false
set_option maxRecDepth 100000
set_option maxHeartbeats 4000000
/-! own layer: enumerate over a tuple -/
namespace PySem
open Sem (wp)
set_option maxHeartbeats 1000000 in
theorem ly_enum_new {v : Value} {o : Obj} {H : Heap → Prop} (B : Begins v o H) :
    Meets (Builtin.«enumerate.__new__» ⟨[.type "enumerate", v], []⟩) (fun _ R s => H s.heap ∧
      R (.ok (.ret (.ref (s.heap.push o).objs.size))) { s with heap := (s.heap.push o).push ({ cls := .type "enumerate", data := .fields #[.none, .bool false, .ref s.heap.objs.size, rawInt 0, .none, .none] } : Obj) }) :=
  .of_wp fun prog w A R s h => by
    obtain ⟨hp, gs, dr, tk, os⟩ := s
    obtain ⟨h1, h⟩ := h
    have sub := sub_enumerate
    have begin_ : ∀ {A' : Around} {E : Value → Shared → Prop} {Q : Value → Shared → Prop}, Q (.ref hp.objs.size) ⟨hp.push o, gs, dr, tk, os⟩ → wpAny (model prog w) A' (pyIter v) Q E ⟨hp, gs, dr, tk, os⟩ := fun q => B.iter prog w _ _ _ _ h1 q
    wp_walk using begin_
    refine wpAny_stack_any fun st => wpAny_pure ?_
    split
    · rename_i c _ _ _ _ _
      cases (c == Value.type "enumerate") <;> (wp_walk using begin_; exact ⟨_, rfl, h⟩)
    · wp_walk using begin_
      exact ⟨_, rfl, h⟩
theorem ly_enum_call {prog : Program} {w : World} {A : Around} {E : Value → Shared → Prop} {s : Shared} {v : Value} {o : Obj} {H : Heap → Prop} {Q : Value → Shared → Prop} (B : Begins v o H) (h1 : H s.heap)
    (h : ∀ h', IsEnum h' (s.heap.objs.size + 1) s.heap.objs.size 0 .none → h'.get? s.heap.objs.size = some o → (∀ b x, s.heap.get? b = some x → h'.get? b = some x) → Q (.ref (s.heap.objs.size + 1)) { s with heap := h' }) :
    wpAny (model prog w) A (call (.type "enumerate") [v]) Q E s := by
  refine callType_new F.called_enumerate (by decide) (F.typeCall_enumerate_1 _) (F.newCall_enumerate_1 _) (fun obj => F.args_object_init_2 obj _) F.entry_enumerate_new (ly_enum_new B) ⟨h1, ?_⟩
  have hz : (s.heap.push o).objs.size = s.heap.objs.size + 1 := Heap.size_push ..
  show _ ∧ _
  rw [hz]
  have he : IsEnum ((s.heap.push o).push { cls := .type "enumerate", data := .fields #[.none, .bool false, .ref s.heap.objs.size, rawInt 0, .none, .none] }) (s.heap.objs.size + 1) s.heap.objs.size 0 .none := by
    have k := Heap.get?_push_size (s.heap.push o) (o := { cls := .type "enumerate", data := .fields #[.none, .bool false, .ref s.heap.objs.size, rawInt 0, .none, .none] }) rfl
    rwa [hz] at k
  exact ⟨⟨_, he, rfl⟩, h _ he (Heap.get?_push_of_some _ (Heap.get?_push_size _ B.free)) fun b x q => Heap.get?_push_of_some _ (Heap.get?_push_of_some _ q)⟩
end PySem
namespace Ly
open PySem PySem.Spec PyProof.Rows L2
/-- the tuple at a, its items in new pairs with their places -/
def IteT (K : PySem.W.Frag) (a : Addr) : It :=
  ⟨fun i H => ∃ (xs : List V) (x : V), SqT K H a xs ∧ xs[i]? = some x, fun i H v H' => ∃ T x, v = .ref T ∧ H T = none ∧ H' = upd H T (.tup [.int (i : Nat), x]) ∧ ∀ xs, SqT K H a xs → xs[i]? = some x, fun i H => ∃ xs : List V, SqT K H a xs ∧ xs.length = i⟩
theorem turn_enumT {P : Program} {w : World} {K : PySem.W.Frag} {elts : List Expr} {kk : Nat} {tpos : Pos} (a e it : Addr) (hat : a ≠ it) (hae : e ≠ a) :
    Turn P w K (.Tuple elts kk tpos) (IteT K a) [e, it] e (fun i h => (∃ old, IsEnum h e it ((i : Nat) : Int) old) ∧ h.IsTupleIter it a i ∧ e ≠ it) where
  mem := List.mem_cons_self
  obj := fun i h st b hb => by
    obtain ⟨⟨old, he⟩, ⟨o, ho, hc, hd⟩, _⟩ := st
    rcases List.mem_cons.mp hb with z | z
    · rw [z]; exact ⟨_, he, fun v q => nomatch q⟩
    · rw [List.mem_singleton] at z
      exact ⟨o, z ▸ ho, fun v q => by rw [hd] at q; cases q⟩
  keep := fun i h h' st k => by
    obtain ⟨⟨old, he⟩, hi, hne⟩ := st
    exact ⟨⟨old, k e (by simp) _ he⟩, hi.at fun o q => k it (by simp) o q, hne⟩
  item := by
    intro X hP hw hK hc i pins s σ H E I hf st hg
    subst hP hw hK
    obtain ⟨⟨old, he⟩, hit, hne⟩ := st
    obtain ⟨xs, x, hq, hx⟩ := hg
    obtain ⟨its, rv, p, hz⟩ := I.tuple hq
    obtain ⟨u, hu, ru⟩ := rv.get hx
    have hel : e < s.heap.objs.size := Heap.lt_size he
    have hil : it < s.heap.objs.size := by
      obtain ⟨_, q, _⟩ := hit
      exact Heap.lt_size q
    have hin : i < its.toArray.size := by
      rw [List.size_toArray]
      exact (List.getElem?_eq_some_iff.mp hu).1
    refine wpAny_pyNext_enum_itemD (Draws.tuple (A := X.A.in1) (show X.A.in1.handled = none from I.ok.hd hc) it a hat its.toArray) he ⟨hit, p⟩ hin hne (by simp [hne, hae]) fun y h' tk hy ho st' hT hsz hk => ?_
    obtain ⟨hit', _⟩ := st'
    have ey : y = u := by
      have h2 : its[i]? = some y := by simpa using hy
      exact Option.some.inj (h2.symm.trans hu)
    subst ey
    refine ⟨_, rfl, wpAny_letOwnedTupleGo_enum (s := { s with heap := h', toks := tk + 1 }) ho fun h'' he' sb => ?_⟩
    have hT2 : h''.get? s.heap.objs.size = some { cls := .type "tuple", data := .seq #[.int i tk, y] } := (sb.2 _ (Nat.ne_of_gt hel)).trans hT
    have new : ObjOk X.prog X.w (upd H s.heap.objs.size (.tup [.int (i : Nat), x])) h'' s.heap.objs.size (.tup [.int (i : Nat), x]) :=
      ⟨by show 2 ≤ sizeLine; decide, [.int i tk, y], .cons ⟨_, rfl⟩ (.cons ru .nil), ⟨_, hT2, rfl, _, rfl⟩⟩
    have I1 : Inv X pins σ (upd H s.heap.objs.size (.tup [.int (i : Nat), x])) { s with heap := h'', toks := tk + 1 } :=
      I.turnedNew (ch := [e, it]) (fun b ob hb q => (sb.2 b (fun z => hb (by simp [z]))).trans (hk b ob (fun z => hb (by simp [z])) (fun z => hb (by simp [z])) q)) hf (Nat.le_refl _) new
    have e1 : ((i + 1 : Nat) : Int) = (i : Int) + 1 := by omega
    refine ⟨.ref s.heap.objs.size, _, I1, rfl, ⟨_, x, rfl, I.hok.fresh (Nat.le_refl _), rfl, fun ys hy' => by rw [I.tuple_inj hy' hq]; exact hx⟩, ⟨⟨y, by rw [e1]; exact he'⟩, hit'.at fun o q => (sb.2 it (Ne.symm hne)).trans q, hne⟩, fun b hb => ?_⟩
    have hb' : b < s.heap.objs.size := by
      rcases List.mem_cons.mp hb with z | z
      · rw [z]
        exact hel
      · rw [List.mem_singleton.mp z]
        exact hil
    rw [upd_ne (Nat.ne_of_lt hb')]
    exact (hf b hb).1
  done := by
    intro X hP hw hK hc i pins s σ H E I hf st hg
    subst hP hw hK
    obtain ⟨⟨old, he⟩, hit, hne⟩ := st
    obtain ⟨xs, hq, hx⟩ := hg
    obtain ⟨its, rv, p, hz⟩ := I.tuple hq
    obtain ⟨f0, f1, f2, f3, f4, f5⟩ := hf it (by simp)
    have hl : its.toArray.size = i := by
      rw [List.size_toArray, ← rv.length]
      exact hx
    have hit2 : s.heap.IsTupleIter it a its.toArray.size := by
      rw [hl]
      exact hit
    exact wpAny_pyNext_enum_endD (Draws.tuple (A := X.A.in1) (show X.A.in1.handled = none from I.ok.hd hc) it a hat its.toArray) he ⟨hit2, p⟩ fun h' eb => ⟨rfl, I.turned (t' := s.toks) (fun b o hb q => eb b o hb q) f0 f1 f3 f4 f5⟩
  self := fun A i s Q E st h => by
    obtain ⟨⟨_, he⟩, _⟩ := st
    exact wpAny_pyIter_enum he h
def iEnumT (K : PySem.W.Frag) (ta : TA) : TI := fun σ H R => ta σ H fun vs H1 => ∃ a xs, vs = [.ref a] ∧ SqT K H1 a xs ∧ R (IteT K a) H1
theorem pi_enumT {X : Cx} {e : Expr} {ta : TA} {p pos tpos : Pos} {elts : List Expr} {kk : Nat} (hg : Gl X "enumerate") (hm : X.mg "enumerate" = none) (ha : PA X [e] ta) (hs : starEach [e] X.env = [(false, eval e X.env)] := by rfl) :
    PI X (.Tuple elts kk tpos) (.Call (.Name "enumerate" p) [e] [] pos) (iEnumT X.K ta) := by
  refine ⟨fun pins s σ H R I h => ?_⟩
  refine Call_ (ld_blt I hg hm boot_enumerate (PyProof.Rows.callWith_type1 (thn (ha.run pos pins s σ H _ I h) fun us s1 hh => ?_) hs rfl))
  obtain ⟨vs, H1, I1, r1, a, xs, ex, hq, q⟩ := hh
  subst ex
  obtain ⟨u, rfl, ru⟩ := vals1 r1
  obtain rfl : u = Value.ref a := ru
  obtain ⟨its, rv, p', hz⟩ := I1.tuple hq
  have hal : a < s1.heap.objs.size := p'.lt
  refine ly_enum_call (begins_tuple a its.toArray) p' fun h' he hit hk => wpAny_pyIter_enum he ?_
  refine ⟨s1.heap.objs.size + 1, [s1.heap.objs.size + 1, s1.heap.objs.size], _, _, H1, rfl, I1.kept (t' := s1.toks) hk, turn_enumT a (s1.heap.objs.size + 1) s1.heap.objs.size (Nat.ne_of_lt hal) (Nat.ne_of_gt (Nat.lt_succ_of_lt hal)), ⟨⟨.none, he⟩, ⟨_, hit, rfl, rfl⟩, Nat.succ_ne_self _⟩, fun b hb => ?_, q⟩
  have hle : s1.heap.objs.size ≤ b := by
    rcases List.mem_cons.mp hb with z | z
    · rw [z]
      exact Nat.le_succ _
    · rw [List.mem_singleton.mp z]
      exact Nat.le_refl _
  exact I1.fpOk hle (I1.hok.fresh hle)
/-- the loop over it -/
theorem for_enumT {K : PySem.W.Frag} {a : Addr} {xs : List V} {g : TG} {tb : TS} {D : Ends} {σ : L2.St} {H : Hp} (Pv : Nat → L2.St → Hp → Prop) (h0 : Pv 0 σ H) (hl : ∀ i σ H, i ≤ xs.length → Pv i σ H → SqT K H a xs)
    (hs : ∀ i x σ H T, xs[i]? = some x → Pv i σ H → H T = none → g (.ref T) σ (upd H T (.tup [.int (i : Nat), x])) fun σ2 H2 => tb { D with nx := Pv (i + 1), ct := Pv (i + 1), bk := D.nx } σ2 H2) (hd : ∀ σ H, Pv xs.length σ H → D.nx σ H) :
    ∃ W : Nat → Nat → L2.St → Hp → Prop, (∃ m, W 0 m σ H) ∧ ∀ i m σ H, W i m σ H → ((IteT K a).stop i H ∧ D.nx σ H) ∨ ((IteT K a).go i H ∧ ∃ N : L2.St → Hp → Prop, (∀ σ' H', N σ' H' → ∃ m', m' < m ∧ W (i + 1) m' σ' H') ∧
      ∀ x H', (IteT K a).yld i H x H' → g x σ H' fun σ2 H2 => tb { D with nx := N, ct := N, bk := D.nx } σ2 H2) := by
  refine ⟨fun i m σ H => m + i = xs.length ∧ Pv i σ H, ⟨xs.length, by omega, h0⟩, ?_⟩
  rintro i m σ H ⟨em, p⟩
  have q := hl i σ H (by omega) p
  by_cases hlt : i < xs.length
  · refine .inr ⟨⟨xs, xs[i], q, List.getElem?_eq_getElem hlt⟩, Pv (i + 1), fun σ' H' p' => ⟨m - 1, by omega, by omega, p'⟩, fun v H' y => ?_⟩
    obtain ⟨T, x, rfl, nT, rfl, hx⟩ := y
    exact hs i x σ H T (hx xs q) p nT
  · have e : i = xs.length := by omega
    subst e
    exact .inl ⟨⟨xs, q, rfl⟩, hd σ H p⟩
end Ly

set_option Elab.async false
set_option linter.all false
set_option maxRecDepth 100000
set_option maxHeartbeats 4000000
/-! own classes: len, str, ==, != by their own defs; classes held by a variable, called with a star; made without arguments -/
namespace Ly
open PySem PySem.Spec PyProof.Rows L2
section
variable {X : Cx} {CX : CXT} {k : Nat} {f g C : Addr} {sp : Sp} {E : XK} {Q : VK} {us : List Value} {vs : List V} {A : Around} {pins : List (Addr × Obj)} {σ : L2.St} {H : Hp} {s : Shared}
theorem run_fnRA (F : FnR X.prog X.w X.K X.mg X.base CX k f sp) (hr : Room k A) (hf : A.frames = X.A.frames) (hx : Passes CX X E) (I : Inv X pins σ H s) (r : Vals vs us) (h : sp vs H Q E) :
    wpAny (model X.prog X.w) A (call (.ref f) us) (EP X pins σ Q) X.xe s := by
  have e := I.env0
  have e0 : Env0 X.prog X.w X.K X.mg X.base A X.stack s H := ⟨by rw [hf]; exact e.frames, e.mod, e.bs, e.bsz, e.funs, e.frf, e.hok, e.bare⟩
  refine wpAny_call (codeAny_mono (F A X.stack s H us vs Q E hr e0 r h) fun r s' hq => ?_)
  cases r with
  | error e => exact hx pins σ H s e s' I hq
  | ok fl =>
    cases fl with
    | ret u => exact I.after hq
    | next => exact False.elim hq
    | brk => exact False.elim hq
    | cont => exact False.elim hq
/-- the class at C has the def at g as its special m -/
structure Sp1 (K : PySem.W.Frag) (C g : Addr) (m : Str) : Prop where
  at_ : PySem.W.findIn K (.ref C) m = some (some (.ref g))
  fn : PySem.W.isFn K (.ref g) = true
theorem ins_inst {a C dx : Addr} {fs : List (Str × V)} (I : Inv X pins σ H s) (ea : H a = some (.ins C dx fs)) : ∃ ox od, PySem.W.InstAt s.heap a ox C od := by
  obtain ⟨mA, O, _⟩ := ins_get I.hok ea
  obtain ⟨od, J, _⟩ := O.look
  exact ⟨_, _, J⟩
def rLenO (C : Addr) (sp : Sp) (E : XK) : List V → Hp → VK → Prop := fun xs H Q => ∃ a dx fs, xs = [.ref a] ∧ H a = some (.ins C dx fs) ∧ sp [.ref a] H (fun v H' => ∃ n : Nat, v = .int n ∧ n < 2 ^ 62 ∧ Q (.int n) H') E
theorem call_lenO (c : Sp1 X.K C g "__len__") (F : FnR X.prog X.w X.K X.mg X.base CX k g sp) (hr : Room (k + 1) X.A) (hx : Passes CX X E) : CallR X (.builtin "len") (rLenO C sp E) := by
  intro pins s σ H xs us Q I r h
  obtain ⟨a, dx, fs, rfl, ea, q⟩ := h
  obtain ⟨u, rfl, r1⟩ := vals1 r
  obtain rfl : u = Value.ref a := r1
  obtain ⟨ox, od, J⟩ := ins_inst I ea
  obtain ⟨m, hF⟩ := I.fr
  refine PySem.W.len_K hF I.ok.mod.kin J c.at_ c.fn (wpAny_mono (run_fnRA (us := [.ref a]) (vs := [.ref a]) F hr.in1 rfl hx I (.cons rfl .nil) q) (fun v s' z => ?_) fun _ _ z => z)
  obtain ⟨w, H', I', rw_, n, rfl, hn, q'⟩ := z
  obtain ⟨t, rfl⟩ := (show ∃ t, v = Value.int (n : Int) t from rw_)
  have hn' : (n : Int) < 2 ^ 62 := by exact_mod_cast hn
  exact ⟨⟨Int.natCast_nonneg _, Int.lt_trans hn' (by decide)⟩, .int n, H', I'.tok _, ⟨_, rfl⟩, q'⟩
def rStrO (C : Addr) (sp : Sp) (E : XK) : List V → Hp → VK → Prop := fun xs H Q => ∃ a dx fs, xs = [.ref a] ∧ H a = some (.ins C dx fs) ∧ sp [.ref a] H (fun v H' => ∃ x : Str, v = .str x ∧ Q (.str x) H') E
theorem call_strO (c : Sp1 X.K C g "__str__") (F : FnR X.prog X.w X.K X.mg X.base CX k g sp) (hr : Room (k + 2) X.A) (hx : Passes CX X E) : CallR X (.type "str") (rStrO C sp E) := by
  intro pins s σ H xs us Q I r h
  obtain ⟨a, dx, fs, rfl, ea, q⟩ := h
  obtain ⟨u, rfl, r1⟩ := vals1 r
  obtain rfl : u = Value.ref a := r1
  obtain ⟨ox, od, J⟩ := ins_inst I ea
  refine PySem.W.kso_call hr.in1.in1.units0 I.kIn J c.at_ c.fn (wpAny_mono (run_fnRA (us := [.ref a]) (vs := [.ref a]) F hr.in1.in1 rfl hx I (.cons rfl .nil) q) (fun v s' z => ?_) fun _ _ z => z)
  obtain ⟨w, H', I', rw_, x, rfl, q'⟩ := z
  obtain ⟨t, rfl⟩ := (show ∃ t, v = Value.str x t from rw_)
  exact ⟨.str x, H', I', ⟨_, rfl⟩, q'⟩
/-! ### == and != of two instances of a class -/
def rEqO (C : Addr) (sp : Sp) (E : XK) (neg : Bool) : R2 := fun x y H Q => ∃ a b dx dy fs gs, x = .ref a ∧ y = .ref b ∧ H a = some (.ins C dx fs) ∧ H b = some (.ins C dy gs) ∧
  sp [.ref a, .ref b] H (fun v H' => ∃ t : Bool, v = .bl t ∧ Q (.bl (t != neg)) H') E
theorem op_eqO (c : Sp1 X.K C g "__eq__") (F : FnR X.prog X.w X.K X.mg X.base CX k g sp) (hr : Room k X.A) (hx : Passes CX X E) : OpR X (compareOp .Eq) (rEqO C sp E false) := by
  intro pins s σ H x y u v Q I rx ry h
  obtain ⟨a, b, dx, dy, fs, gs, rfl, rfl, ea, eb, q⟩ := h
  obtain rfl : u = Value.ref a := rx
  obtain rfl : v = Value.ref b := ry
  obtain ⟨ox, od, J⟩ := ins_inst I ea
  obtain ⟨oy, od', J'⟩ := ins_inst I eb
  obtain ⟨m, hF⟩ := I.fr
  refine PySem.W.cmp_ofEq (PySem.W.cmp_K (op := .Eq) (tb := .ref C) hr.units0 hF I.ok.mod.kin J J'.type (by simp [PySem.W.notFirst]) c.at_ c.fn ?_)
  refine wpAny_mono (run_fnRA (us := [.ref a, .ref b]) (vs := [.ref a, .ref b]) F hr rfl hx I (.cons rfl (.cons rfl .nil)) q) (fun v s' z => ?_) fun _ _ z => z
  obtain ⟨w, H', I', rw_, t, rfl, q'⟩ := z
  obtain rfl : v = Value.bool t := rw_
  refine ⟨.bl t, H', I', rfl, ?_⟩
  rw [Bool.bne_false] at q'
  exact q'
theorem ifBound_objNe {M : Model} {K : PySem.W.Frag} {A : Around} {E : Value → Shared → Prop} {s : Shared} {x C : Addr} {ox : Obj} {od : Option Obj} {args : List Value} {Q : Option Value → Shared → Prop} (X : K.In s.heap) (I : PySem.W.InstAt s.heap x ox C od)
    (hs : PySem.W.findIn K (.ref C) "__ne__" = some (some (.builtin "object.__ne__")))
    (h : wpAny M A (call (.builtin "object.__ne__") (.ref x :: args)) (fun v => Q (some v)) E s) : wpAny M A (callSpecialIfBound? (.ref x) "__ne__" args) Q E s := by
  simp only [callSpecialIfBound?, bindSpecialIfBound?]
  refine wpAny_holding (wpAny_bind (wpAny_bind (wpAny_bind (I.type.here ((PySem.W.looks_findIn X hs).here ?_)))))
  refine wpAny_bind (wpAny_askSetting (wpAny_ite ?_))
  have fin : wpAny M A (call (.builtin "object.__ne__") ([.ref x] ++ args) >>= fun v => pure (some v)) Q E s := wpAny_bind (wpAny_mono h (fun v s' h' => wpAny_pure h') fun _ _ h' => h')
  split
  · exact wpAny_bind (wpAny_of_eq (F.cmp_object.ne.bind _) (wpAny_pure (by exact fin)))
  · exact wpAny_tryCatch (wpAny_bind (wpAny_of_eq (F.cmp_object.ne.bind _) (wpAny_pure (by exact fin))))
theorem rc_ne {prog : Program} {w : World} {K : PySem.W.Frag} {A : Around} {E : Value → Shared → Prop} {s : Shared} {x C f : Addr} {ox : Obj} {od : Option Obj} {b tb : Value} {Q : Value → Shared → Prop} (hu : A.units + 1 < cLine) (X : K.In s.heap) (I : PySem.W.InstAt s.heap x ox C od)
    (hb : PySem.W.Looks (model prog w) s.heap (typeOf b) tb) (hn : PySem.W.notFirst K C tb = true) (hm : PySem.W.mroIn K C (.type "object") = some true) (hs : PySem.W.findIn K (.ref C) "__ne__" = some (some (.builtin "object.__ne__")))
    (he : PySem.W.findIn K (.ref C) "__eq__" = some (some (.ref f))) (hf : PySem.W.isFn K (.ref f) = true)
    (h : wpAny (model prog w) A.in1 (call (.ref f) [.ref x, b]) (fun v s' => ∃ t, v = .bool t ∧ Q (.bool (!t)) s') E s) : wpAny (model prog w) A (richCompare .NotEq (.ref x) b) Q E s := by
  have one : wpAny (model prog w) A (tryCompare (.ref x) "__ne__" b) (fun r s' => ∃ v, r = some v ∧ Q v s') E s := by
    unfold tryCompare
    refine wpAny_bind (ifBound_objNe X I hs (wpAny_call (codeAny_call_builtin F.cmp_object.ne.plain F.cmpEntry_ne (PySem.W.check_slot F.cmpKind_ne F.cmpSplit_ne (I.type.andThen (PySem.W.looks_mroIn X hm)) (F.cmpArgs_ne _ _) ?_))))
    unfold Builtin.«object.__ne__»
    refine wpAny_bind (wpAny_pure ?_)
    refine wpAny_bind (wpAny_cRoomFor hu ?_)
    refine wpAny_bind (m := callSpecialIfBound? (.ref x) (Str.ofString "__eq__") [b]) (PySem.W.ifBound_K X I he hf (wpAny_mono h (fun v s' hv => ?_) fun _ _ e => e))
    obtain ⟨t, rfl, q⟩ := hv
    refine wpAny_bind (wpAny_truthy_bool ?_)
    exact wpAny_pure (by exact wpAny_pure ⟨_, rfl, q⟩)
  unfold richCompare
  simp only [oneThing_ref, cmpInfo_NotEq]
  refine wpAny_holding (wpAny_bind (wpAny_cRoomFor (Nat.lt_of_succ_lt hu) ?_))
  refine wpAny_bind (I.type.here (wpAny_bind (hb.here ?_)))
  split
  · rename_i q
    have e : PySem.W.subIn K tb (.ref C) = some false := by
      rcases Bool.or_eq_true_iff.mp hn with e | e
      · rw [beq_iff_eq.mp e] at q; simp at q
      · exact beq_iff_eq.mp e
    refine wpAny_bind ((PySem.W.looks_subIn X e).here ?_)
    simp only [Bool.false_eq_true, if_false]
    refine wpAny_bind (wpAny_mono one (fun r s' z => ?_) fun _ _ e => e)
    obtain ⟨v, rfl, hq⟩ := z
    exact wpAny_pure hq
  · refine wpAny_bind (wpAny_pure ?_)
    simp only [Bool.false_eq_true, if_false]
    refine wpAny_bind (wpAny_mono one (fun r s' z => ?_) fun _ _ e => e)
    obtain ⟨v, rfl, hq⟩ := z
    exact wpAny_pure hq
/-- the class keeps object's own != -/
structure NeO (K : PySem.W.Frag) (C : Addr) : Prop where
  at_ : PySem.W.findIn K (.ref C) "__ne__" = some (some (.builtin "object.__ne__"))
  mro : PySem.W.mroIn K C (.type "object") = some true
theorem op_neO (c : Sp1 X.K C g "__eq__") (n : NeO X.K C) (F : FnR X.prog X.w X.K X.mg X.base CX k g sp) (hr : Room (k + 1) X.A) (hx : Passes CX X E) : OpR X (compareOp .NotEq) (rEqO C sp E true) := by
  intro pins s σ H x y u v Q I rx ry h
  obtain ⟨a, b, dx, dy, fs, gs, rfl, rfl, ea, eb, q⟩ := h
  obtain rfl : u = Value.ref a := rx
  obtain rfl : v = Value.ref b := ry
  obtain ⟨ox, od, J⟩ := ins_inst I ea
  obtain ⟨oy, od', J'⟩ := ins_inst I eb
  have hu : X.A.units + 1 < cLine := by have := hr.un; omega
  refine PySem.W.cmp_ofNotEq (rc_ne hu I.kIn J J'.type (by simp [PySem.W.notFirst]) n.mro n.at_ c.at_ c.fn ?_)
  refine wpAny_mono (run_fnRA (us := [.ref a, .ref b]) (vs := [.ref a, .ref b]) F hr.in1 rfl hx I (.cons rfl (.cons rfl .nil)) q) (fun v s' z => ?_) fun _ _ z => z
  obtain ⟨w, H', I', rw_, t, rfl, q'⟩ := z
  obtain rfl : v = Value.bool t := rw_
  refine ⟨t, rfl, .bl (!t), H', I', rfl, ?_⟩
  rw [Bool.bne_true] at q'
  exact q'
end
/-! ### making -/
section
variable {X : Cx} {CX : CXT} {k i : Nat} {f C : Addr} {sp : Sp} {E : XK} {x : Str} {e : Expr} {te : TE} {p pos sp_ : Pos}
theorem pe_makeR0 (M : Mk X.K C f) (F : FnR X.prog X.w X.K X.mg X.base CX k f sp) (hr : Room (k + 1) X.A) (hg : Gl X x) (hm : X.mg x = some (.ref C)) (hx : Passes CX X E) (hdb : (x == ("__debug__" : Str)) = false := by decide) :
    PE X (.Call (.Name x p) [] [] pos) (StX.tMakeR C sp E tNil) := by
  refine ⟨fun pins s σ H Q I h => ?_⟩
  refine wpAny_Call_Name_kw (ld_glob I hg hm ?_ hdb)
  exact PySem.W.callWith_K0 I.kIn M.kp (StX.run_makeR (us := []) M F hr hx I .nil h)
/-- x(*e), x a variable that holds the class at C -/
def tMakeVS (K : PySem.W.Frag) (C : Addr) (sp : Sp) (E : XK) (tx te : TE) : TE := fun σ H Q => tx σ H fun c H0 => c = .ref C ∧ te σ H0 fun y H1 => ∃ a xs, y = .ref a ∧ (SqT K H1 a xs ∨ SqL K H1 a xs) ∧
  ∀ x dx, H1 x = none → H1 dx = none → dx ≠ x → sp (V.ref x :: xs) (upd (upd H1 dx (.own x)) x (.ins C dx [])) (fun v H2 => v = .non ∧ Q (.ref x) H2) E
theorem pe_makeVS {tx : TE} (M : Mk X.K C f) (F : FnR X.prog X.w X.K X.mg X.base CX k f sp) (hr : Room (k + 1) X.A) (hx : Passes CX X E) (hv : PE X (.Name x p) tx) (he : PE X e te)
    (hst : starEach [.Starred e sp_] X.env = [(true, eval e X.env)] := by rfl) : PE X (.Call (.Name x p) [.Starred e sp_] [] pos) (tMakeVS X.K C sp E tx te) := by
  refine ⟨fun pins s σ H Q I h => ?_⟩
  refine wpAny_Call_Name_kw (thn (hv.run pins s σ H _ I h) fun u s1 ⟨c, H0, I0, rc, ec, q⟩ => ?_)
  subst ec
  obtain rfl : u = Value.ref C := rc
  refine PySem.W.callWith_S (h₀ := X.base) I.ok.mod.kin M.kp (thn (he.run pins s1 σ H0 _ I0 q) fun v s2 ⟨y, H1, I1, ry, a, xs, ey, hxs, q1⟩ => ?_) hst
  subst ey
  obtain rfl : v = Value.ref a := ry
  exact StX.star_any I1 hxs fun us s3 I3 rv => ⟨I3.kIn, StX.run_makeR M F hr hx I3 rv q1⟩
/-- C(*e), C a class of the module -/
theorem pe_makeS (M : Mk X.K C f) (F : FnR X.prog X.w X.K X.mg X.base CX k f sp) (hr : Room (k + 1) X.A) (hg : Gl X x) (hm : X.mg x = some (.ref C)) (hx : Passes CX X E) (he : PE X e te) (hdb : (x == ("__debug__" : Str)) = false := by decide)
    (hst : starEach [.Starred e sp_] X.env = [(true, eval e X.env)] := by rfl) : PE X (.Call (.Name x p) [.Starred e sp_] [] pos) (tMakeVS X.K C sp E (tC (.ref C)) te) :=
  pe_makeVS M F hr hx (pe_glob (v := .ref C) hg hm rfl hdb) he hst
end
end Ly

namespace Ly
open PySem PySem.Spec PyProof.Rows L2
section
variable {P : Program} {w : World} {K : PySem.W.Frag} {mg : Str → Option Value} {base : Heap} {k : Nat} {f : Addr} {fd : FuncData} {x qual : Str} {st : Stmt} {N ps : List Str} {pv : Str} {sp : Sp}
/-- a def whose last parameter takes what is left -/
theorem fun_star (F : Fun K x qual st f fd) (S : FnScope N (ps ++ [pv]) (defScope st))
    (hb : ∀ (kV doc pm : Value) (an : Option Addr) (cdv ct : Value) (us rest : List Value), us.length = ps.length → bindArgs (PySem.W.fnOf x qual (defArgs st) (defBody st) (defScope st) .none kV doc pm an cdv ct) ⟨us ++ rest, []⟩ = (newTuple rest >>= fun t => pure (ps.zip us ++ [(pv, t)])))
    (hbody : ∀ (cdv : Value) (A : Around) (outer : List Env) (s : Shared) (H : Hp) (vs : List V) (Q : VK) (E : XK), Room k (A.deeper (envOfC qual (defScope st) s.heap.objs.size f cdv)) → sp vs H Q E →
      ∃ t, PSs (cxOf CX0 P w K mg base N qual (defScope st) f cdv A outer s H E).nox (defBody st) t ∧ t { nx := fun _ H' => Q .non H', rt := Q } (start N vs) H) :
    FnR P w K mg base CX0 (k + 1) f (fun vs H Q E => ∃ ws rest, vs = ws ++ rest ∧ ws.length = ps.length ∧ rest.length ≤ sizeLine ∧ ∀ p, H p = none → sp (ws ++ [V.ref p]) (upd H p (.tup rest)) Q E) := by
  obtain ⟨oc, od, kV, doc, pm, an, cdv, ct, osl, rfl, lk, hcd⟩ := F.ex
  refine StX.fn_star lk hcd S StX.cxUp_none (fun us rest h => hb kV doc pm an cdv ct us rest h) fun A outer s H vs Q E hr hsp => ?_
  obtain ⟨t, h, q⟩ := hbody cdv A outer s H vs Q E hr hsp
  exact ⟨t, h.nox, q⟩
/-- a def of a class -/
structure Dm (K : PySem.W.Frag) (x qual : Str) (st : Stmt) (ps : List Str) (f : Addr) (fd : FuncData) : Prop where
  F : Fun K x qual st f fd
  b : Binds K fd ps []
theorem Dm.raw {CX : CXT} {x qual : Str} {st : Stmt} (D : Dm K x qual st ps f fd) (o : FnOk P w K mg base CX k f fd ps sp) : FnR P w K mg base CX k f sp := by
  have z := o.raw D.b .nil
  exact z.imp fun vs H Q E h => by rw [List.append_nil]; exact h
end
end Ly
namespace Ly
open PySem PySem.Spec PyProof.Rows L2
/-- a comprehension over things that stay: what is kept is told by f -/
theorem lc_fm {J : It} {g : TG} {tt : TT} {te : TE} {vs : List Nat} {σ : L2.St} {H1 : Hp} {D : Addr} {Qd : Hp → Prop} (xs : List V) (f : V → Option V) (nD : H1 D = none) (hz : xs.length ≤ sizeLine)
    (hgo : ∀ (i : Nat) (H : Hp), i < xs.length → Same H1 H → J.go i H) (hst : ∀ H, Same H1 H → J.stop xs.length H) (hy : ∀ (i : Nat) (x : V) (H H' : Hp), Same H1 H → J.yld i H x H' → H' = H ∧ xs[i]? = some x)
    (hs : ∀ (i : Nat) (x : V) (H : Hp) (Q : VK) (N : Hp → Prop), xs[i]? = some x → Same H1 H → (∀ y H4, f x = some y → Same H H4 → Q y H4) → (f x = none → ∀ H4, Same H H4 → N H4) →
      g x (wipe σ vs) H fun σ2 H2 => wipe σ2 vs = wipe σ vs ∧ tt σ2 H2 fun b H3 => if b = true then te σ2 H3 Q else N H3)
    (hd : ∀ H', Same H1 H' → H' D = some (.lst (xs.filterMap f)) → Qd H') : LcW J g tt te vs σ H1 D Qd := by
  refine lc_gen (n := xs.length) (fun i H => Same H1 H ∧ H D = some (.lst ((xs.take i).filterMap f))) ⟨same_new nD, upd_same⟩ (fun i H hi p => hgo i H hi p.1) (fun H p => hst H p.1) (fun i x H H' hi p y => ?_) (fun H p => ?_)
  · obtain ⟨s, hd'⟩ := p
    obtain ⟨rfl, hx⟩ := hy i x H H' s y
    have hstep : ∀ o : Option V, f x = o → (xs.take (i + 1)).filterMap f = (xs.take i).filterMap f ++ o.toList := fun o e => by
      rw [List.take_add_one, hx, List.filterMap_append]
      show _ ++ [x].filterMap f = _
      rw [List.filterMap_cons, e]
      cases o <;> rfl
    refine hs i x H' _ _ hx s (fun y H4 e s4 => ⟨_, s4 _ _ hd', ?_, same_set (s.trans s4) nD, ?_⟩) fun e H4 s4 => ⟨s.trans s4, ?_⟩
    · refine Nat.lt_of_le_of_lt (List.length_filterMap_le _ _) ?_
      rw [List.length_take]
      omega
    · rw [upd_same, hstep _ e]
      rfl
    · rw [hstep _ e, s4 _ _ hd']
      show _ = some (HO.lst (_ ++ []))
      rw [List.append_nil]
  · obtain ⟨s, hd'⟩ := p
    rw [List.take_of_length_le (Nat.le_refl _)] at hd'
    exact hd H s hd'
theorem filterMap_some {α β : Type} (f : α → β) : ∀ xs : List α, xs.filterMap (fun x => some (f x)) = xs.map f
  | [] => rfl
  | x :: xs => by
    rw [List.filterMap_cons, filterMap_some f xs]
    rfl
/-- .. over a tuple, all of it -/
theorem lc_mapT {K : PySem.W.Frag} {a : Addr} {g : TG} {tt : TT} {te : TE} {vs : List Nat} {σ : L2.St} {H1 : Hp} {D : Addr} {Qd : Hp → Prop} (xs : List V) (f : V → V) (hS : SqT K H1 a xs) (nD : H1 D = none) (hz : xs.length ≤ sizeLine)
    (hs : ∀ (i : Nat) (x : V) (H : Hp) (Q : VK) (N : Hp → Prop), xs[i]? = some x → Same H1 H → (∀ H4, Same H H4 → Q (f x) H4) → g x (wipe σ vs) H fun σ2 H2 => wipe σ2 vs = wipe σ vs ∧ tt σ2 H2 fun b H3 => if b = true then te σ2 H3 Q else N H3)
    (hd : ∀ H', Same H1 H' → H' D = some (.lst (xs.map f)) → Qd H') : LcW (Itt K a) g tt te vs σ H1 D Qd := by
  refine lc_tup (xs := xs) (fun i H => Same H1 H ∧ H D = some (.lst ((xs.take i).map f))) ⟨same_new nD, upd_same⟩ (fun i H _ p => sameT p.1 hS) (fun i x H hx p => ?_) (fun H p => ?_)
  · obtain ⟨s, hd'⟩ := p
    refine hs i x H _ _ hx s fun H4 s4 => ⟨_, s4 _ _ hd', ?_, same_set (s.trans s4) nD, ?_⟩
    · rw [List.length_map, List.length_take]
      have := (List.getElem?_eq_some_iff.mp hx).1
      omega
    · rw [upd_same, List.take_add_one, hx, List.map_append]
      rfl
  · obtain ⟨s, hd'⟩ := p
    rw [List.take_of_length_le (Nat.le_refl _)] at hd'
    exact hd H s hd'
/-- .. over a list -/
theorem lc_mapL {K : PySem.W.Frag} {a : Addr} {g : TG} {tt : TT} {te : TE} {vs : List Nat} {σ : L2.St} {H1 : Hp} {D : Addr} {Qd : Hp → Prop} (xs : List V) (f : V → Option V) (hS : SqL K H1 a xs) (nD : H1 D = none) (hz : xs.length ≤ sizeLine)
    (hs : ∀ (i : Nat) (x : V) (H : Hp) (Q : VK) (N : Hp → Prop), xs[i]? = some x → Same H1 H → (∀ y H4, f x = some y → Same H H4 → Q y H4) → (f x = none → ∀ H4, Same H H4 → N H4) →
      g x (wipe σ vs) H fun σ2 H2 => wipe σ2 vs = wipe σ vs ∧ tt σ2 H2 fun b H3 => if b = true then te σ2 H3 Q else N H3)
    (hd : ∀ H', Same H1 H' → H' D = some (.lst (xs.filterMap f)) → Qd H') : LcW (Itl K a) g tt te vs σ H1 D Qd := by
  have hS' : ∀ H, Same H1 H → SqL K H a xs := fun H s => by
    rcases hS with (h | ⟨o, h⟩) | h
    · exact .inl (.inl (s _ _ h))
    · exact .inl (.inr ⟨o, s _ _ h⟩)
    · exact .inr h
  refine lc_list (xs := xs) (fun i H => Same H1 H ∧ H D = some (.lst ((xs.take i).filterMap f))) ⟨same_new nD, upd_same⟩ (fun i H _ p => hS' H p.1) (fun i x H hx p => ?_) (fun H p => ?_)
  · obtain ⟨s, hd'⟩ := p
    have hi := (List.getElem?_eq_some_iff.mp hx).1
    have hstep : ∀ o : Option V, f x = o → (xs.take (i + 1)).filterMap f = (xs.take i).filterMap f ++ o.toList := fun o e => by
      rw [List.take_add_one, hx, List.filterMap_append]
      show _ ++ [x].filterMap f = _
      rw [List.filterMap_cons, e]
      cases o <;> rfl
    refine hs i x H _ _ hx s (fun y H4 e s4 => ⟨_, s4 _ _ hd', ?_, same_set (s.trans s4) nD, ?_⟩) fun e H4 s4 => ⟨s.trans s4, ?_⟩
    · refine Nat.lt_of_le_of_lt (List.length_filterMap_le _ _) ?_
      rw [List.length_take]
      omega
    · rw [upd_same, hstep _ e]
      rfl
    · rw [hstep _ e, s4 _ _ hd']
      show _ = some (HO.lst (_ ++ []))
      rw [List.append_nil]
  · obtain ⟨s, hd'⟩ := p
    rw [List.take_of_length_le (Nat.le_refl _)] at hd'
    exact hd H s hd'
end Ly

set_option Elab.async false
set_option linter.all false
set_option maxRecDepth 100000
set_option maxHeartbeats 4000000
/-! == and != of an own instance with a value of any known type, by the class's own == -/
namespace Ly
open PySem PySem.Spec PyProof.Rows L2
section
variable {X : Cx} {CX : CXT} {k : Nat} {g C : Addr} {sp : Sp} {E : XK}
def rEqX (K : PySem.W.Frag) (C : Addr) (sp : Sp) (E : XK) (neg : Bool) : R2 := fun x y H Q => ∃ a dx fs t, x = .ref a ∧ H a = some (.ins C dx fs) ∧ TyX K H y t ∧ PySem.W.notFirst K C t = true ∧
  sp [.ref a, y] H (fun v H' => ∃ b : Bool, v = .bl b ∧ Q (.bl (b != neg)) H') E
theorem op_eqX (c : Sp1 X.K C g "__eq__") (F : FnR X.prog X.w X.K X.mg X.base CX k g sp) (hr : Room k X.A) (hx : Passes CX X E) : OpR X (compareOp .Eq) (rEqX X.K C sp E false) := by
  intro pins s σ H x y u v Q I rx ry h
  obtain ⟨a, dx, fs, t, rfl, ea, ty, hn, q⟩ := h
  obtain rfl : u = Value.ref a := rx
  obtain ⟨ox, od, J⟩ := ins_inst I ea
  obtain ⟨Pk, Z, hP, _⟩ := kit_of I ry ty
  obtain ⟨m, hF⟩ := I.fr
  refine PySem.W.cmp_ofEq (PySem.W.cmp_K (op := .Eq) (tb := t) hr.units0 hF I.ok.mod.kin J (Z.ty _ _ I.kIn hP) hn c.at_ c.fn ?_)
  refine wpAny_mono (run_fnRA (us := [.ref a, v]) (vs := [.ref a, y]) F hr rfl hx I (.cons rfl (.cons ry .nil)) q) (fun v s' z => ?_) fun _ _ z => z
  obtain ⟨w, H', I', rw_, b, rfl, q'⟩ := z
  obtain rfl : v = Value.bool b := rw_
  refine ⟨.bl b, H', I', rfl, ?_⟩
  rw [Bool.bne_false] at q'
  exact q'
theorem op_neX (c : Sp1 X.K C g "__eq__") (n : NeO X.K C) (F : FnR X.prog X.w X.K X.mg X.base CX k g sp) (hr : Room (k + 1) X.A) (hx : Passes CX X E) : OpR X (compareOp .NotEq) (rEqX X.K C sp E true) := by
  intro pins s σ H x y u v Q I rx ry h
  obtain ⟨a, dx, fs, t, rfl, ea, ty, hn, q⟩ := h
  obtain rfl : u = Value.ref a := rx
  obtain ⟨ox, od, J⟩ := ins_inst I ea
  obtain ⟨Pk, Z, hP, _⟩ := kit_of I ry ty
  have hu : X.A.units + 1 < cLine := by have := hr.un; omega
  refine PySem.W.cmp_ofNotEq (rc_ne hu I.kIn J (Z.ty _ _ I.kIn hP) hn n.mro n.at_ c.at_ c.fn ?_)
  refine wpAny_mono (run_fnRA (us := [.ref a, v]) (vs := [.ref a, y]) F hr.in1 rfl hx I (.cons rfl (.cons ry .nil)) q) (fun v s' z => ?_) fun _ _ z => z
  obtain ⟨w, H', I', rw_, b, rfl, q'⟩ := z
  obtain rfl : v = Value.bool b := rw_
  refine ⟨b, rfl, .bl (!b), H', I', rfl, ?_⟩
  rw [Bool.bne_true] at q'
  exact q'
end
/-! ### an own binary operator: x >> y -/
section
variable {X : Cx} {CX : CXT} {k : Nat} {g C : Addr} {sp : Sp} {E : XK}
/-- two instances of the class at C -/
def rOpO (C : Addr) (sp : Sp) (E : XK) : R2 := fun x y H Q => ∃ a b dx dy fs gs, x = .ref a ∧ y = .ref b ∧ H a = some (.ins C dx fs) ∧ H b = some (.ins C dy gs) ∧
  sp [.ref a, .ref b] H (fun v H' => (∃ p, v = .ref p) ∧ Q v H') E
theorem op_ownO {op : Operator} (hs : PySem.W.findIn X.K (.ref C) (PySem.dunder op.info.2) = some (some (.ref g))) (hf : PySem.W.isFn X.K (.ref g) = true) (hc : PySem.W.selfFirst X.K C = true) (F : FnR X.prog X.w X.K X.mg X.base CX k g sp) (hr : Room k X.A) (hx : Passes CX X E) :
    OpR X (binaryOp op) (rOpO C sp E) := by
  intro pins s σ H x y u v Q I rx ry h
  obtain ⟨a, b, dx, dy, fs, gs, rfl, rfl, ea, eb, q⟩ := h
  obtain rfl : u = Value.ref a := rx
  obtain rfl : v = Value.ref b := ry
  obtain ⟨ox, od, J⟩ := ins_inst I ea
  obtain ⟨oy, od', J'⟩ := ins_inst I eb
  obtain ⟨m, hF⟩ := I.fr
  refine PySem.W.binop_K hF I.ok.mod.kin J J'.type hc hs hf ?_
  refine wpAny_mono (run_fnRA (us := [.ref a, .ref b]) (vs := [.ref a, .ref b]) F hr rfl hx I (.cons rfl (.cons rfl .nil)) q) (fun v s' z => ?_) fun _ _ z => z
  obtain ⟨w, H', I', rw_, ⟨p, rfl⟩, q'⟩ := z
  obtain rfl : v = Value.ref p := rw_
  exact ⟨.ref p, H', I', rfl, q'⟩
end
end Ly

namespace Ly
open PySem PySem.Spec PyProof.Rows L2
section
variable {X : Cx} {K : PySem.W.Frag}
/-- a tuple walked, a tuple taken apart: said of the written part that a block shares with its def -/
theorem piTK {tg e : Expr} {te : TE} (h : X.K = K) (he : PE X e te) : PI X tg e (iTup K te) := h ▸ pi_tup he
theorem pgTK {es : List Expr} {k : Nat} {t : TGs} {n : Nat} {pos : Pos} (h : X.K = K) (hc : X.calm = true) (hg : PGs X es t)
    (hn : (assignEach es X.env).length = n := by rfl) (hst : (assignEach es X.env).findIdx? (·.1) = none := by rfl) : PG X (.Tuple es k pos) (gTup K n t) := h ▸ pg_tup hc hg hn hst
end
end Ly

set_option Elab.async false
set_option linter.all false
set_option maxRecDepth 100000
set_option maxHeartbeats 4000000
/-! own layer: an own exception class with its own __init__, over any base -/
namespace PySem
namespace LX
open Builtin Builtin.ObjectAttr PySem.HandSPX
variable {prog : Program} {w : World} {A : Around} {E : Value → Shared → Prop} {R : Result → Shared → Prop} {hp : Heap} {g : Array GenState} {d : Drawn} {t : Nat} {os : OsState}
/-- object.__setattr__ upon an exception that has no dict as yet, where nobody in the mro objects -/
theorem osa_any {K : W.Frag} {name : Str} {tk : Tok} {v : Value} {x C : Addr} {fv : Array Value} {cd : ClassData} (kIn : K.In hp) (hx : hp.get? x = some { cls := .ref C, data := .fields fv }) (hcd : W.clsIn K C = some cd)
    (he : cd.mro.isEmpty = false) (hob : cd.mro.contains (.type "object") = true) (hps : refuseLoop (.ref x) "__setattr__" cd.mro = pure ()) (hh : cd.hasDict = true) (ha : W.findIn K (.ref C) name = some none)
    (hq : ∀ h' tk' dx, (∀ b o, b ≠ x → hp.get? b = some o → h'.get? b = some o) → hp.objs.size ≤ dx → dx ≠ x → h'.get? x = some { cls := .ref C, dict := some dx, data := .fields fv } → h'.Ns1 dx (fun y => if y = name then some v else none) → R (.ok (.ret .none)) ⟨h', g, d, tk', os⟩) :
    codeAny (model prog w) A (.call (.builtin "object.__setattr__") ⟨[.ref x, .str name tk, v], []⟩) R ⟨hp, g, d, t, os⟩ := by
  have J : W.InstAt hp x { cls := .ref C, data := .fields fv } C none := ⟨hx, rfl, rfl, trivial⟩
  have nxs : x ≠ hp.objs.size := Nat.ne_of_lt (Heap.lt_size hx)
  have isO : W.Looks (model prog w) hp (isInstance (.ref x) (.type "object")) true := J.type.andThen (W.looks_mroIn kIn (by unfold W.mroIn; rw [hcd, Option.bind_some, if_neg (by rw [he]; decide), hob]))
  refine codeAny_call_builtin F.store_object.slot.plain F.store_object.entry (@W.check_slot (model prog w) _ _ ⟨hp, g, d, t, os⟩ "object.__setattr__" "object" "__setattr__" (.ref x) [.str name tk, v] [] _ F.store_object.kind F.store_object.split isO (F.store_object.args (.ref x) (.str name tk) v) ?_)
  have lm : W.Looks (model prog w) hp (mroOf (.ref C)) cd.mro := (W.looks_clsIn kIn hcd).andThen .now
  have lc : W.Looks (model prog w) hp (classData C) cd := W.looks_clsIn kIn hcd
  have ln : W.Looks (model prog w) hp (storeTaker? none) none := .now
  rw [W.osa_eq, refuse_eq]; refine wpAny_bind (wpAny_bind (J.type.at (wpAny_bind (lm.at ?_)))); rw [hps]
  refine wpAny_pure (wpAny_bind (J.type.at (wpAny_bind ((W.looks_findIn kIn ha).at (wpAny_bind (ln.at ?_)))))); show wpAny _ _ (storeInOwnDict (.ref x) (.ref C) (.str name tk) name v false) _ _ _
  obtain ⟨nm, bs, mro, ns, qn, hd, sn, sb, ab, col, del⟩ := cd
  dsimp only at hh; subst hh
  unfold storeInOwnDict ownDictForStores
  repeat (first | with_reducible refine store_in_new ?_ ?_ | with_reducible refine wpAny_loadPart_at hx ?_ | with_reducible refine lc.at ?_ | wp_step)
  · exact ⟨_, #[], _, (Heap.get?_update_ne _ _ _ _ nxs.symm).trans (Heap.get?_push_at rfl rfl), rfl, fun e he => absurd he (by simp), fun _ => rfl⟩
  · intro h' tk' hn' hs
    have hx1 : (hp.push { cls := .type "dict", data := .dict #[] }).get? x = some { cls := .ref C, data := .fields fv } := Heap.get?_push_of_some _ hx
    exact hq h' tk' hp.objs.size (fun b o hb ho => (hs.2 b (Nat.ne_of_lt (Heap.lt_size ho))).trans ((Heap.get?_update_ne _ _ _ _ hb).trans (Heap.get?_push_of_some _ ho))) (Nat.le_refl _) nxs.symm ((hs.2 x nxs).trans (Heap.get?_update_self _ hx1 rfl)) hn'
end LX
end PySem
namespace Ly
open PySem PySem.Spec PyProof.Rows L2
/-- what the written part says of such a class, its base the built-in class B -/
structure OexX (K : PySem.W.Frag) (C : Addr) (B newId initId : String) (bm : List Value) : Prop where
  base : ExcBaseFacts B newId initId bm
  pass : ∀ self : Value, refuseLoop self "__setattr__" bm = pure ()
  obj : bm.contains (.type "object") = true
  cls : ∃ nm q N bs sn sub ab col dd k0 k1 k2 k3 k5, K.lookup C = some (excClassObj nm q C N bs bm true sn sub ab col dd k0 k1 k2 k3 k5 newId)
  sa : PySem.W.findIn K (.ref C) "__setattr__" = some (some (.builtin "object.__setattr__"))
  exC : PySem.W.subIn K (.ref C) (.type "BaseException") = some true
  tyC : PySem.W.typeIn K (.ref C) = some (.type "type")
  kC : PySem.W.keepIn K (.ref C) = true
section
variable {X : Cx} {pins : List (Addr × Obj)} {σ : L2.St} {H : Hp} {s : Shared} {a C dx : Addr} {f : Str} {y : V} {u : Value} {B newId initId : String} {bm : List Value}
/-- self.f = y, the first one -/
theorem ost_first {Q : Unit → Shared → Prop} {E : Value → Shared → Prop} {A : Around} (T : OexX X.K C B newId initId bm) (I : Inv X pins σ H s) (e : H a = some (exo a C none)) (hno : PySem.W.findIn X.K (.ref C) f = some none) (ry : RelV y u)
    (h : ∀ dx s', H dx = none → dx ≠ a → Inv X pins σ (upd (upd H dx (exd dx [(f, y)])) a (exo a C (some dx))) s' → Q () s') : wpAny (model X.prog X.w) A (setAttr (.ref a) f u) Q E s := by
  obtain ⟨nm, q, N, bs, sn, sub, ab, col, dd, k0, k1, k2, k3, k5, lC⟩ := T.cls
  obtain ⟨t1, ho⟩ := exo_at I.hok e
  obtain ⟨hp, gs, dr, t, os⟩ := s
  have lcd : PySem.W.clsIn X.K C = some { name := nm, bases := bs, mro := .ref C :: bm, ns := N, qualname := q, hasDict := true, slotNames := sn, subclasses := sub, abstract := ab, collection := col, hasDel := false } := by
    unfold PySem.W.clsIn
    rw [lC] <;> rfl
  refine PySem.W.set_plain I.kIn (ox := { cls := .ref C, dict := none, data := .fields #[.ref t1, .none, .none, .none, .bool false, .none] }) (od := none) ⟨ho, rfl, rfl, trivial⟩ T.sa ?_
  refine PySem.LX.osa_any I.kIn ho lcd rfl (by show (Value.ref C :: bm).contains _ = true; rw [List.contains_cons, T.obj, Bool.or_true]) ((refuseLoop_ref _ _ _ _).trans (T.pass _)) rfl hno (fun h' tk' dx k dn dne hx hn => ?_)
  have fd : H dx = none := I.hok.fresh dn
  have fa : ∀ {b : Addr}, H b = none → b ≠ a := fun {b} n z => by
    rw [z, e] at n
    cases n
  have fb : ∀ {b : Addr} {o : Obj}, hp.get? b = some o → b ≠ dx := fun {b o} z => Nat.ne_of_lt (Nat.lt_of_lt_of_le (Heap.lt_size z) dn)
  have U : Un X.fs [] H (upd (upd H dx (exd dx [(f, y)])) a (exo a C (some dx))) hp h' :=
    { keep := fun b o z n _ _ => k b o (fa n) z
      slot := fun b o z n _ _ => ⟨o.slots, k b o (fa n) z⟩
      free := fun b o z n _ => (upd_ne (fa n)).trans ((upd_ne (fb z)).trans n)
      there := fun b o z _ => by
        by_cases hb : b = a
        · exact ⟨_, by rw [hb]; exact hx⟩
        · exact ⟨o, k b o hb z⟩
      tups := fun b xs z => (upd_ne (at_ne e z exo_tup)).trans ((upd_ne (ne_of_none z fd)).trans z)
      frzs := fun b o v z => (upd_ne (at_ne e z exo_frz)).trans ((upd_ne (ne_of_none z fd)).trans z)
      tbls := fun b ps z => ⟨#[], by rw [upd_ne (at_ne e z exo_tbl), upd_ne (ne_of_none z fd), z]; simp⟩ }
  refine h dx _ fd dne (I.un (t' := tk') U fun b o z => ?_)
  by_cases hb : b = a
  · subst hb
    rw [upd_same] at z
    cases z
    exact exo_ok hx
  rw [upd_ne hb] at z
  by_cases hd : b = dx
  · subst hd
    rw [upd_same] at z
    cases z
    exact exd_ok hn (relO_put (fs := []) ry fun _ => True.intro)
  rw [upd_ne hd] at z
  refine (I.hok b o z).stay (fun c v hc w' => k c v ?_ w') (fun c hc => (upd_ne (at_ne e hc exo_own)).trans ((upd_ne (ne_of_none hc fd)).trans hc)) (fun c xs hc => (upd_ne (at_ne e hc exo_tup)).trans ((upd_ne (ne_of_none hc fd)).trans hc))
  rcases hc with hc | hc
  · rw [hc]
    exact hb
  · exact at_ne e hc exo_own
end
/-- self.f = e, the first field -/
def tOst1 (K : PySem.W.Frag) (C : Addr) (f : Str) (to te : TE) : TS := fun D σ H => te σ H fun y H1 => to σ H1 fun x H2 => ∃ a : Addr, x = .ref a ∧ H2 a = some (exo a C none) ∧ ∀ dx, H2 dx = none → dx ≠ a → D.nx σ (upd (upd H2 dx (exd dx [(f, y)])) a (exo a C (some dx)))
section
variable {X : Cx} {o e : Expr} {es : List Expr} {to te : TE} {ta : TA} {f : Str} {p p' pos : Pos} {C : Addr} {B newId initId : String} {bm : List Value}
theorem ps_ost1 (T : OexX X.K C B newId initId bm) (hno : PySem.W.findIn X.K (.ref C) f = some none) (ho : PE X o to) (he : PE X e te) (hs : swapsWith e (some (.Attribute o f p')) pos.line X.env = pure false := by rfl) : PS X (.Assign [.Attribute o f p'] e pos) (tOst1 X.K C f to te) := by
  refine ⟨fun pins s σ H D I h => ?_⟩
  refine plainObj_wpAny_Assign_Attribute (thn (he.run pins s σ H _ I h) fun v s1 ⟨y, H1, I1, r1, q1⟩ => thn (ho.run pins s1 σ H1 _ I1 q1) fun u s2 ⟨x, H2, I2, r2, a, ex, ea, q⟩ => ?_) hs
  subst ex
  obtain rfl : u = Value.ref a := r2
  exact ost_first T I2 ea hno r1 fun dx s' n ne J => ⟨σ, _, J, q dx n ne⟩
/-- C(e, ..): its own __init__ keeps sp -/
theorem pmk_any {CX : CXT} {x : Str} {fI : Addr} {k : Nat} {fd : FuncData} {ps : List Str} {sp : Sp} {ds : List Value} {dvs : List V} (T : OexX X.K C B newId initId bm) (iC : PySem.W.findIn X.K (.ref C) "__init__" = some (some (.ref fI))) (tI : PySem.W.typeIn X.K (.ref fI) = some (.type "function"))
    (F1 : FnOk X.prog X.w X.K X.mg X.base CX k fI fd ps sp) (hr : Room (k + 1) X.A) (hb : Binds X.K fd ps ds) (hd : Vals dvs ds) (hx : Passes CX X (fun _ _ _ => False)) (hg : Gl X x) (hm : X.mg x = some (.ref C)) (ha : PA X (e :: es) ta)
    (hdb : (x == ("__debug__" : Str)) = false := by decide) (he : starEach (e :: es) X.env = (false, eval e X.env) :: starEach es X.env := by rfl) (hpl : (backTo pos (starEach es X.env)).any (·.1) = false := by rfl) :
    PMk X (.Call (.Name x p) (e :: es) [] pos) (tMkO C sp dvs ta) := by
  intro pins s σ H Q I h
  obtain ⟨nm, q, N, bs, sn, sub, ab, col, dd, k0, k1, k2, k3, k5, lC⟩ := T.cls
  refine wpAny_Call_Name_kw (ld_glob I hg hm ?_ hdb)
  refine PySem.W.callWith_K (h₀ := X.base) I.ok.mod.kin T.kC (thn (ha.run pos pins s σ H _ I h) fun us s1 ⟨vs, H1, I1, r1, hz, q1⟩ => ⟨I1.kIn, ?_⟩) he hpl
  show wpAny _ _ (call (.ref C) us) _ _ _
  obtain ⟨hp, gs, dr, tk, os⟩ := s1
  have le1 : hp.objs.size ≤ hp.objs.size + 1 := Nat.le_succ _
  have hq := q1 (hp.objs.size + 1) (I1.hok.fresh le1)
  have up : ∀ b o, hp.get? b = some o → ((hp.push (PySem.W.kdv_tup us)).push (PySem.HandSPX.excO C hp.objs.size)).get? b = some o := fun b o z => Heap.get?_push_of_some _ (Heap.get?_push_of_some _ z)
  have at1 : ((hp.push (PySem.W.kdv_tup us)).push (PySem.HandSPX.excO C hp.objs.size)).get? (hp.objs.size + 1) = some (PySem.HandSPX.excO C hp.objs.size) := by heap_get
  have J : Inv X pins σ (upd H1 (hp.objs.size + 1) (exo (hp.objs.size + 1) C none)) ⟨(hp.push (PySem.W.kdv_tup us)).push (PySem.HandSPX.excO C hp.objs.size), gs, dr, tk, os⟩ :=
    I1.laid (t' := tk) (a := hp.objs.size + 1) (o := exo (hp.objs.size + 1) C none) (h' := (hp.push (PySem.W.kdv_tup us)).push (PySem.HandSPX.excO C hp.objs.size)) up le1 (exo_ok at1)
  have rv : Vals (V.ref (hp.objs.size + 1) :: (vs ++ dvs)) (Value.ref (hp.objs.size + 1) :: (us ++ ds)) := .cons rfl (r1.append hd)
  have nl : (Value.ref (hp.objs.size + 1) :: us ++ ds).length = ps.length := (rv.length.symm.trans (F1.len _ _ _ _ hq))
  have nu : us.length ≤ sizeLine := by
    rw [← Paired.length r1, sizeLine_eq]
    omega
  refine wpAny_call (PySem.HandSPX.call_own T.base (fun _ => rfl) (I1.kIn _ _ lC) (PySem.W.looks_findIn I1.kIn iC) (fun self => PySem.W.bind_fn I1.kIn self tI) nu
    (codeAny_mono (F1.run _ X.stack _ _ ⟨Value.ref (hp.objs.size + 1) :: us, []⟩ (Value.ref (hp.objs.size + 1) :: (us ++ ds)) _ _ (fun _ _ _ => False) (hr.make C us []) (J.env0.make C us []) (hb _ (Value.ref (hp.objs.size + 1) :: us) J.kIn nl) rv hq) fun r s' hq' => ?_))
  rcases r with er | fl
  · exact hx pins σ _ _ er s' J hq'
  · cases fl with
    | ret u =>
      obtain ⟨v, H2, os2, bare2, un2, hok2, rv2, ev, d, fs, ea, ed, hd1, q2⟩ := hq'
      subst ev
      obtain ⟨h2, g2, d2, t2, os'⟩ := s'
      exact ⟨rv2, mk_end (raises_own T.exC T.tyC) I1 le1 up un2 hok2 os2 bare2 ea ed hd1 q2⟩
    | next | brk | cont => exact False.elim hq'
end
end Ly
namespace Ly
open PySem PySem.Spec PyProof.Rows L2
section
variable {X : Cx} {pins : List (Addr × Obj)} {σ : L2.St} {H : Hp} {s : Shared}
theorem run_fnAt {CX : CXT} {k : Nat} {f : Addr} {sp : Sp} {E : XK} {Q : VK} {us : List Value} {vs : List V} {A : Around} (F : FnR X.prog X.w X.K X.mg X.base CX k f sp) (hr : Room k A) (hf : A.frames = X.A.frames) (hx : PassesAt CX X σ E) (I : Inv X pins σ H s) (r : Vals vs us) (h : sp vs H Q E) :
    wpAny (model X.prog X.w) A (call (.ref f) us) (EP X pins σ Q) X.xe s := by
  refine wpAny_call (codeAny_mono (F A X.stack s H us vs Q E hr ⟨hf.trans I.env0.frames, I.env0.mod, I.env0.bs, I.env0.bsz, I.env0.funs, I.env0.frf, I.env0.hok, I.env0.bare⟩ r h) fun r s' hq => ?_)
  cases r with
  | error e => exact hx pins H s e s' I hq
  | ok fl =>
    cases fl with
    | ret u => exact I.after hq
    | next | brk | cont => exact False.elim hq
/-- x op y by the class's own def, which may raise -/
def tOpS (C : Addr) (sp : Sp) (E : L2.St → XK) (ta tb : TE) : TE := fun σ H Q => ta σ H fun x H1 => tb σ H1 fun y H2 => ∃ a b dx dy fs gs, x = .ref a ∧ y = .ref b ∧ H2 a = some (.ins C dx fs) ∧ H2 b = some (.ins C dy gs) ∧ sp [.ref a, .ref b] H2 (fun v H' => (∃ p, v = .ref p) ∧ Q v H') (E σ)
theorem pe_opS {CX : CXT} {k : Nat} {g C : Addr} {sp : Sp} {E : L2.St → XK} {op : Operator} {a b : Expr} {ta tb : TE} {pos : Pos} (hs : PySem.W.findIn X.K (.ref C) (PySem.dunder op.info.2) = some (some (.ref g))) (hf : PySem.W.isFn X.K (.ref g) = true) (hc : PySem.W.selfFirst X.K C = true)
    (F : FnR X.prog X.w X.K X.mg X.base CX k g sp) (hr : Room k X.A) (hx : ∀ σ, PassesAt CX X σ (E σ)) (ha : PE X a ta) (hb : PE X b tb) : PE X (.BinOp a op b pos) (tOpS C sp E ta tb) := by
  refine ⟨fun pins s σ H Q I h => ?_⟩
  refine wpAny_BinOp (binT ha hb I h fun v u s2 x y H2 I2 rx ry q => ?_)
  obtain ⟨p, r, dx, dy, fs, gs, rfl, rfl, ea, eb, q⟩ := q
  obtain rfl : v = Value.ref p := rx
  obtain rfl : u = Value.ref r := ry
  obtain ⟨ox, od, J⟩ := ins_inst I2 ea
  obtain ⟨oy, od', J'⟩ := ins_inst I2 eb
  obtain ⟨m, hF⟩ := I2.fr
  refine PySem.W.binop_K hF I2.ok.mod.kin J J'.type hc hs hf ?_
  refine wpAny_mono (run_fnAt (us := [.ref p, .ref r]) (vs := [.ref p, .ref r]) F hr rfl (hx σ) I2 (.cons rfl (.cons rfl .nil)) q) (fun v s' z => ?_) fun _ _ z => z
  obtain ⟨w, H', I', rw_, ⟨p', rfl⟩, q'⟩ := z
  obtain rfl : v = Value.ref p' := rw_
  exact ⟨.ref p', H', I', rfl, q'⟩
end
end Ly

set_option Elab.async false
set_option linter.all false
set_option maxRecDepth 100000
set_option maxHeartbeats 4000000
/-! own layer: own exceptions with their own __init__ as values: made, read, asked by isinstance; the built-in base may stand below the one whose __new__ makes them -/
namespace PySem
namespace LK
open Builtin Builtin.ObjectAttr PySem.HandSPX PyProof.Rows
/-- what a class's chain must say of the built-in class B that makes its instances -/
structure Ch (bm : List Value) (B : String) : Prop where
  b : bm.contains (.type B) = true
  a : bm.contains (.type "AttributeError") = false
  n : bm.contains (.type "NameError") = false
section
variable {M : Model} {prog : Program} {w : World} {A : Around} {E : Value → Shared → Prop} {R : Result → Shared → Prop} {h : Heap} {g : Array GenState} {d : Drawn} {t : Nat} {os : OsState} {nm q : Str} {C N : Addr} {bs bm bmB : List Value} {hdct : Bool} {sn : List Str} {sub : List Value} {ab : Bool} {col : Option Bool}
  {dd : Option Addr} {k0 k1 k2 k3 k5 : Option Value} {B newId initId : String} {us : List Value}
theorem chk {Q : Unit → Shared → Prop} (F : ExcBaseFacts B newId initId bmB) (T : Ch bm B) (lC : h.get? C = some (excClassObj nm q C N bs bm hdct sn sub ab col dd k0 k1 k2 k3 k5 newId)) (z : Q () ⟨h, g, d, t, os⟩) :
    wpAny M A (checkBuiltinCall newId ⟨.ref C :: us, []⟩) Q E ⟨h, g, d, t, os⟩ := by
  have s1 := F.noStar
  have cb : (Value.ref C :: bm).contains (.type B) = true := by rw [List.contains_cons, T.b, Bool.or_true]
  simp only [checkBuiltinCall, F.newRow, F.newKind, F.newSplit]
  repeat (first | refine wpAny_loadPart_at lC ?_ | (refine wpAny_isSubtype_exc lC ?_; rw [cb]) | refine wpAny_staticBase_exc lC ?_ | refine wpAny_madeBy_exc lC ?_ | simp only [bne_self_eq_false, if_false, Bool.false_eq_true] | wp_step)
  exact z
theorem made (F : ExcBaseFacts B newId initId bmB) (T : Ch bm B) (lC : h.get? C = some (excClassObj nm q C N bs bm hdct sn sub ab col dd k0 k1 k2 k3 k5 newId))
    (z : R (.ok (.ret (.ref (h.objs.size + 1)))) ⟨(h.push (PySem.W.kdv_tup us)).push (excO C h.objs.size), g, d, t, os⟩) (hu : us.length ≤ sizeLine) : codeAny (model prog w) A (.builtin newId ⟨.ref C :: us, []⟩) R ⟨h, g, d, t, os⟩ := by
  have en := F.ends
  have cb : (Value.ref C :: bm).contains (.type B) = true := by rw [List.contains_cons, T.b, Bool.or_true]
  have ca : (Value.ref C :: bm).contains (.type "AttributeError") = false := by rw [List.contains_cons, T.a] <;> rfl
  have cn : (Value.ref C :: bm).contains (.type "NameError") = false := by rw [List.contains_cons, T.n] <;> rfl
  refine codeAny_builtinAt F.entry ?_
  unfold Builtin.«BaseException.__new__»
  refine wpAt_bind ?_; show wpAt _ _ _ (stack >>= _) _ _ _
  refine wpAt_bind (wpAt_stack fun p below => wpAt_of_wpAny ?_); wp_walk
  refine wpAt_of_wpAny ?_; rw [F.owner]
  repeat (first | with_reducible refine wpAny_madeHere_exc F.canon lC ?_ | with_reducible refine wpAny_loadPart_at lC ?_ | (with_reducible refine wpAny_isSubtype_exc lC ?_; first | rw [cb] | rw [ca] | rw [cn]) | wp_step)
  show R _ _; rw [Heap.size_push]; exact z
theorem typed {fI : Addr} {Q : Fin → Shared → Prop} (F : ExcBaseFacts B newId initId bmB) (T : Ch bm B) (lC : h.get? C = some (excClassObj nm q C N bs bm hdct sn sub ab col dd k0 k1 k2 k3 k5 newId))
    (li : W.Looks (model prog w) h (typeLookup (.ref C) "__init__") (some (.ref fI))) (lb : ∀ self, W.Looks (model prog w) h (bindSpecial (.ref fI) self) (.ref fI, [self])) (hu : us.length ≤ sizeLine)
    (z : codeAny (model prog w) A (.call (.ref fI) ⟨.ref (h.objs.size + 1) :: us, []⟩) (fun r s' => match r with | .ok (.ret v) => v = .none ∧ Q (.done (.ret (.ref (h.objs.size + 1)))) s' | .ok _ => False | .error e => E e s') ⟨(h.push (PySem.W.kdv_tup us)).push (excO C h.objs.size), g, d, t, os⟩) :
    wpAny (model prog w) A (Builtin.«type.__call__» ⟨.ref C :: us, []⟩) Q E ⟨h, g, d, t, os⟩ := by
  repeat (first | with_reducible refine wpAny_loadPart_at lC ?_ | with_reducible refine wpAny_madeBy_exc lC ?_ | wp_step)
  refine codeAny_call_builtin_code (Code.quiet_builtin _ F.quiet) (chk F T lC (made F T lC ?_ hu)); show wpAny _ _ _ _ _ _
  have up : ∀ b o, h.get? b = some o → ((h.push (PySem.W.kdv_tup us)).push (excO C h.objs.size)).get? b = some o := fun b o y => Heap.get?_push_of_some _ (Heap.get?_push_of_some _ y)
  have at1 : ((h.push (PySem.W.kdv_tup us)).push (excO C h.objs.size)).get? (h.objs.size + 1) = some (excO C h.objs.size) := by heap_get
  have cc : (Value.ref C :: bm).contains (.ref C) = true := by simp
  have l1 := up _ _ lC
  unfold isInstance
  repeat (first | with_reducible refine wpAny_loadPart_at at1 ?_ | (with_reducible refine wpAny_isSubtype_exc l1 ?_; rw [cc]) | wp_step)
  show wpAny _ _ (typeLookup (.ref C) _) _ _ _
  refine (li.keeps up).at ?_
  refine wpAny_holding (wpAny_bind (((lb (.ref (h.objs.size + 1))).keeps up).at ?_))
  refine wpAny_bind (wpAny_call (codeAny_mono z fun r s' y => ?_))
  rcases r with e | (v | _ | _ | _) <;> first | exact y | exact y.elim | skip
  obtain ⟨rfl, y⟩ := y
  first | exact wpAny_pure (wpAny_pure y) | (wp_walk; exact y)
/-- C(..), C an own exception class with its own __init__ -/
theorem called {fI : Addr} (F : ExcBaseFacts B newId initId bmB) (T : Ch bm B) (lC : h.get? C = some (excClassObj nm q C N bs bm hdct sn sub ab col dd k0 k1 k2 k3 k5 newId))
    (li : W.Looks (model prog w) h (typeLookup (.ref C) "__init__") (some (.ref fI))) (lb : ∀ self, W.Looks (model prog w) h (bindSpecial (.ref fI) self) (.ref fI, [self])) (hu : us.length ≤ sizeLine)
    (z : codeAny (model prog w) (A.under (.builtin "type.__call__" ⟨.ref C :: us, []⟩)) (.call (.ref fI) ⟨.ref (h.objs.size + 1) :: us, []⟩) (W.InitBack (h.objs.size + 1) R) ⟨(h.push (PySem.W.kdv_tup us)).push (excO C h.objs.size), g, d, t, os⟩) :
    codeAny (model prog w) A (.call (.ref C) ⟨us, []⟩) R ⟨h, g, d, t, os⟩ := by
  have f1 := tc_lookup
  have f2 := tc_bind (.ref C)
  have ty : (⟨h, g, d, t, os⟩ : Shared).TypeIs (.ref C) "type" := ⟨_, lC, rfl⟩
  refine codeAny_of_tree ?_; show wpAny _ _ (callAny (.ref C) _) _ _ _
  repeat (any_goals (first | assumption | with_reducible refine wpAny_loadPart_at lC ?_ | wp_step))
  refine ⟨rfl, codeAny_call_builtin_at (Code.quiet_builtin _ (by decide +kernel)) entry_typeCall (wpAny_check_type_call_sub lC (typed F T lC li lb hu ?_))⟩
  refine codeAny_mono z fun r s' y => ?_
  rcases r with e | (v | _ | _ | _) <;> exact y
end
section
variable {prog : Program} {w : World} {A : Around} {R : Result → Shared → Prop} {hp : Heap} {g : Array GenState} {d : Drawn} {t : Nat} {os : OsState}
/-- object.__setattr__ upon an exception that has its dict, where nobody in the mro objects -/
theorem osa_more {K : W.Frag} {name : Str} {tk : Tok} {v : Value} {x C dx : Addr} {fv : Array Value} {cd : ClassData} {m0 : Str → Option Value} {nl : List Str} (kIn : K.In hp) (hx : hp.get? x = some { cls := .ref C, dict := some dx, data := .fields fv })
    (ns : hp.Ns1 dx m0) (nw : Within m0 nl) (nz : nl.length ≤ 1000) (hcd : W.clsIn K C = some cd) (he : cd.mro.isEmpty = false) (hob : cd.mro.contains (.type "object") = true) (hps : refuseLoop (.ref x) "__setattr__" cd.mro = pure ()) (hh : cd.hasDict = true)
    (ha : W.findIn K (.ref C) name = some none) (z : ∀ h' tk', (∀ b o, b ≠ dx → hp.get? b = some o → h'.get? b = some o) → h'.Ns1 dx (fun y => if y = name then some v else m0 y) → R (.ok (.ret .none)) ⟨h', g, d, tk', os⟩) :
    codeAny (model prog w) A (.call (.builtin "object.__setattr__") ⟨[.ref x, .str name tk, v], []⟩) R ⟨hp, g, d, t, os⟩ := by
  obtain ⟨oD, _, _, lD, _, _⟩ := ns.count nw
  have J : W.InstAt hp x { cls := .ref C, dict := some dx, data := .fields fv } C (some oD) := ⟨hx, rfl, rfl, lD⟩
  have isO : W.Looks (model prog w) hp (isInstance (.ref x) (.type "object")) true := J.type.andThen (W.looks_mroIn kIn (by unfold W.mroIn; rw [hcd, Option.bind_some, if_neg (by rw [he]; decide), hob]))
  refine codeAny_call_builtin F.store_object.slot.plain F.store_object.entry (@W.check_slot (model prog w) _ _ ⟨hp, g, d, t, os⟩ "object.__setattr__" "object" "__setattr__" (.ref x) [.str name tk, v] [] _ F.store_object.kind F.store_object.split isO (F.store_object.args (.ref x) (.str name tk) v) ?_)
  have lm : W.Looks (model prog w) hp (mroOf (.ref C)) cd.mro := (W.looks_clsIn kIn hcd).andThen .now
  have lc : W.Looks (model prog w) hp (classData C) cd := W.looks_clsIn kIn hcd
  have ln : W.Looks (model prog w) hp (storeTaker? none) none := .now
  rw [W.osa_eq, refuse_eq]; refine wpAny_bind (wpAny_bind (J.type.at (wpAny_bind (lm.at ?_)))); rw [hps]
  refine wpAny_pure (wpAny_bind (J.type.at (wpAny_bind ((W.looks_findIn kIn ha).at (wpAny_bind (ln.at ?_)))))); show wpAny _ _ (storeInOwnDict (.ref x) (.ref C) (.str name tk) name v false) _ _ _
  obtain ⟨nm, bs, mro, nn, qn, hd, sn, sb, ab, col, del⟩ := cd
  dsimp only at hh; subst hh
  unfold storeInOwnDict ownDictForStores
  repeat (first | with_reducible refine PySem.OEX.store_in_old ns nw nz ?_ | with_reducible refine wpAny_loadPart_at hx ?_ | with_reducible refine lc.at ?_ | wp_step)
  exact fun h' tk' hn' hs => z h' tk' (fun b o hb ho => (hs.2 b hb).trans ho) hn'
end
end LK
end PySem
namespace Ly
open PySem PySem.Spec PyProof.Rows L2
/-- what the written part says of such a class: made by the built-in class B, its own chain bm -/
structure OexY (K : PySem.W.Frag) (C : Addr) (B newId initId : String) (bmB bm : List Value) : Prop where
  base : ExcBaseFacts B newId initId bmB
  ch : PySem.LK.Ch bm B
  pass : ∀ self : Value, refuseLoop self "__setattr__" bm = pure ()
  obj : bm.contains (.type "object") = true
  cls : ∃ nm q N bs sn sub ab col dd k0 k1 k2 k3 k5, K.lookup C = some (excClassObj nm q C N bs bm true sn sub ab col dd k0 k1 k2 k3 k5 newId)
  sa : PySem.W.findIn K (.ref C) "__setattr__" = some (some (.builtin "object.__setattr__"))
  kC : PySem.W.keepIn K (.ref C) = true
section
variable {X : Cx} {pins : List (Addr × Obj)} {σ : L2.St} {H : Hp} {s : Shared} {a C dx : Addr} {f : Str} {y : V} {u : Value} {B newId initId : String} {bmB bm : List Value}
/-- self.f = y, the first one -/
theorem ost_firstY {Q : Unit → Shared → Prop} {E : Value → Shared → Prop} {A : Around} (T : OexY X.K C B newId initId bmB bm) (I : Inv X pins σ H s) (e : H a = some (exo a C none)) (hno : PySem.W.findIn X.K (.ref C) f = some none) (ry : RelV y u)
    (h : ∀ dx s', H dx = none → dx ≠ a → Inv X pins σ (upd (upd H dx (exd dx [(f, y)])) a (exo a C (some dx))) s' → Q () s') : wpAny (model X.prog X.w) A (setAttr (.ref a) f u) Q E s := by
  obtain ⟨nm, q, N, bs, sn, sub, ab, col, dd, k0, k1, k2, k3, k5, lC⟩ := T.cls
  obtain ⟨t1, ho⟩ := exo_at I.hok e
  obtain ⟨hp, gs, dr, t, os⟩ := s
  have lcd : PySem.W.clsIn X.K C = some { name := nm, bases := bs, mro := .ref C :: bm, ns := N, qualname := q, hasDict := true, slotNames := sn, subclasses := sub, abstract := ab, collection := col, hasDel := false } := by
    unfold PySem.W.clsIn
    rw [lC] <;> rfl
  refine PySem.W.set_plain I.kIn (ox := { cls := .ref C, dict := none, data := .fields #[.ref t1, .none, .none, .none, .bool false, .none] }) (od := none) ⟨ho, rfl, rfl, trivial⟩ T.sa ?_
  refine PySem.LX.osa_any I.kIn ho lcd rfl (by show (Value.ref C :: bm).contains _ = true; rw [List.contains_cons, T.obj, Bool.or_true]) ((refuseLoop_ref _ _ _ _).trans (T.pass _)) rfl hno (fun h' tk' dx k dn dne hx hn => ?_)
  have fd : H dx = none := I.hok.fresh dn
  have fa : ∀ {b : Addr}, H b = none → b ≠ a := fun {b} n z => by
    rw [z, e] at n
    cases n
  have fb : ∀ {b : Addr} {o : Obj}, hp.get? b = some o → b ≠ dx := fun {b o} z => Nat.ne_of_lt (Nat.lt_of_lt_of_le (Heap.lt_size z) dn)
  have U : Un X.fs [] H (upd (upd H dx (exd dx [(f, y)])) a (exo a C (some dx))) hp h' :=
    { keep := fun b o z n _ _ => k b o (fa n) z
      slot := fun b o z n _ _ => ⟨o.slots, k b o (fa n) z⟩
      free := fun b o z n _ => (upd_ne (fa n)).trans ((upd_ne (fb z)).trans n)
      there := fun b o z _ => by
        by_cases hb : b = a
        · exact ⟨_, by rw [hb]; exact hx⟩
        · exact ⟨o, k b o hb z⟩
      tups := fun b xs z => (upd_ne (at_ne e z exo_tup)).trans ((upd_ne (ne_of_none z fd)).trans z)
      frzs := fun b o v z => (upd_ne (at_ne e z exo_frz)).trans ((upd_ne (ne_of_none z fd)).trans z)
      tbls := fun b ps z => ⟨#[], by rw [upd_ne (at_ne e z exo_tbl), upd_ne (ne_of_none z fd), z]; simp⟩ }
  refine h dx _ fd dne (I.un (t' := tk') U fun b o z => ?_)
  by_cases hb : b = a
  · subst hb
    rw [upd_same] at z
    cases z
    exact exo_ok hx
  rw [upd_ne hb] at z
  by_cases hd : b = dx
  · subst hd
    rw [upd_same] at z
    cases z
    exact exd_ok hn (relO_put (fs := []) ry fun _ => True.intro)
  rw [upd_ne hd] at z
  refine (I.hok b o z).stay (fun c v hc w' => k c v ?_ w') (fun c hc => (upd_ne (at_ne e hc exo_own)).trans ((upd_ne (ne_of_none hc fd)).trans hc)) (fun c xs hc => (upd_ne (at_ne e hc exo_tup)).trans ((upd_ne (ne_of_none hc fd)).trans hc))
  rcases hc with hc | hc
  · rw [hc]
    exact hb
  · exact at_ne e hc exo_own
/-- self.f = y, a further one -/
theorem ost_moreY {fs : List (Str × V)} {Q : Unit → Shared → Prop} {E : Value → Shared → Prop} {A : Around} (T : OexY X.K C B newId initId bmB bm) (I : Inv X pins σ H s) (e : H a = some (exo a C (some dx))) (ed : H dx = some (exd dx fs)) (hl : fs.length ≤ 900) (hno : PySem.W.findIn X.K (.ref C) f = some none) (ry : RelV y u)
    (h : ∀ s', Inv X pins σ (upd H dx (exd dx ((f, y) :: fs))) s' → Q () s') : wpAny (model X.prog X.w) A (setAttr (.ref a) f u) Q E s := by
  obtain ⟨nm, q, N, bs, sn, sub, ab, col, dd, k0, k1, k2, k3, k5, lC⟩ := T.cls
  have lcd : PySem.W.clsIn X.K C = some { name := nm, bases := bs, mro := .ref C :: bm, ns := N, qualname := q, hasDict := true, slotNames := sn, subclasses := sub, abstract := ab, collection := col, hasDel := false } := by
    unfold PySem.W.clsIn
    rw [lC] <;> rfl
  obtain ⟨t1, ho⟩ := exo_at I.hok e
  obtain ⟨mA, hns, rel⟩ := exd_at I.hok ed
  have nw := within_of rel
  obtain ⟨hp, gs, dr, t, os⟩ := s
  obtain ⟨oD, _, _, lD, _, _⟩ := hns.count nw
  refine PySem.W.set_plain I.kIn (ox := { cls := .ref C, dict := some dx, data := .fields #[.ref t1, .none, .none, .none, .bool false, .none] }) (od := some oD) ⟨ho, rfl, rfl, lD⟩ T.sa ?_
  refine PySem.LK.osa_more I.kIn ho hns nw (by rw [List.length_map]; omega) lcd rfl (by show (Value.ref C :: bm).contains _ = true; rw [List.contains_cons, T.obj, Bool.or_true]) ((refuseLoop_ref _ _ _ _).trans (T.pass _)) rfl hno (fun h' tk' k hn => ?_)
  have there : ∃ o, h'.get? dx = some o := by
    obtain ⟨o, _, _, e', _⟩ := hn
    exact ⟨o, e'⟩
  exact h _ (I.write (t' := tk') (x := dx) (e := dx) (o := exd dx ((f, y) :: fs)) (by rw [ed]; exact True.intro) (.inl rfl) k there (exd_ok hn (relO_put ry rel)))
end
section
variable {X : Cx} {o e : Expr} {es : List Expr} {to te : TE} {ta : TA} {f : Str} {p p' pos : Pos} {C : Addr} {B newId initId : String} {bmB bm : List Value}
theorem ps_ostY (T : OexY X.K C B newId initId bmB bm) (hno : PySem.W.findIn X.K (.ref C) f = some none) (ho : PE X o to) (he : PE X e te) (hs : swapsWith e (some (.Attribute o f p')) pos.line X.env = pure false := by rfl) : PS X (.Assign [.Attribute o f p'] e pos) (tOst1 X.K C f to te) := by
  refine ⟨fun pins s σ H D I h => ?_⟩
  refine plainObj_wpAny_Assign_Attribute (thn (he.run pins s σ H _ I h) fun v s1 ⟨y, H1, I1, r1, q1⟩ => thn (ho.run pins s1 σ H1 _ I1 q1) fun u s2 ⟨x, H2, I2, r2, a, ex, ea, q⟩ => ?_) hs
  subst ex
  obtain rfl : u = Value.ref a := r2
  exact ost_firstY T I2 ea hno r1 fun dx s' n ne J => ⟨σ, _, J, q dx n ne⟩
/-- self.f = e, a later one: the dict stands at dx -/
def tOst2 (C : Addr) (f : Str) (to te : TE) : TS := fun D σ H => te σ H fun y H1 => to σ H1 fun x H2 => ∃ (a dx : Addr) (fs : List (Str × V)), x = .ref a ∧ H2 a = some (exo a C (some dx)) ∧ H2 dx = some (exd dx fs) ∧ fs.length ≤ 900 ∧ D.nx σ (upd H2 dx (exd dx ((f, y) :: fs)))
theorem ps_ostM (T : OexY X.K C B newId initId bmB bm) (hno : PySem.W.findIn X.K (.ref C) f = some none) (ho : PE X o to) (he : PE X e te) (hs : swapsWith e (some (.Attribute o f p')) pos.line X.env = pure false := by rfl) : PS X (.Assign [.Attribute o f p'] e pos) (tOst2 C f to te) := by
  refine ⟨fun pins s σ H D I h => ?_⟩
  refine plainObj_wpAny_Assign_Attribute (thn (he.run pins s σ H _ I h) fun v s1 ⟨y, H1, I1, r1, q1⟩ => thn (ho.run pins s1 σ H1 _ I1 q1) fun u s2 ⟨x, H2, I2, r2, a, dx, fs, ex, ea, ed, hl, q⟩ => ?_) hs
  subst ex
  obtain rfl : u = Value.ref a := r2
  exact ost_moreY T I2 ea ed hl hno r1 fun s' J => ⟨σ, _, J, q⟩
/-- C(e, ..) as a value: its own __init__ keeps sp -/
def tMkA (C : Addr) (sp : Sp) (ta : TA) : TE := fun σ H Q => ta σ H fun vs H1 => vs.length ≤ 1000 ∧ ∀ a, H1 a = none → sp (.ref a :: vs) (upd H1 a (exo a C none)) (fun v H2 => v = .non ∧ Q (.ref a) H2) E0
theorem pe_mkA {CX : CXT} {x : Str} {fI : Addr} {k : Nat} {fd : FuncData} {ps : List Str} {sp : Sp} (T : OexY X.K C B newId initId bmB bm) (iC : PySem.W.findIn X.K (.ref C) "__init__" = some (some (.ref fI))) (tI : PySem.W.typeIn X.K (.ref fI) = some (.type "function"))
    (F1 : FnOk X.prog X.w X.K X.mg X.base CX k fI fd ps sp) (hr : Room (k + 1) X.A) (hb : Binds X.K fd ps []) (hx : Passes CX X E0) (hg : Gl X x) (hm : X.mg x = some (.ref C)) (ha : PA X (e :: es) ta)
    (hdb : (x == ("__debug__" : Str)) = false := by decide) (he : starEach (e :: es) X.env = (false, eval e X.env) :: starEach es X.env := by rfl) (hpl : (backTo pos (starEach es X.env)).any (·.1) = false := by rfl) :
    PE X (.Call (.Name x p) (e :: es) [] pos) (tMkA C sp ta) := by
  refine ⟨fun pins s σ H Q I h => ?_⟩
  obtain ⟨nm, q, N, bs, sn, sub, ab, col, dd, k0, k1, k2, k3, k5, lC⟩ := T.cls
  refine wpAny_Call_Name_kw (ld_glob I hg hm ?_ hdb)
  refine PySem.W.callWith_K (h₀ := X.base) I.ok.mod.kin T.kC (thn (ha.run pos pins s σ H _ I h) fun us s1 ⟨vs, H1, I1, r1, hz, q1⟩ => ⟨I1.kIn, ?_⟩) he hpl
  show wpAny _ _ (call (.ref C) us) _ _ _
  obtain ⟨hp, gs, dr, tk, os⟩ := s1
  have le1 : hp.objs.size ≤ hp.objs.size + 1 := Nat.le_succ _
  have hq := q1 (hp.objs.size + 1) (I1.hok.fresh le1)
  have up : ∀ b o, hp.get? b = some o → ((hp.push (PySem.W.kdv_tup us)).push (PySem.HandSPX.excO C hp.objs.size)).get? b = some o := fun b o z => Heap.get?_push_of_some _ (Heap.get?_push_of_some _ z)
  have at1 : ((hp.push (PySem.W.kdv_tup us)).push (PySem.HandSPX.excO C hp.objs.size)).get? (hp.objs.size + 1) = some (PySem.HandSPX.excO C hp.objs.size) := by heap_get
  have J : Inv X pins σ (upd H1 (hp.objs.size + 1) (exo (hp.objs.size + 1) C none)) ⟨(hp.push (PySem.W.kdv_tup us)).push (PySem.HandSPX.excO C hp.objs.size), gs, dr, tk, os⟩ :=
    I1.laid (t' := tk) (a := hp.objs.size + 1) (o := exo (hp.objs.size + 1) C none) (h' := (hp.push (PySem.W.kdv_tup us)).push (PySem.HandSPX.excO C hp.objs.size)) up le1 (exo_ok at1)
  have rv : Vals (V.ref (hp.objs.size + 1) :: vs) (Value.ref (hp.objs.size + 1) :: us) := .cons rfl r1
  have nl : (Value.ref (hp.objs.size + 1) :: us ++ []).length = ps.length := by
    rw [List.append_nil, ← rv.length]
    exact F1.len _ _ _ _ hq
  have nu : us.length ≤ sizeLine := by
    rw [← Paired.length r1, sizeLine_eq]
    omega
  have hb' := hb _ (Value.ref (hp.objs.size + 1) :: us) J.kIn nl
  rw [List.append_nil] at hb'
  refine wpAny_call (PySem.LK.called T.base T.ch (I1.kIn _ _ lC) (PySem.W.looks_findIn I1.kIn iC) (fun self => PySem.W.bind_fn I1.kIn self tI) nu
    (codeAny_mono (F1.run _ X.stack _ _ ⟨Value.ref (hp.objs.size + 1) :: us, []⟩ (Value.ref (hp.objs.size + 1) :: us) _ _ E0 (hr.make C us []) (J.env0.make C us []) hb' rv hq) fun r s' hq' => ?_))
  rcases r with er | fl
  · exact hx pins σ _ _ er s' J hq'
  · cases fl with
    | ret u =>
      obtain ⟨v, H2, I2, rv2, ev, q2⟩ := J.after hq'
      subst ev
      exact ⟨rv2, .ref (hp.objs.size + 1), H2, I2, rfl, q2⟩
    | next | brk | cont => exact False.elim hq'
/-- err.f, err held by a value -/
def tXo (C : Addr) (f : Str) (te : TE) : TE := fun σ H Q => te σ H fun x H1 => ∃ (a d : Addr) (fs : List (Str × V)) (v : V), x = .ref a ∧ H1 a = some (exo a C (some d)) ∧ H1 d = some (exd d fs) ∧ fs.lookup f = some v ∧ Q v H1
theorem pe_xo {n : Str} (T : XfC X.K C) (hno : PySem.W.findIn X.K (.ref C) n = some none) (he : PE X e te) (hb : attributeBase e n X.env (eval e X.env) = eval e X.env := by rfl) : PE X (.Attribute e n pos) (tXo C n te) := by
  refine ⟨fun pins s σ H Q I h => ?_⟩
  refine attr_of hb (thn (he.run pins s σ H _ I h) fun u s1 hh => ?_)
  obtain ⟨x, H1, I1, rx, a, d, fs, v, ex, ea, ed, l, q⟩ := hh
  subst ex
  obtain rfl : u = Value.ref a := rx
  obtain ⟨t1, ho⟩ := exo_at I1.hok ea
  obtain ⟨mA, hns, hr⟩ := exd_at I1.hok ed
  obtain ⟨od, hd, hl⟩ := lookIn_ns hns
  obtain ⟨u, hu, ru⟩ := RelO.some_of (v := v) (o := mA n) (by rw [← l]; exact hr n)
  have J : PySem.W.InstAt s1.heap a { cls := .ref C, dict := some d, data := .fields #[.ref t1, .none, .none, .none, .bool false, .none] } C (some od) := ⟨ho, rfl, rfl, hd⟩
  exact HandSPX.exc_get I1.kIn J T.ga T.gg T.exC (PySem.W.findObj_own T.hdC hno rfl (by rw [hl, hu])) (handed_of ru) ⟨v, H1, I1.tok _, ru, q⟩
end
/-- an exception of the class at C stands at a -/
def IsEx (H : Hp) (a C : Addr) : Prop := (∃ d fs, H a = some (exo a C (some d)) ∧ H d = some (exd d fs)) ∨ H a = some (ExO (.ref C) a)
theorem IsEx.same {H H' : Hp} {a C : Addr} (s : Same H H') (h : IsEx H a C) : IsEx H' a C := by
  rcases h with ⟨d, fs, h1, h2⟩ | h
  · exact .inl ⟨d, fs, s _ _ h1, s _ _ h2⟩
  · exact .inr (s _ _ h)
def rIsx (K : PySem.W.Frag) : List V → Hp → VK → Prop := fun xs H Q => ∃ (a C : Addr) (c : V) (u : Value) (b : Bool), xs = [.ref a, c] ∧ ExcC K C ∧ IsEx H a C ∧ ClsV c u ∧ PySem.W.kitOne K (.ref C) u = some b ∧ Q (.bl b) H
theorem call_isx {X : Cx} : CallR X (.builtin "isinstance") (rIsx X.K) := by
  intro pins s σ H xs us Q I r h
  obtain ⟨a, C, c, u, b, rfl, T, hx, k, e, q⟩ := h
  obtain ⟨u1, u2, rfl, r1, r2⟩ := vals2 r
  have e2 := k.eq r2
  subst e2
  cases (show u1 = Value.ref a from r1)
  have hc : (PySem.W.clsIn X.K C).isSome = true := by
    obtain ⟨cd, hc, _⟩ := PySem.W.any_some T.hd
    rw [hc] <;> rfl
  obtain ⟨ox, od, J⟩ : ∃ (ox : Obj) (od : Option Obj), PySem.W.InstAt s.heap a ox C od := by
    rcases hx with ⟨d, fs, h1, h2⟩ | h1
    · obtain ⟨t1, ho⟩ := exo_at I.hok h1
      obtain ⟨mA, hns, _⟩ := exd_at I.hok h2
      obtain ⟨od, hd, _⟩ := lookIn_ns hns
      exact ⟨_, some od, ho, rfl, rfl, hd⟩
    · obtain ⟨⟨oe, vs, ho, hz, hd, _⟩, _, _⟩ := I.hok a _ h1
      obtain ⟨oc, od, oda, osl⟩ := oe
      obtain ⟨z1, z2⟩ := hz
      dsimp only at z1 z2 hd
      subst z1 z2 hd
      exact ⟨_, none, ho, rfl, rfl, trivial⟩
  exact PySem.W.kia_one (PySem.W.kitx_exc hc T.hg T.hk T.hs T.ha T.hn T.ht T.hm) I.kIn J e (fun z => nomatch z) fun tk => ⟨.bl b, H, I.tok tk, rfl, q⟩
end Ly

set_option Elab.async false
set_option linter.all false
set_option maxRecDepth 100000
set_option maxHeartbeats 8000000
namespace K00
open PySem PySem.Spec PyProof.Rows L2 Ly

def topS (i : Nat) : Stmt := PySem.Challenge.pw_namedabove_k00_errors_and_what_they_keep.main.body.getD i (.Pass ⟨0, 0, 0, 0⟩)
structure Zs (mg : Str → Option Value) : Prop where
  z_len : mg "len" = none
  z_int : mg "int" = none
  z_abs : mg "abs" = none
  z_max : mg "max" = none
  z_min : mg "min" = none
  z_range : mg "range" = none
  z_isinstance : mg "isinstance" = none
  z_str : mg "str" = none
  z_repr : mg "repr" = none
  z_list : mg "list" = none
  z_tuple : mg "tuple" = none
  z_dict : mg "dict" = none
  z_enumerate : mg "enumerate" = none
  z_ValueError : mg "ValueError" = none
  z_KeyError : mg "KeyError" = none
  z_RuntimeError : mg "RuntimeError" = none
  z_OverflowError : mg "OverflowError" = none
  z_IndexError : mg "IndexError" = none
  z_ArithmeticError : mg "ArithmeticError" = none
  z_LookupError : mg "LookupError" = none
/-- where the classes stand -/
structure Ys (mg : Str → Option Value) (c : Nat → Addr) : Prop where
  g_LetterError : mg "LetterError" = some (.ref (c 0))
  g_InvalidCutter : mg "InvalidCutter" = some (.ref (c 1))
  g_InvalidCompany : mg "InvalidCompany" = some (.ref (c 2))
  g_InvalidBundle : mg "InvalidBundle" = some (.ref (c 3))
  g_InvalidRule : mg "InvalidRule" = some (.ref (c 4))
  g_InvalidLot : mg "InvalidLot" = some (.ref (c 5))
  g_InvalidState : mg "InvalidState" = some (.ref (c 6))
  g_InvalidLetter : mg "InvalidLetter" = some (.ref (c 7))
  g_InvalidPledge : mg "InvalidPledge" = some (.ref (c 8))
  g_InvalidOperation : mg "InvalidOperation" = some (.ref (c 9))
  g_ParseError : mg "ParseError" = some (.ref (c 10))
  g_UnknownName : mg "UnknownName" = some (.ref (c 11))
  g_InvalidNumber : mg "InvalidNumber" = some (.ref (c 12))
  g_TooMany : mg "TooMany" = some (.ref (c 13))
  g_NothingToUndo : mg "NothingToUndo" = some (.ref (c 14))
  g_Broken : mg "Broken" = some (.ref (c 15))
abbrev s_ekept : Stmt := topS 1
abbrev N_ekept : List Str := ["value", "part", "key"]
abbrev P_ekept : List Str := ["value"]
theorem sc_ekept : FnScope N_ekept P_ekept (defScope s_ekept) := ⟨rfl, rfl, rfl, by decide +kernel, rfl, by decide +kernel, by decide +kernel⟩

abbrev s_dice : Stmt := topS 19
abbrev N_dice : List Str := ["_law_script", "_law_at", "_law_cell", "_law_great", "_law_mixed"]
abbrev P_dice : List Str := ["_law_script", "_law_at"]
theorem sc_dice : FnScope N_dice P_dice (defScope s_dice) := ⟨rfl, rfl, rfl, by decide +kernel, rfl, by decide +kernel, by decide +kernel⟩

abbrev s_roll : Stmt := topS 20
abbrev N_roll : List Str := ["_law_dice_here", "_law_total", "_law_found", "_law_one", "_law_two"]
abbrev P_roll : List Str := ["_law_dice_here", "_law_total"]
theorem sc_roll : FnScope N_roll P_roll (defScope s_roll) := ⟨rfl, rfl, rfl, by decide +kernel, rfl, by decide +kernel, by decide +kernel⟩

abbrev s_one_of : Stmt := topS 21
abbrev N_one_of : List Str := ["_law_dice_here", "_law_items"]
abbrev P_one_of : List Str := ["_law_dice_here", "_law_items"]
theorem sc_one_of : FnScope N_one_of P_one_of (defScope s_one_of) := ⟨rfl, rfl, rfl, by decide +kernel, rfl, by decide +kernel, by decide +kernel⟩

section
variable {P : Program} {w : World} {K : PySem.W.Frag} {mg : Str → Option Value} {base : Heap} {f : Addr} {fd : FuncData}
theorem ok_dice (Z : Zs mg) (D : Df K mg "_law_dice" s_dice P_dice f fd) : FnOk P w K mg base CX0 1 f fd P_dice (spDice K) := by
  refine D.F.ok sc_dice (fun vs H Q E h => ?_) (fun cdv A outer s H vs Q E hr h => ?_)
  · obtain ⟨a, ns, k, rfl, _⟩ := h
    rfl
  · obtain ⟨a, ns, k, rfl, hS, h63, hk, q⟩ := h
    have nd := sc_dice.nd
    refine ⟨_,
    (pss_cons
    (ps_set (i := 2) nd rfl (Or.inl rfl) (pe_ifExp (pt_cmpR op_lt (pv 1) (pe_callB call_lenL (by rfl) Z.z_len (by decide +kernel) (pa_cons (pv 0) pa_nil)) (nomark _)) (pe_ix ix_list (pv 0) (pv 1) (fun _ _ => rfl)) (pe_op op_add (pe_op op_mul pe_int (pv 1)) pe_int)))
    (pss_cons
    (ps_set (i := 3) nd rfl (Or.inl rfl) (pe_op op_mod (pe_callTy call_intI (by rfl) Z.z_int (by decide +kernel) (pa_cons (pe_callB call_abs (by rfl) Z.z_abs (by decide +kernel) (pa_cons (pv 2) pa_nil)) pa_nil)) (pe_op op_powW (pe_op op_powW pe_int pe_int) pe_int)))
    (pss_cons
    (ps_set (i := 4) nd rfl (Or.inl rfl) (pe_op op_add (pe_op op_add (pe_op op_add (pe_op op_mul (pe_op op_mod (pe_callTy call_intI (by rfl) Z.z_int (by decide +kernel) (pa_cons (pv 3) pa_nil)) pe_int) pe_int) (pe_op op_mul pe_int (pv 1))) (pe_op op_mul pe_int (pe_callTy call_intB (by rfl) Z.z_int (by decide +kernel) (pa_cons (pe_cmpR op_lt (pv 2) pe_int (nomark _)) pa_nil)))) pe_int))
    (pss_one
    (ps_ret (pe_lst (pa_cons (pe_callB (call_max2 rfl) (by rfl) Z.z_max (by decide +kernel) (pa_cons pe_int (pa_cons (pe_op op_sub (pv 3) (pe_op op_powW pe_int pe_int)) pa_nil))) (pa_cons (pe_op op_mod (pe_callTy call_intI (by rfl) Z.z_int (by decide +kernel) (pa_cons (pv 4) pa_nil)) pe_int) (pa_cons pe_int pa_nil))))))))), ?_⟩
    refine asgS (fun v H1 => H1 = H ∧ ∃ x : Int, v = .int x) (fun Q' q' => ?_) (fun v H' hv => ?_)
    · refine ⟨.int k, rfl, .ref a, rfl, a, _, rfl, hS, _, _, rfl, rfl, _, rfl, ite2 (fun e => ?_) (fun e => ?_)⟩
      · have e1 := of_decide_eq_true e
        rw [List.length_map] at e1
        have e2 : k < ns.length := by omega
        refine ⟨_, rfl, _, rfl, a, _, _, .int ns[k], rfl, rfl, hS, atI_nat ?_, q' _ _ ⟨rfl, _, rfl⟩⟩
        rw [List.getElem?_map, List.getElem?_eq_getElem e2]
        rfl
      · exact ⟨_, rfl, _, _, rfl, rfl, .inl ⟨by decide, by decide⟩, _, _, rfl, rfl, q' _ _ ⟨rfl, _, rfl⟩⟩
    · obtain ⟨rfl, x, rfl⟩ := hv
      have p60 : CPw 10 60 := ⟨by decide, by decide +kernel⟩
      have p600 : CPw ((10 : Int) ^ (60 : Int).toNat) 10 := ⟨by decide, by decide +kernel⟩
      have pos : (0 : Int) < ((10 : Int) ^ (60 : Int).toNat) ^ (10 : Int).toNat := by decide +kernel
      refine asgS (fun v H1 => H1 = H' ∧ ∃ gr : Int, v = .int gr ∧ 0 ≤ gr ∧ gr.natAbs < 2 ^ 2000) (fun Q' q' => ?_) (fun v H1 hv => ?_)
      · refine ⟨_, rfl, _, rfl, _, rfl, _, _, rfl, rfl, p60, _, _, rfl, rfl, p600, _, _, rfl, rfl, pos, q' _ _ ⟨rfl, _, rfl, great_ok _⟩⟩
      obtain ⟨rfl, gr, rfl, g0, gB⟩ := hv
      have cm : ∀ y : Int, CMul (y % 2147483399) 60013 := fun y => .inr ⟨by decide, by decide⟩
      refine ⟨_, rfl, _, rfl, _, _, rfl, rfl, by change (0 : Int) < _; decide, _, _, rfl, rfl, cm _, _, rfl, _, _, rfl, rfl, .inl ⟨by decide, by decide⟩, _, _, rfl, rfl, _, rfl, _, _, rfl, rfl, _, rfl, _, _, rfl, rfl, .inl ⟨by decide, by decide⟩, _, _, rfl, rfl, _, _, rfl, rfl, ?_⟩
      refine ⟨_, rfl, _, _, rfl, rfl, ⟨by decide, by decide +kernel⟩, _, _, rfl, rfl, _, _, rfl, _, rfl, _, rfl, _, _, rfl, rfl, by change (0 : Int) < _; decide, ?_⟩
      refine ⟨by show 3 ≤ sizeLine; decide, fun p hp => q _ p (same_new hp) hp ⟨_, _, _, upd_same, ?_⟩⟩
      refine ⟨?_, ?_, Int.emod_nonneg _ (by decide), Int.lt_trans (Int.emod_lt_of_pos _ (by decide)) (by decide), Int.le_refl _⟩
      · split <;> omega
      · refine less_ok g0 gB (by split <;> omega) ?_
        have t : (0 : Int) ≤ 10 ^ (18 : Int).toNat := by decide +kernel
        split <;> omega

theorem ok_roll (Z : Zs mg) (D : Df K mg "_law_roll" s_roll P_roll f fd) : FnOk P w K mg base CX0 1 f fd P_roll spRoll := by
  refine D.F.ok sc_roll (fun vs H Q E h => ?_) (fun cdv A outer s H vs Q E hr h => ?_)
  · obtain ⟨d, n, rfl, _⟩ := h
    rfl
  · obtain ⟨d, n, rfl, ⟨a, b, c, hd, B⟩, n0, n1, q⟩ := h
    have nd := sc_roll.nd
    refine ⟨_,
    (pss_cons
    (ps_if (pt_cmpR op_gt (pe_ix ix_list (pv 0) pe_int (fun _ _ => rfl)) pe_int (nomark _))
      (pss_cons
      (ps_set (i := 2) nd rfl (Or.inl rfl) (pe_op op_mod (pe_callTy call_intI (by rfl) Z.z_int (by decide +kernel) (pa_cons (pe_ix ix_list (pv 0) pe_int (fun _ _ => rfl)) pa_nil)) (pv 1)))
      (pss_cons
      (ps_asg (pe_op op_fdivW (pe_ix ix_list (pv 0) pe_int (fun _ _ => rfl)) (pv 1)) (pg_sub (pv 0) pe_int set_list))
      (pss_one
      (ps_ret (pv 2)))))
      pss_nil)
    (pss_cons
    (ps_asg (pe_op op_add (pe_ix ix_list (pv 0) pe_int (fun _ _ => rfl)) pe_int) (pg_sub (pv 0) pe_int set_list))
    (pss_cons
    (ps_set (i := 3) nd rfl (Or.inl rfl) (pe_op op_mod (pe_callTy call_intI (by rfl) Z.z_int (by decide +kernel) (pa_cons (pe_op op_add (pe_ix ix_list (pv 0) pe_int (fun _ _ => rfl)) (pe_op op_mul pe_int (pe_ix ix_list (pv 0) pe_int (fun _ _ => rfl)))) pa_nil)) pe_int))
    (pss_cons
    (ps_set (i := 4) nd rfl (Or.inl rfl) (pe_op op_add (pe_op op_mul (pe_op op_mod (pe_callTy call_intI (by rfl) Z.z_int (by decide +kernel) (pa_cons (pe_op op_mul (pv 3) (pv 3)) pa_nil)) pe_int) (pv 3)) (pe_op op_mul pe_int (pe_ix ix_list (pv 0) pe_int (fun _ _ => rfl)))))
    (pss_cons
    (ps_set (i := 4) nd rfl (Or.inl rfl) (pe_op op_mod (pe_callTy call_intI (by rfl) Z.z_int (by decide +kernel) (pa_cons (pv 4) pa_nil)) pe_int))
    (pss_one
    (ps_ret (pe_op op_mod (pe_callTy call_intI (by rfl) Z.z_int (by decide +kernel) (pa_cons (pe_op op_fdiv (pv 4) pe_int) pa_nil)) (pv 1))))))))), ?_⟩
    have nB : n.natAbs < 2 ^ 200 := by
      have e : (2 : Int) ^ 200 = ((2 ^ 200 : Nat) : Int) := by decide +kernel
      rw [e] at n1
      generalize (2 ^ 200 : Nat) = m at *
      omega
    refine ⟨_, rfl, d, _, 0, _, rfl, rfl, .of hd, rfl, a, 0, rfl, rfl, _, rfl, ite2 (fun e => ?_) (fun e => ?_)⟩
    · refine ⟨_, rfl, d, _, 0, _, rfl, rfl, .of hd, rfl, _, rfl, _, rfl, _, _, rfl, rfl, n0, ?_⟩
      refine ⟨_, rfl, d, _, 0, _, rfl, rfl, .of hd, rfl, _, rfl, _, _, rfl, rfl, wide_div n0 nB (by decide) (by decide), _, rfl, d, _, 0, 0, rfl, rfl, hd, rfl, ?_⟩
      refine ⟨_, rfl, q _ _ ((Chg.refl d H).upd) ⟨_, _, _, upd_same, ?_⟩ (Int.emod_nonneg _ (by omega)) (Int.emod_lt_of_pos _ n0)⟩
      have h1 : a / n ≤ a := Int.ediv_le_self _ B.a0
      have h2 : 0 ≤ a / n := Int.ediv_nonneg B.a0 (by omega)
      exact ⟨h2, less_ok B.a0 B.aB h2 h1, B.b0, B.b1, B.c0⟩
    · refine ⟨_, rfl, d, _, 2, _, rfl, rfl, .of hd, rfl, _, _, rfl, rfl, _, rfl, d, _, 2, 2, rfl, rfl, hd, rfl, ?_⟩
      have hd1 : (upd H d (.lst [.int a, .int b, .int (c + 1)])) d = some (.lst [.int a, .int b, .int (c + 1)]) := upd_same
      dsimp only
      refine asgS (fun v H' => H' = upd H d (.lst [.int a, .int b, .int (c + 1)]) ∧ ∃ x : Int, v = .int x ∧ 0 ≤ x ∧ x < 2305843009213693951) (fun Q' q' => ?_) (fun v H' hv => ?_)
      · refine ⟨_, rfl, d, _, 1, _, rfl, rfl, .of hd1, rfl, _, rfl, d, _, 2, _, rfl, rfl, .of hd1, rfl, _, _, rfl, rfl, .inl ⟨by decide, by decide⟩, _, _, rfl, rfl, _, rfl, _, _, rfl, rfl, by change (0 : Int) < _; decide, q' _ _ ⟨rfl, _, rfl, Int.emod_nonneg _ (by decide), Int.emod_lt_of_pos _ (by decide)⟩⟩
      obtain ⟨rfl, x, rfl, x0, x1⟩ := hv
      have y0 := Int.emod_nonneg (x * x) (show (2305843009213693921 : Int) ≠ 0 by decide)
      have y1 := Int.emod_lt_of_pos (x * x) (show (0 : Int) < 2305843009213693921 by decide)
      refine ⟨_, rfl, _, rfl, _, _, rfl, rfl, .inl ⟨by omega, by omega⟩, _, rfl, _, _, rfl, rfl, by change (0 : Int) < _; decide, _, rfl, _, _, rfl, rfl, .inl ⟨by omega, by omega⟩, _, rfl, d, _, 2, _, rfl, rfl, .of hd1, rfl, _, _, rfl, rfl, .inl ⟨by decide, by decide⟩, _, _, rfl, rfl, ?_⟩
      refine ⟨_, rfl, _, rfl, _, _, rfl, rfl, by change (0 : Int) < _; decide, ?_⟩
      refine ⟨_, rfl, _, _, rfl, rfl, ⟨by decide, by decide⟩, _, rfl, _, rfl, _, _, rfl, rfl, n0, ?_⟩
      refine q _ _ ((Chg.refl d H).upd) ⟨_, _, _, hd1, ?_⟩ (Int.emod_nonneg _ (by omega)) (Int.emod_lt_of_pos _ n0)
      have c1 := B.c0
      exact ⟨B.a0, B.aB, B.b0, B.b1, by omega⟩

theorem ok_oneL (Z : Zs mg) (D : Df K mg "_law_one_of" s_one_of P_one_of f fd) {fr : Addr} {fdr : FuncData} (D_roll : Cl P w K mg base "_law_roll" 1 fr fdr P_roll spRoll) : FnOk P w K mg base CX0 2 f fd P_one_of (spOneL K) := by
  refine D.F.ok sc_one_of (fun vs H Q E h => ?_) (fun cdv A outer s H vs Q E hr h => ?_)
  · obtain ⟨d, a, xs, rfl, _⟩ := h
    rfl
  · obtain ⟨d, a, xs, rfl, hD, ne, hS, h0, h1, q⟩ := h
    have nd := sc_one_of.nd
    refine ⟨_,
    (pss_one
    (ps_ret (pe_ix ix_list (pv 1) (pe_call D_roll.ok (hr.mono (by decide)) (by rfl) D_roll.g D_roll.kp D_roll.b .nil pass0 (pa_cons (pv 0) (pa_cons (pe_callB call_lenL (by rfl) Z.z_len (by decide +kernel) (pa_cons (pv 1) pa_nil)) pa_nil))) (fun _ _ => rfl)))), ?_⟩
    refine ⟨_, rfl, _, rfl, _, rfl, a, xs, rfl, hS, d, xs.length, rfl, hD, by omega, by omega, fun H' r c D' r0 r1 => ?_⟩
    have hr' : r.toNat < xs.length := by omega
    refine ⟨a, xs, r, xs[r.toNat], rfl, rfl, c.seq ne hS, ?_, q _ _ c D' (List.getElem_mem hr')⟩
    exact at_nat r0 (List.getElem?_eq_getElem hr')

/-- a flat datum -/
inductive Fl : PyData → V → Prop where
  | non : Fl .none .non
  | bl (b : Bool) : Fl (.bool b) (.bl b)
  | int (i : Int) (h : i.natAbs.log2 < 1920) : Fl (.int i) (.int i)
  | str (x : Str) (h : ∀ c ∈ x.cps.toList, c < 16 ^ 8) (l : x.cps.size ≤ 100) : Fl (.str x) (.str x)
theorem Fl.ty {H : Hp} {d : PyData} {v : V} (h : Fl d v) : ∃ t : String, TyX K H v (.type t) ∧ kitB t "list" = some false ∧ kitB t "tuple" = some false ∧ kitB t "dict" = some false := by
  cases h with
  | non => exact ⟨"NoneType", .base .non, by decide +kernel, by decide +kernel, by decide +kernel⟩
  | bl b => exact ⟨"bool", .base (.bl b), by decide +kernel, by decide +kernel, by decide +kernel⟩
  | int i => exact ⟨"int", .base (.int i), by decide +kernel, by decide +kernel, by decide +kernel⟩
  | str x => exact ⟨"str", .base (.str x), by decide +kernel, by decide +kernel, by decide +kernel⟩
theorem Fl.ok {d : PyData} {v : V} (h : Fl d v) : d.showable = true ∧ d.leavesShort 1921 = true ∧ d.hasDict = false := by
  cases h with
  | non => exact ⟨rfl, rfl, rfl⟩
  | bl b => exact ⟨rfl, rfl, rfl⟩
  | int i h => exact ⟨decide_eq_true h, decide_eq_true (int_text_len_1921 h), rfl⟩
  | str x h _ => exact ⟨rfl, List.all_eq_true.mpr fun c hc => decide_eq_true (h c hc), rfl⟩
theorem Fl.reads {hp : Heap} {d : PyData} {v : V} {u : Value} (h : Fl d v) (r : RelV v u) : Reads hp u d [] := by
  cases h with
  | non => cases r; exact .none
  | bl b => cases r; exact .bool b
  | int i _ => obtain ⟨t, rfl⟩ := r; exact .int i t
  | str x _ _ => obtain ⟨t, rfl⟩ := r; exact .str x t
theorem flAll {hp : Heap} : ∀ {ds : List PyData} {xs : List V} {us : List Value}, Paired Fl ds xs → Vals xs us → (PyData.showableAll ds = true ∧ PyData.leavesShortAll 1921 ds = true ∧ PyData.hasDictAll ds = false) ∧ ∃ as, ReadsAll hp us ds as
  | [], _, _, h, r => by
    cases h
    cases r
    exact ⟨⟨rfl, rfl, rfl⟩, _, .nil⟩
  | d :: ds, _, _, h, r => by
    cases h with
    | cons h1 h2 =>
      cases r with
      | cons q qs =>
        obtain ⟨⟨b1, b2, b3⟩, as, ra⟩ := flAll (hp := hp) h2 qs
        obtain ⟨a1, a2, a3⟩ := h1.ok
        exact ⟨⟨by simp only [PyData.showableAll, a1, b1, Bool.and_self], by simp only [PyData.leavesShortAll, a2, b2, Bool.and_self], by simp only [PyData.hasDictAll, a3, b3, Bool.or_self]⟩, _, .cons (h1.reads q) ra⟩
/-- a datum that is kept: flat, or a tuple, a list of flat ones, or a dict of at most one pair -/
def Wv (H : Hp) (d : PyData) (v : V) : Prop := Fl d v ∨ (∃ (a : Addr) (ds : List PyData) (xs : List V), d = .tuple ds ∧ v = .ref a ∧ H a = some (.tup xs) ∧ Paired Fl ds xs ∧ xs.length ≤ 4) ∨
  (∃ (a : Addr) (ds : List PyData) (xs : List V), d = .list ds ∧ v = .ref a ∧ H a = some (.lst xs) ∧ Paired Fl ds xs ∧ xs.length ≤ 4) ∨
  (∃ a : Addr, d = .dict [] ∧ v = .ref a ∧ H a = some (.dK [])) ∨
  (∃ (a : Addr) (x : Str) (i : Int), d = .dict [(.str x, .int i)] ∧ v = .ref a ∧ H a = some (.dK [(.inr x, .int i)]) ∧ (∀ c ∈ x.cps.toList, c < 16 ^ 8) ∧ x.cps.size ≤ 100 ∧ i.natAbs.log2 < 1920)
theorem Wv.same {H H' : Hp} {d : PyData} {v : V} (s : Same H H') (h : Wv H d v) : Wv H' d v := by
  rcases h with h | ⟨a, ds, xs, e1, e2, h, r⟩ | ⟨a, ds, xs, e1, e2, h, r⟩ | ⟨a, e1, e2, h⟩ | ⟨a, x, i, e1, e2, h, r⟩
  · exact .inl h
  · exact .inr (.inl ⟨a, ds, xs, e1, e2, s _ _ h, r⟩)
  · exact .inr (.inr (.inl ⟨a, ds, xs, e1, e2, s _ _ h, r⟩))
  · exact .inr (.inr (.inr (.inl ⟨a, e1, e2, s _ _ h⟩)))
  · exact .inr (.inr (.inr (.inr ⟨a, x, i, e1, e2, s _ _ h, r⟩)))
section
variable {X : Cx} {pins : List (Addr × Obj)} {σ : L2.St} {H : Hp} {s : Shared}
theorem Wv.reads (I : Inv X pins σ H s) {d : PyData} {v : V} {u : Value} (h : Wv H d v) (r : RelV v u) : (d.showable = true ∧ d.leavesShort 1921 = true) ∧ ∃ as, Reads s.heap u d as ∧ (d.hasDict = true → sysModules ∉ as) := by
  rcases h with h | ⟨a, ds, xs, rfl, rfl, ha, pr, _⟩ | ⟨a, ds, xs, rfl, rfl, ha, pr, _⟩ | ⟨a, rfl, rfl, ha⟩ | ⟨a, x, i, rfl, rfl, ha, hx, _, hi⟩
  · obtain ⟨a1, a2, a3⟩ := h.ok
    exact ⟨⟨a1, a2⟩, _, h.reads r, fun z => by rw [a3] at z; cases z⟩
  · cases r
    obtain ⟨_, its, rv, o, e, c, m, dd⟩ := (show ObjOk X.prog X.w H s.heap a (.tup xs) from I.hok a _ ha)
    obtain ⟨⟨a1, a2, a3⟩, as, ra⟩ := flAll (hp := s.heap) pr rv
    exact ⟨⟨a1, a2⟩, _, .tuple e c dd ra, fun z => by rw [show (PyData.tuple ds).hasDict = PyData.hasDictAll ds from rfl, a3] at z; cases z⟩
  · cases r
    obtain ⟨_, its, m, rv, e⟩ := (show ObjOk X.prog X.w H s.heap a (.lst xs) from I.hok a _ ha)
    obtain ⟨⟨a1, a2, a3⟩, as, ra⟩ := flAll (hp := s.heap) pr rv
    exact ⟨⟨a1, a2⟩, _, .list e rfl rfl ra, fun z => by rw [show (PyData.list ds).hasDict = PyData.hasDictAll ds from rfl, a3] at z; cases z⟩
  · cases r
    obtain ⟨_, ns, vs, kv, dk⟩ := (show ObjOk X.prog X.w H s.heap a (.dK []) from I.hok a _ ha)
    cases kv
    obtain ⟨o, es, ep, e, ex, dd, _, hes, _⟩ := dk
    have e0 : es.toList = [] := by
      generalize es.toList = l at hes
      cases hes
      rfl
    refine ⟨⟨rfl, rfl⟩, _, .dict (kvs := []) e ex.1 dd (by rw [e0]; exact .nil) (by rw [e0]; exact .nil), fun _ z => ?_⟩
    have z' : sysModules = a := by simpa using z
    rw [← z'] at ns
    exact absurd ns (by decide)
  · cases r
    obtain ⟨_, ns, vs, kv, dk⟩ := (show ObjOk X.prog X.w H s.heap a (.dK [(.inr x, .int i)]) from I.hok a _ ha)
    cases kv with
    | @cons p q _ qs hp hq =>
      cases hq
      obtain ⟨k, u⟩ := q
      obtain ⟨e1, t, e2⟩ := hp
      dsimp only at e1 e2
      subst e1 e2
      obtain ⟨o, es, ep, e, ex, dd, _, hes, _⟩ := dk
      generalize hl : es.toList = l at hes
      cases hes with
      | @cons en kv r kvs h1 h2 h3 =>
        cases h3
        obtain ⟨eh, ek, ev⟩ := en
        dsimp only at h1 h2
        obtain ⟨u2, rfl⟩ : ∃ u2, ek = Value.str x u2 := by
          rcases keyIs_shape (k := .inr x) (v := ek) h1 with ⟨j, t2, e1, _⟩ | ⟨y, t2, e1, e2⟩
          · cases e1
          · cases e1
            exact ⟨t2, e2⟩
        subst h2
        have d1 := decide_eq_true hi
        have d2 := decide_eq_true (int_text_len_1921 hi)
        have d3 : (x.cps.toList.all fun c => decide (c < 16 ^ 8)) = true := List.all_eq_true.mpr fun c hc => decide_eq_true (hx c hc)
        refine ⟨⟨?_, ?_⟩, _, .dict (kvs := [(.str x, .int i)]) e ex.1 dd (by rw [hl]; exact .cons (.str x u2) .nil) (by rw [hl]; exact .cons (.int i t) .nil), fun _ z => ?_⟩
        · show (true && decide (i.natAbs.log2 < 1920) && true) = true
          rw [d1]
          rfl
        · show ((x.cps.toList.all fun c => decide (c < 16 ^ 8)) && decide ((Str.ofString (toString i)).length ≤ 1921) && true) = true
          rw [d2, d3]
          rfl
        · have z' : sysModules = a := by simpa using z
          rw [← z'] at ns
          exact absurd ns (by decide)
theorem wvAll (I : Inv X pins σ H s) : ∀ {ds : List PyData} {xs : List V} {us : List Value}, Paired (Wv H) ds xs → Vals xs us → PyData.leavesShortAll 1921 ds = true ∧ (∃ as, ReadsAll s.heap us ds as) ∧
    ((∀ t ∈ PyData.shownAll ds, t.length ≤ sizeLine) → ∃ bs, ReadAtMost s.heap (PyData.depthAll ds) bs ∧ ReprAllK X.prog X.w bs s.heap (PyData.depthAll ds) us (PyData.shownAll ds))
  | [], _, _, h, r => by
    cases h
    cases r
    exact ⟨rfl, ⟨_, .nil⟩, fun _ => ⟨[], (fun _ z => nomatch z), .nil⟩⟩
  | d :: ds, _, _, h, r => by
    cases h with
    | cons h1 h2 =>
      cases r with
      | cons q qs =>
        obtain ⟨⟨a1, a2⟩, as, ra, na⟩ := h1.reads I q
        obtain ⟨l2, ⟨bs, rb⟩, k2⟩ := wvAll I h2 qs
        refine ⟨by simp only [PyData.leavesShortAll, a2, l2, Bool.and_self], ⟨_, .cons ra rb⟩, fun hz => ?_⟩
        obtain ⟨c1, m1, r1⟩ := ReprK.of_reads (prog := X.prog) (w := X.w) ra a1 na (hz _ List.mem_cons_self)
        obtain ⟨c2, m2, r2⟩ := k2 fun t ht => hz t (List.mem_cons_of_mem _ ht)
        exact ⟨c1 ++ c2, (m1.mono (Nat.le_max_left d.depth (PyData.depthAll ds))).append (m2.mono (Nat.le_max_right _ _)), .cons ((r1.more fun b hb => List.mem_append_left _ hb).level_le (Nat.le_max_left _ _)) (r2.more_le (fun b hb => List.mem_append_right _ hb) (Nat.le_max_right _ _))⟩
end
/-- repr of a list of such data -/
def rReprW : List V → Hp → VK → Prop := fun vs H Q => ∃ (p : Addr) (x : V) (xs : List V) (ds : List PyData), vs = [.ref p] ∧ H p = some (.lst (x :: xs)) ∧ Paired (Wv H) ds (x :: xs) ∧ (PyData.list ds).bulk ≤ 8000 ∧ PyData.depthAll ds ≤ 50 ∧ Q (.str (PyData.list ds).shown) H
theorem call_reprW {X : Cx} (hq : Quiet X.A) (hu : X.A.units + 64 < cLine) : CallR X (.builtin "repr") rReprW := by
  intro pins s σ H xs us Q I r h
  obtain ⟨p, y, ys, ds, rfl, hp, pr, hb, hdp, q⟩ := h
  obtain ⟨u, rfl, r1⟩ := vals1 r
  cases (show u = Value.ref p from r1)
  obtain ⟨_, its, m, rv, e⟩ := (show ObjOk X.prog X.w H s.heap p (.lst (y :: ys)) from I.hok p _ hp)
  obtain ⟨k2, ⟨as, ra⟩, kk⟩ := wvAll I pr rv
  have sz : (PyData.list ds).shown.length ≤ sizeLine := by
    have z := PyData.shown_le_bulk 1921 (by decide) (.list ds) k2
    have e : (1921 + 2) * (PyData.list ds).bulk ≤ 1923 * 8000 := Nat.mul_le_mul_left _ hb
    rw [sizeLine_eq]
    omega
  have sz' : (listText (PyData.shownAll ds)).length ≤ sizeLine := sz
  obtain ⟨bs, hbs, hk⟩ := kk fun t ht => Nat.le_trans (listText_mem_le ht) sz'
  have hna : p ∉ bs := not_mem_of_deeper (.list e rfl rfl ra) (by simp only [PyData.depth]; omega) hbs
  cases rv with
  | cons q1 qs =>
    refine call_repr_slot (by omega) ⟨_, e, rfl⟩ F.slot_list_repr.toG (call_list_reprK e rfl rfl hna (by simpa using hk.length_eq) (fun i y e => hk.item i y (by simpa using e)) (A := X.A.in1) hq (fun b _ => Clear.nil b) (by show X.A.units + 1 + _ < cLine; omega) (fun _ _ z => z) (fun h' u tk kp => ⟨_, _, rfl, .str (PyData.list ds).shown, H, I.kept kp, ⟨_, rfl⟩, q⟩) sz')
theorem Fl.small {d : PyData} {v : V} (h : Fl d v) : d.bulk ≤ 100 ∧ d.depth = 0 := by
  cases h with
  | non => exact ⟨Nat.zero_le _, rfl⟩
  | bl b => exact ⟨Nat.zero_le _, rfl⟩
  | int i _ => exact ⟨Nat.zero_le _, rfl⟩
  | str x _ hx => exact ⟨hx, rfl⟩
theorem flAll_small : ∀ {ds : List PyData} {xs : List V}, Paired Fl ds xs → PyData.bulkAll ds ≤ 101 * xs.length ∧ PyData.depthAll ds = 0
  | [], _, h => by
    cases h
    exact ⟨by decide, rfl⟩
  | d :: ds, _, h => by
    cases h with
    | cons h1 h2 =>
      obtain ⟨a1, a2⟩ := h1.small
      obtain ⟨b1, b2⟩ := flAll_small h2
      refine ⟨?_, ?_⟩
      · show d.bulk + 1 + PyData.bulkAll ds ≤ 101 * (_ + 1)
        omega
      · show max d.depth (PyData.depthAll ds) = 0
        rw [a2, b2]
        rfl
theorem Wv.small {H : Hp} {d : PyData} {v : V} (h : Wv H d v) : d.bulk ≤ 500 ∧ d.depth ≤ 2 := by
  rcases h with h | ⟨a, ds, xs, rfl, rfl, h, r, l⟩ | ⟨a, ds, xs, rfl, rfl, h, r, l⟩ | ⟨a, rfl, rfl, h⟩ | ⟨a, x, i, rfl, rfl, h, r, lx, li⟩
  · have := h.small
    omega
  · obtain ⟨b1, b2⟩ := flAll_small r
    exact ⟨by show PyData.bulkAll ds ≤ 500; omega, by show PyData.depthAll ds + 1 ≤ 2; omega⟩
  · obtain ⟨b1, b2⟩ := flAll_small r
    exact ⟨by show PyData.bulkAll ds ≤ 500; omega, by show PyData.depthAll ds + 1 ≤ 2; omega⟩
  · exact ⟨by decide, by decide⟩
  · exact ⟨by show x.cps.size + 0 + 2 + 0 ≤ 500; omega, Nat.le_of_ble_eq_true rfl⟩
def spKept0 : Sp := fun vs H Q _ => ∃ (d : PyData) (v : V), vs = [v] ∧ Fl d v ∧ Q v H
def spKept1 : Sp := fun vs H Q _ => ∃ (d : PyData) (v : V), vs = [v] ∧ Wv H d v ∧ ∀ H' v', Same H H' → Wv H' d v' → Q v' H'
theorem pr_get : ∀ {ds : List PyData} {xs : List V} {i : Nat} {x : V}, Paired Fl ds xs → xs[i]? = some x → ∃ d, Fl d x
  | [], _, i, x, h, e => by
    cases h
    cases e
  | d :: ds, _, i, x, h, e => by
    cases h with
    | cons h1 h2 =>
      cases i with
      | zero => cases e; exact ⟨d, h1⟩
      | succ i => exact pr_get h2 e
theorem valV_one {k : Key} {v : V} : some v = valV [(k, v)] k := by
  unfold valV
  simp
theorem putK_one {k : Key} {v : V} : putK [] k v = [(k, v)] := by
  unfold putK
  simp
theorem upd_twice {H : Hp} {a : Addr} {o u : HO} : upd (upd H a o) a u = upd H a u := by
  funext b
  by_cases e : b = a
  · rw [e, upd_same, upd_same]
  · rw [upd_ne e, upd_ne e, upd_ne e]
theorem lock_new {H : Hp} {a D : Addr} {u v : HO} (ha : H a = some u) (n : upd H a v D = none) : D ≠ a ∧ H D = none := by
  have e : D ≠ a := fun z => by
    rw [z, upd_same] at n
    cases n
  exact ⟨e, by rw [upd_ne e] at n; exact n⟩
theorem lock_same {H : Hp} {a D : Addr} {u v o : HO} (ha : H a = some u) (na : D ≠ a) (n : H D = none) : Same H (upd (upd (upd H a v) D o) a u) := fun b w e => by
  by_cases h : b = a
  · rw [h, upd_same]
    rw [h, ha] at e
    exact e
  · have hD : b ≠ D := fun z => by
      rw [z, n] at e
      cases e
    rw [upd_ne h, upd_ne hD, upd_ne h]
    exact e
theorem ok_kept0 (Z : Zs mg) (D : Df K mg "kept" s_ekept P_ekept f fd) : FnOk P w K mg base CX0 1 f fd P_ekept spKept0 := by
  refine D.F.ok sc_ekept (fun vs H Q E h => ?_) (fun cdv A outer s H vs Q E hr h => ?_)
  · obtain ⟨d, v, rfl, _⟩ := h
    rfl
  · obtain ⟨d, v, rfl, hv, q⟩ := h
    have nd := sc_ekept.nd
    refine ⟨_,
    (pss_cons
    (ps_if (pt_val (pe_callB call_isi (by rfl) Z.z_isinstance (by decide +kernel) (pa_cons (pv 0) (pa_cons (pe_bltn (v := .ty "list") (by rfl) Z.z_list (by decide +kernel) rfl) pa_nil))))
      (pss_one
      ps_never)
      pss_nil)
    (pss_cons
    (ps_if (pt_val (pe_callB call_isi (by rfl) Z.z_isinstance (by decide +kernel) (pa_cons (pv 0) (pa_cons (pe_bltn (v := .ty "tuple") (by rfl) Z.z_tuple (by decide +kernel) rfl) pa_nil))))
      (pss_one
      ps_never)
      pss_nil)
    (pss_cons
    (ps_if (pt_val (pe_callB call_isi (by rfl) Z.z_isinstance (by decide +kernel) (pa_cons (pv 0) (pa_cons (pe_bltn (v := .ty "dict") (by rfl) Z.z_dict (by decide +kernel) rfl) pa_nil))))
      (pss_one
      ps_never)
      pss_nil)
    (pss_one
    (ps_ret (pv 0)))))), ?_⟩
    obtain ⟨t, ht, k1, k2, k3⟩ := hv.ty (K := K) (H := H)
    refine ⟨_, rfl, v, .ty "list", _, _, false, rfl, .ty _, ht, kit_ty k1, false, rfl, ifF rfl ?_⟩
    dsimp only [tNext]
    refine ⟨_, rfl, v, .ty "tuple", _, _, false, rfl, .ty _, ht, kit_ty k2, false, rfl, ifF rfl ?_⟩
    dsimp only [tNext]
    refine ⟨_, rfl, v, .ty "dict", _, _, false, rfl, .ty _, ht, kit_ty k3, false, rfl, ifF rfl ?_⟩
    exact ⟨_, rfl, q⟩
theorem ok_kept1 (Z : Zs mg) (D : Df K mg "kept" s_ekept P_ekept f fd) {fp : Addr} {dp : FuncData} (D_kept : Cl P w K mg base "kept" 1 fp dp P_ekept spKept0) : FnOk P w K mg base CX0 2 f fd P_ekept spKept1 := by
  refine D.F.ok sc_ekept (fun vs H Q E h => ?_) (fun cdv A outer s H vs Q E hr h => ?_)
  · obtain ⟨d, v, rfl, _⟩ := h
    rfl
  · obtain ⟨d, v, rfl, hv, q⟩ := h
    have nd := sc_ekept.nd
    have hu : (A.deeper (envOfC "kept" (defScope s_ekept) s.heap.objs.size f cdv)).units + 1 < cLine := by
      have := hr.un
      omega
    refine ⟨_,
    (pss_cons
    (ps_if (pt_val (pe_callB call_isi (by rfl) Z.z_isinstance (by decide +kernel) (pa_cons (pv 0) (pa_cons (pe_bltn (v := .ty "list") (by rfl) Z.z_list (by decide +kernel) rfl) pa_nil))))
      (pss_one
      (ps_ret (pe_lc (own := [("part", 1)]) (g := gName 1) (tt := tYes) rfl nd (pi_list (pv 0)) (blkOk_by (N := N_ekept) (sc := defScope s_ekept) (by decide +kernel)) (fun _ _ _ _ _ => (pg_name (i := 1) nd rfl (Or.inl rfl))) (fun _ _ _ _ _ => pts_nil) (fun _ _ _ _ _ => (pe_call D_kept.ok (hr.mono (by decide)) (by rfl) D_kept.g D_kept.kp D_kept.b .nil pass0 (pa_cons (pv 1) pa_nil))))))
      pss_nil)
    (pss_cons
    (ps_if (pt_val (pe_callB call_isi (by rfl) Z.z_isinstance (by decide +kernel) (pa_cons (pv 0) (pa_cons (pe_bltn (v := .ty "tuple") (by rfl) Z.z_tuple (by decide +kernel) rfl) pa_nil))))
      (pss_one
      (ps_ret (pe_callTy call_tuple_of (by rfl) Z.z_tuple (by decide +kernel) (pa_cons (pe_lc (own := [("part", 1)]) (g := gName 1) (tt := tYes) rfl nd (pi_tup (pv 0)) (blkOk_by (N := N_ekept) (sc := defScope s_ekept) (by decide +kernel)) (fun _ _ _ _ _ => (pg_name (i := 1) nd rfl (Or.inl rfl))) (fun _ _ _ _ _ => pts_nil) (fun _ _ _ _ _ => (pe_call D_kept.ok (hr.mono (by decide)) (by rfl) D_kept.g D_kept.kp D_kept.b .nil pass0 (pa_cons (pv 1) pa_nil)))) pa_nil))))
      pss_nil)
    (pss_cons
    (ps_if (pt_val (pe_callB call_isi (by rfl) Z.z_isinstance (by decide +kernel) (pa_cons (pv 0) (pa_cons (pe_bltn (v := .ty "dict") (by rfl) Z.z_dict (by decide +kernel) rfl) pa_nil))))
      (pss_one
      (ps_ret (pe_lock (pe_dc (own := [("key", 2)]) (g := gName 2) (tt := tYes) rfl nd (pi_keys (pv 0)) (blkOk_by (N := N_ekept) (sc := defScope s_ekept) (by decide +kernel)) (fun _ _ _ _ _ => (pg_name (i := 2) nd rfl (Or.inl rfl))) (fun _ _ _ _ _ => pts_nil) (fun _ _ _ _ _ => (pv 2)) (fun _ _ _ _ _ => (pe_call D_kept.ok (hr.mono (by decide)) (by rfl) D_kept.g D_kept.kp D_kept.b .nil pass0 (pa_cons (pe_dget hu (pv 0) (pv 2) (fun _ _ => rfl)) pa_nil)))))))
      pss_nil)
    (pss_one
    (ps_ret (pv 0)))))), ?_⟩
    rcases hv with hv | ⟨a, ds, xs, rfl, rfl, ha, pr, hl⟩ | ⟨a, ds, xs, rfl, rfl, ha, pr, hl⟩ | ⟨a, rfl, rfl, ha⟩ | ⟨a, x, i, rfl, rfl, ha, hx, hxl, hi⟩
    · obtain ⟨t, ht, k1, k2, k3⟩ := hv.ty (K := K) (H := H)
      refine ⟨_, rfl, v, .ty "list", _, _, false, rfl, .ty _, ht, kit_ty k1, false, rfl, ifF rfl ?_⟩
      dsimp only [tNext]
      refine ⟨_, rfl, v, .ty "tuple", _, _, false, rfl, .ty _, ht, kit_ty k2, false, rfl, ifF rfl ?_⟩
      dsimp only [tNext]
      refine ⟨_, rfl, v, .ty "dict", _, _, false, rfl, .ty _, ht, kit_ty k3, false, rfl, ifF rfl ?_⟩
      exact ⟨_, rfl, q _ _ (Same.refl H) (.inl hv)⟩
    · refine ⟨_, rfl, .ref a, .ty "list", _, _, false, rfl, .ty _, .base (.tup ha), kit_ty (by decide +kernel), false, rfl, ifF rfl ?_⟩
      dsimp only [tNext]
      refine ⟨_, rfl, .ref a, .ty "tuple", _, _, true, rfl, .ty _, .base (.tup ha), kit_ty (by decide +kernel), true, rfl, ifT rfl ?_⟩
      refine ⟨_, rfl, a, rfl, ⟨_, .of ha⟩, fun D9 nD => ?_⟩
      refine lc_mapT xs (fun v => v) (.of ha) nD (sz1000 (by omega)) (fun i v H1 Q' N hv s1 k => ?_) (fun H1 s1 hd => ?_)
      · obtain ⟨d, hd⟩ := pr_get pr hv
        exact ⟨rfl, _, rfl, d, v, rfl, hd, k H1 (Same.refl H1)⟩
      · rw [List.map_id'] at hd
        exact ⟨D9, xs, rfl, .inl ⟨.of hd, fun t nt => q _ _ (s1.trans (same_new nt)) (.inr (.inl ⟨t, ds, xs, rfl, rfl, upd_same, pr, hl⟩))⟩⟩
    · refine ⟨_, rfl, .ref a, .ty "list", _, _, true, rfl, .ty _, .base (.lst ha), kit_ty (by decide +kernel), true, rfl, ifT rfl ?_⟩
      refine ⟨_, rfl, a, rfl, ⟨_, .of ha⟩, fun D9 nD => ?_⟩
      refine lc_mapL xs (fun v => some v) (.of ha) nD (sz1000 (by omega)) (fun i v H1 Q' N hv s1 k k0 => ?_) (fun H1 s1 hd => ?_)
      · obtain ⟨d, hd⟩ := pr_get pr hv
        exact ⟨rfl, _, rfl, d, v, rfl, hd, k v H1 rfl (Same.refl H1)⟩
      · rw [List.filterMap_some] at hd
        exact q _ _ s1 (.inr (.inr (.inl ⟨D9, ds, xs, rfl, rfl, hd, pr, hl⟩)))
    · refine ⟨_, rfl, .ref a, .ty "list", _, _, false, rfl, .ty _, .base (.dK ha), kit_ty (by decide +kernel), false, rfl, ifF rfl ?_⟩
      dsimp only [tNext]
      refine ⟨_, rfl, .ref a, .ty "tuple", _, _, false, rfl, .ty _, .base (.dK ha), kit_ty (by decide +kernel), false, rfl, ifF rfl ?_⟩
      dsimp only [tNext]
      refine ⟨_, rfl, .ref a, .ty "dict", _, _, true, rfl, .ty _, .base (.dK ha), kit_ty (by decide +kernel), true, rfl, ifT rfl ?_⟩
      refine ⟨a, _, ha, trivial, fun od => ⟨_, rfl, a, od, rfl, .inl ⟨[], upd_same, fun D9 nD => ?_⟩⟩⟩
      obtain ⟨na, n0⟩ := lock_new ha nD
      refine ⟨fun _ _ H' => H' = upd (upd H a (.frz od (.dK []))) D9 (.dK []), ⟨0, rfl⟩, fun i m H' e => .inl ⟨⟨?_, Nat.zero_le _⟩, ?_⟩⟩
      · rw [e, upd_ne na.symm]
        exact upd_same
      · rw [e]
        refine ⟨by rw [upd_ne na.symm]; exact upd_same, q _ _ (lock_same ha na n0) (.inr (.inr (.inr (.inl ⟨D9, rfl, rfl, ?_⟩))))⟩
        rw [upd_ne na]
        exact upd_same
    · refine ⟨_, rfl, .ref a, .ty "list", _, _, false, rfl, .ty _, .base (.dK ha), kit_ty (by decide +kernel), false, rfl, ifF rfl ?_⟩
      dsimp only [tNext]
      refine ⟨_, rfl, .ref a, .ty "tuple", _, _, false, rfl, .ty _, .base (.dK ha), kit_ty (by decide +kernel), false, rfl, ifF rfl ?_⟩
      dsimp only [tNext]
      refine ⟨_, rfl, .ref a, .ty "dict", _, _, true, rfl, .ty _, .base (.dK ha), kit_ty (by decide +kernel), true, rfl, ifT rfl ?_⟩
      refine ⟨a, _, ha, trivial, fun od => ⟨_, rfl, a, od, rfl, .inl ⟨[(.inr x, .int i)], upd_same, fun D9 nD => ?_⟩⟩⟩
      obtain ⟨na, n0⟩ := lock_new ha nD
      refine ⟨fun j m H' => (j = 0 ∧ m = 1 ∧ H' = upd (upd H a (.frz od (.dK [(.inr x, .int i)]))) D9 (.dK [])) ∨ (j = 1 ∧ H' = upd (upd (upd H a (.frz od (.dK [(.inr x, .int i)]))) D9 (.dK [])) D9 (.dK [(.inr x, .int i)])), ⟨1, .inl ⟨rfl, rfl, rfl⟩⟩, fun j m H' e => ?_⟩
      rcases e with ⟨rfl, rfl, rfl⟩ | ⟨rfl, rfl⟩
      · have hfr : upd (upd H a (.frz od (.dK [(.inr x, .int i)]))) D9 (.dK []) a = some (.frz od (.dK [(.inr x, .int i)])) := by
          rw [upd_ne na.symm]
          exact upd_same
        refine .inr ⟨⟨hfr, by show 0 < 1; decide⟩, fun H' => H' = upd (upd (upd H a (.frz od (.dK [(.inr x, .int i)]))) D9 (.dK [])) D9 (.dK [(.inr x, .int i)]), fun H' e => ⟨0, by decide, .inr ⟨rfl, e⟩⟩, fun y H' hy => ?_⟩
        obtain ⟨rfl, k, v, hk, rfl⟩ := hy
        cases hk
        refine ⟨rfl, _, rfl, _, rfl, _, rfl, a, .int i, rfl, .inl ⟨_, .inr x, .inr ⟨od, hfr⟩, rfl, valV_one⟩, .int i, _, rfl, .int i hi, [], .inr x, rfl, upd_same, by decide, ?_⟩
        exact congrArg (upd _ D9) (congrArg HO.dK (putK_one).symm) ▸ rfl
      · refine .inl ⟨⟨?_, Nat.le_refl _⟩, ?_⟩
        · rw [upd_ne na.symm, upd_ne na.symm]
          exact upd_same
        · refine ⟨by rw [upd_ne na.symm, upd_ne na.symm]; exact upd_same, q _ _ ?_ (.inr (.inr (.inr (.inr ⟨D9, x, i, rfl, rfl, ?_, hx, hxl, hi⟩))))⟩
          · rw [upd_twice]
            exact lock_same ha na n0
          · rw [upd_ne na]
            exact upd_same

end
end K00
set_option Elab.async false
set_option linter.all false
set_option maxRecDepth 100000
set_option maxHeartbeats 8000000
namespace K00
open PySem PySem.Spec PyProof.Rows L2 Ly

section
variable {P : Program} {w : World} {K : PySem.W.Frag} {mg : Str → Option Value} {base : Heap} {f C : Addr} {fd : FuncData} {B newId initId : String} {bmB bm : List Value}
/-- all but what stands at a stays -/
def But (a : Addr) (H H' : Hp) : Prop := ∀ b o, b ≠ a → H b = some o → H' b = some o
theorem Wv.but {H H' : Hp} {a : Addr} {e : Option Addr} {d : PyData} {v : V} (ha : H a = some (exo a C e)) (s : But a H H') (h : Wv H d v) : Wv H' d v := by
  rcases h with h | ⟨b, ds, xs, e1, e2, h, r⟩ | ⟨b, ds, xs, e1, e2, h, r⟩ | ⟨b, e1, e2, h⟩ | ⟨b, x, i, e1, e2, h, r⟩
  · exact .inl h
  · exact .inr (.inl ⟨b, ds, xs, e1, e2, s _ _ (at_ne ha h exo_tup) h, r⟩)
  · exact .inr (.inr (.inl ⟨b, ds, xs, e1, e2, s _ _ (at_ne ha h (fun z => by unfold exo at z; cases z)) h, r⟩))
  · exact .inr (.inr (.inr (.inl ⟨b, e1, e2, s _ _ (at_ne ha h (fun z => by unfold exo at z; cases z)) h⟩)))
  · exact .inr (.inr (.inr (.inr ⟨b, x, i, e1, e2, s _ _ (at_ne ha h (fun z => by unfold exo at z; cases z)) h, r⟩)))
/-- the error with its one field -/
def spInit (C : Addr) (fl : Str) : Sp := fun vs H Q _ => ∃ (a : Addr) (d : PyData) (v : V), vs = [.ref a, v] ∧ H a = some (exo a C none) ∧ Wv H d v ∧
  ∀ H' v' dx, But a H H' → H' a = some (exo a C (some dx)) → H' dx = some (exd dx [(fl, v')]) → Wv H' d v' → Q .non H'
theorem init_heap {H H1 : Hp} {a dx : Addr} {fs : List (Str × V)} (ha : H a = some (exo a C none)) (s : Same H H1) (n : H1 dx = none) (ne : dx ≠ a) : But a H1 (upd (upd H1 dx (exd dx fs)) a (exo a C (some dx))) ∧ (upd (upd H1 dx (exd dx fs)) a (exo a C (some dx))) a = some (exo a C (some dx)) ∧ (upd (upd H1 dx (exd dx fs)) a (exo a C (some dx))) dx = some (exd dx fs) := by
  refine ⟨fun b o h e => ?_, upd_same, ?_⟩
  · rw [upd_ne h, upd_ne (ne_of_none e n)]
    exact e
  · rw [upd_ne ne]
    exact upd_same

abbrev s_iParseError : Stmt := inClass (topS 12) 0
abbrev N_iParseError : List Str := ["self", "line"]
abbrev P_iParseError : List Str := ["self", "line"]
theorem sc_iParseError : FnScope N_iParseError P_iParseError (defScope s_iParseError) := ⟨rfl, rfl, rfl, by decide +kernel, rfl, by decide +kernel, by decide +kernel⟩

theorem okm_iParseError (D : Dm K "__init__" "ParseError.__init__" s_iParseError P_iParseError f fd) (T : OexY K C B newId initId bmB bm) (hno : PySem.W.findIn K (.ref C) "line" = some none) {f1 : Addr} {d1 : FuncData} (D_kept : Cl P w K mg base "kept" 2 f1 d1 P_ekept spKept1) : FnOk P w K mg base CX0 3 f fd P_iParseError (spInit C "line") := by
  refine D.F.ok sc_iParseError (fun vs H Q E h => ?_) (fun cdv A outer s H vs Q E hr h => ?_)
  · obtain ⟨a, d, v, rfl, _⟩ := h
    rfl
  · obtain ⟨a, d, v, rfl, ha, hv, q⟩ := h
    have nd := sc_iParseError.nd
    refine ⟨_, (pss_one (ps_ostY T hno (pv 0) (pe_call D_kept.ok (hr.mono (by decide)) (by rfl) D_kept.g D_kept.kp D_kept.b .nil pass0 (pa_cons (pv 1) pa_nil)))), ?_⟩
    refine ⟨_, rfl, d, v, rfl, hv, fun H1 v' s1 hv' => ⟨_, rfl, a, rfl, s1 _ _ ha, fun dx n ne => ?_⟩⟩
    obtain ⟨k1, k2, k3⟩ := init_heap (C := C) (fs := [("line", v')]) ha s1 n ne
    exact q _ v' dx (fun b o h e => k1 b o h (s1 _ _ e)) k2 k3 (hv'.but (s1 _ _ ha) k1)

abbrev s_iUnknownName : Stmt := inClass (topS 13) 0
abbrev N_iUnknownName : List Str := ["self", "name"]
abbrev P_iUnknownName : List Str := ["self", "name"]
theorem sc_iUnknownName : FnScope N_iUnknownName P_iUnknownName (defScope s_iUnknownName) := ⟨rfl, rfl, rfl, by decide +kernel, rfl, by decide +kernel, by decide +kernel⟩

theorem okm_iUnknownName (D : Dm K "__init__" "UnknownName.__init__" s_iUnknownName P_iUnknownName f fd) (T : OexY K C B newId initId bmB bm) (hno : PySem.W.findIn K (.ref C) "name" = some none) {f1 : Addr} {d1 : FuncData} (D_kept : Cl P w K mg base "kept" 2 f1 d1 P_ekept spKept1) : FnOk P w K mg base CX0 3 f fd P_iUnknownName (spInit C "name") := by
  refine D.F.ok sc_iUnknownName (fun vs H Q E h => ?_) (fun cdv A outer s H vs Q E hr h => ?_)
  · obtain ⟨a, d, v, rfl, _⟩ := h
    rfl
  · obtain ⟨a, d, v, rfl, ha, hv, q⟩ := h
    have nd := sc_iUnknownName.nd
    refine ⟨_, (pss_one (ps_ostY T hno (pv 0) (pe_call D_kept.ok (hr.mono (by decide)) (by rfl) D_kept.g D_kept.kp D_kept.b .nil pass0 (pa_cons (pv 1) pa_nil)))), ?_⟩
    refine ⟨_, rfl, d, v, rfl, hv, fun H1 v' s1 hv' => ⟨_, rfl, a, rfl, s1 _ _ ha, fun dx n ne => ?_⟩⟩
    obtain ⟨k1, k2, k3⟩ := init_heap (C := C) (fs := [("name", v')]) ha s1 n ne
    exact q _ v' dx (fun b o h e => k1 b o h (s1 _ _ e)) k2 k3 (hv'.but (s1 _ _ ha) k1)

abbrev s_iInvalidNumber : Stmt := inClass (topS 14) 0
abbrev N_iInvalidNumber : List Str := ["self", "value"]
abbrev P_iInvalidNumber : List Str := ["self", "value"]
theorem sc_iInvalidNumber : FnScope N_iInvalidNumber P_iInvalidNumber (defScope s_iInvalidNumber) := ⟨rfl, rfl, rfl, by decide +kernel, rfl, by decide +kernel, by decide +kernel⟩

theorem okm_iInvalidNumber (D : Dm K "__init__" "InvalidNumber.__init__" s_iInvalidNumber P_iInvalidNumber f fd) (T : OexY K C B newId initId bmB bm) (hno : PySem.W.findIn K (.ref C) "value" = some none) {f1 : Addr} {d1 : FuncData} (D_kept : Cl P w K mg base "kept" 2 f1 d1 P_ekept spKept1) : FnOk P w K mg base CX0 3 f fd P_iInvalidNumber (spInit C "value") := by
  refine D.F.ok sc_iInvalidNumber (fun vs H Q E h => ?_) (fun cdv A outer s H vs Q E hr h => ?_)
  · obtain ⟨a, d, v, rfl, _⟩ := h
    rfl
  · obtain ⟨a, d, v, rfl, ha, hv, q⟩ := h
    have nd := sc_iInvalidNumber.nd
    refine ⟨_, (pss_one (ps_ostY T hno (pv 0) (pe_call D_kept.ok (hr.mono (by decide)) (by rfl) D_kept.g D_kept.kp D_kept.b .nil pass0 (pa_cons (pv 1) pa_nil)))), ?_⟩
    refine ⟨_, rfl, d, v, rfl, hv, fun H1 v' s1 hv' => ⟨_, rfl, a, rfl, s1 _ _ ha, fun dx n ne => ?_⟩⟩
    obtain ⟨k1, k2, k3⟩ := init_heap (C := C) (fs := [("value", v')]) ha s1 n ne
    exact q _ v' dx (fun b o h e => k1 b o h (s1 _ _ e)) k2 k3 (hv'.but (s1 _ _ ha) k1)

abbrev s_iTooMany : Stmt := inClass (topS 15) 0
abbrev N_iTooMany : List Str := ["self", "limit"]
abbrev P_iTooMany : List Str := ["self", "limit"]
theorem sc_iTooMany : FnScope N_iTooMany P_iTooMany (defScope s_iTooMany) := ⟨rfl, rfl, rfl, by decide +kernel, rfl, by decide +kernel, by decide +kernel⟩

theorem okm_iTooMany (D : Dm K "__init__" "TooMany.__init__" s_iTooMany P_iTooMany f fd) (T : OexY K C B newId initId bmB bm) (hno : PySem.W.findIn K (.ref C) "limit" = some none) {f1 : Addr} {d1 : FuncData} (D_kept : Cl P w K mg base "kept" 2 f1 d1 P_ekept spKept1) : FnOk P w K mg base CX0 3 f fd P_iTooMany (spInit C "limit") := by
  refine D.F.ok sc_iTooMany (fun vs H Q E h => ?_) (fun cdv A outer s H vs Q E hr h => ?_)
  · obtain ⟨a, d, v, rfl, _⟩ := h
    rfl
  · obtain ⟨a, d, v, rfl, ha, hv, q⟩ := h
    have nd := sc_iTooMany.nd
    refine ⟨_, (pss_one (ps_ostY T hno (pv 0) (pe_call D_kept.ok (hr.mono (by decide)) (by rfl) D_kept.g D_kept.kp D_kept.b .nil pass0 (pa_cons (pv 1) pa_nil)))), ?_⟩
    refine ⟨_, rfl, d, v, rfl, hv, fun H1 v' s1 hv' => ⟨_, rfl, a, rfl, s1 _ _ ha, fun dx n ne => ?_⟩⟩
    obtain ⟨k1, k2, k3⟩ := init_heap (C := C) (fs := [("limit", v')]) ha s1 n ne
    exact q _ v' dx (fun b o h e => k1 b o h (s1 _ _ e)) k2 k3 (hv'.but (s1 _ _ ha) k1)

abbrev s_iNothingToUndo : Stmt := inClass (topS 16) 0
abbrev N_iNothingToUndo : List Str := ["self", "many"]
abbrev P_iNothingToUndo : List Str := ["self", "many"]
theorem sc_iNothingToUndo : FnScope N_iNothingToUndo P_iNothingToUndo (defScope s_iNothingToUndo) := ⟨rfl, rfl, rfl, by decide +kernel, rfl, by decide +kernel, by decide +kernel⟩

theorem okm_iNothingToUndo (D : Dm K "__init__" "NothingToUndo.__init__" s_iNothingToUndo P_iNothingToUndo f fd) (T : OexY K C B newId initId bmB bm) (hno : PySem.W.findIn K (.ref C) "many" = some none) {f1 : Addr} {d1 : FuncData} (D_kept : Cl P w K mg base "kept" 2 f1 d1 P_ekept spKept1) : FnOk P w K mg base CX0 3 f fd P_iNothingToUndo (spInit C "many") := by
  refine D.F.ok sc_iNothingToUndo (fun vs H Q E h => ?_) (fun cdv A outer s H vs Q E hr h => ?_)
  · obtain ⟨a, d, v, rfl, _⟩ := h
    rfl
  · obtain ⟨a, d, v, rfl, ha, hv, q⟩ := h
    have nd := sc_iNothingToUndo.nd
    refine ⟨_, (pss_one (ps_ostY T hno (pv 0) (pe_call D_kept.ok (hr.mono (by decide)) (by rfl) D_kept.g D_kept.kp D_kept.b .nil pass0 (pa_cons (pv 1) pa_nil)))), ?_⟩
    refine ⟨_, rfl, d, v, rfl, hv, fun H1 v' s1 hv' => ⟨_, rfl, a, rfl, s1 _ _ ha, fun dx n ne => ?_⟩⟩
    obtain ⟨k1, k2, k3⟩ := init_heap (C := C) (fs := [("many", v')]) ha s1 n ne
    exact q _ v' dx (fun b o h e => k1 b o h (s1 _ _ e)) k2 k3 (hv'.but (s1 _ _ ha) k1)

abbrev s_iBroken : Stmt := inClass (topS 17) 0
abbrev N_iBroken : List Str := ["self", "name", "reason"]
abbrev P_iBroken : List Str := ["self", "name", "reason"]
theorem sc_iBroken : FnScope N_iBroken P_iBroken (defScope s_iBroken) := ⟨rfl, rfl, rfl, by decide +kernel, rfl, by decide +kernel, by decide +kernel⟩

theorem Wv.butd {H H' : Hp} {a : Addr} {fs : List (Str × V)} {d : PyData} {v : V} (ha : H a = some (exd a fs)) (s : But a H H') (h : Wv H d v) : Wv H' d v := by
  rcases h with h | ⟨b, ds, xs, e1, e2, h, r⟩ | ⟨b, ds, xs, e1, e2, h, r⟩ | ⟨b, e1, e2, h⟩ | ⟨b, x, i, e1, e2, h, r⟩
  · exact .inl h
  · exact .inr (.inl ⟨b, ds, xs, e1, e2, s _ _ (at_ne ha h exd_tup) h, r⟩)
  · exact .inr (.inr (.inl ⟨b, ds, xs, e1, e2, s _ _ (at_ne ha h (fun z => by unfold exd at z; cases z)) h, r⟩))
  · exact .inr (.inr (.inr (.inl ⟨b, e1, e2, s _ _ (at_ne ha h (fun z => by unfold exd at z; cases z)) h⟩)))
  · exact .inr (.inr (.inr (.inr ⟨b, x, i, e1, e2, s _ _ (at_ne ha h (fun z => by unfold exd at z; cases z)) h, r⟩)))

/-- the error with its two fields -/
def spBroken (C : Addr) : Sp := fun vs H Q _ => ∃ (a : Addr) (d e : PyData) (v u : V), vs = [.ref a, v, u] ∧ H a = some (exo a C none) ∧ Wv H d v ∧ Wv H e u ∧
  ∀ H' v' u' dx, But a H H' → H' a = some (exo a C (some dx)) → H' dx = some (exd dx [("reason", u'), ("name", v')]) → Wv H' d v' → Wv H' e u' → Q .non H'
theorem okm_iBroken (D : Dm K "__init__" "Broken.__init__" s_iBroken P_iBroken f fd) (T : OexY K C B newId initId bmB bm) (hno : PySem.W.findIn K (.ref C) "name" = some none) (hno2 : PySem.W.findIn K (.ref C) "reason" = some none) {f1 : Addr} {d1 : FuncData} (D_kept : Cl P w K mg base "kept" 2 f1 d1 P_ekept spKept1) : FnOk P w K mg base CX0 3 f fd P_iBroken (spBroken C) := by
  refine D.F.ok sc_iBroken (fun vs H Q E h => ?_) (fun cdv A outer s H vs Q E hr h => ?_)
  · obtain ⟨a, d, e, v, u, rfl, _⟩ := h
    rfl
  · obtain ⟨a, d, e, v, u, rfl, ha, hv, hw, q⟩ := h
    have nd := sc_iBroken.nd
    refine ⟨_, (pss_cons (ps_ostY T hno (pv 0) (pe_call D_kept.ok (hr.mono (by decide)) (by rfl) D_kept.g D_kept.kp D_kept.b .nil pass0 (pa_cons (pv 1) pa_nil))) (pss_one (ps_ostM T hno2 (pv 0) (pe_call D_kept.ok (hr.mono (by decide)) (by rfl) D_kept.g D_kept.kp D_kept.b .nil pass0 (pa_cons (pv 2) pa_nil))))), ?_⟩
    refine ⟨_, rfl, d, v, rfl, hv, fun H1 v' s1 hv' => ⟨_, rfl, a, rfl, s1 _ _ ha, fun dx n ne => ?_⟩⟩
    obtain ⟨k1, k2, k3⟩ := init_heap (C := C) (fs := [("name", v')]) ha s1 n ne
    have hv2 := hv'.but (s1 _ _ ha) k1
    have hw2 := (hw.same s1).but (s1 _ _ ha) k1
    generalize upd (upd H1 dx (exd dx [("name", v')])) a (exo a C (some dx)) = H2 at k1 k2 k3 hv2 hw2 ⊢
    refine ⟨_, rfl, e, u, rfl, hw2, fun H3 u' s3 hu' => ⟨_, rfl, a, dx, [("name", v')], rfl, s3 _ _ k2, s3 _ _ k3, by show 1 ≤ 900; decide, ?_⟩⟩
    have kd : But dx H3 (upd H3 dx (exd dx [("reason", u'), ("name", v')])) := fun b o h e => by rw [upd_ne h]; exact e
    refine q _ v' u' dx (fun b o h e => ?_) (by rw [upd_ne ne.symm]; exact s3 _ _ k2) upd_same ((hv2.same s3).butd (s3 _ _ k3) kd) (hu'.butd (s3 _ _ k3) kd)
    rw [upd_ne (ne_of_none (s1 _ _ e) n)]
    exact s3 _ _ (k1 b o h (s1 _ _ e))

end
end K00
set_option Elab.async false
set_option linter.all false
set_option maxRecDepth 100000
set_option maxHeartbeats 8000000
namespace K00
open PySem PySem.Spec PyProof.Rows L2 Ly

abbrev s_kinds : Stmt := topS 22
abbrev N_kinds : List Str := ["_law_error", "_law_rows", "_law_at", "_law_told"]
abbrev P_kinds : List Str := ["_law_error"]
theorem sc_kinds : FnScope N_kinds P_kinds (defScope s_kinds) := ⟨rfl, rfl, rfl, by decide +kernel, rfl, by decide +kernel, by decide +kernel⟩

section
variable {P : Program} {w : World} {K : PySem.W.Frag} {mg : Str → Option Value} {base : Heap} {f : Addr} {fd : FuncData} {c : Nat → Addr}
/-- what is asked of an error -/
def tgts (c : Nat → Addr) : List Value := [.ref (c 0), .ref (c 1), .ref (c 2), .ref (c 3), .ref (c 4), .ref (c 5), .ref (c 6), .ref (c 7), .ref (c 8), .ref (c 9), .ref (c 10), .ref (c 11), .ref (c 12), .ref (c 13), .ref (c 14), .ref (c 15), .type "ValueError", .type "KeyError", .type "RuntimeError", .type "OverflowError", .type "IndexError", .type "ArithmeticError", .type "LookupError"]
def bits (b : Nat → Bool) (n : Nat) : List V := ((List.range n).map b).map V.bl
/-- the list of the numbers below n where b is true -/
def ups (b : Nat → Bool) (n : Nat) : List V := ((List.range n).filter b).map fun (i : Nat) => V.int (i : Int)
theorem ups_t {b : Nat → Bool} {i : Nat} (h : b i = true) : ups b (i + 1) = ups b i ++ [.int (i : Nat)] := by
  unfold ups
  rw [List.range_succ, List.filter_append, List.map_append]
  have e : [i].filter b = [i] := by rw [List.filter_cons, h]; rfl
  rw [e]
  rfl
theorem ups_f {b : Nat → Bool} {i : Nat} (h : b i = false) : ups b (i + 1) = ups b i := by
  unfold ups
  rw [List.range_succ, List.filter_append, List.map_append]
  have e : [i].filter b = [] := by rw [List.filter_cons, h]; rfl
  rw [e]
  exact List.append_nil _
theorem ups_len (b : Nat → Bool) (i : Nat) : (ups b i).length ≤ i := by
  unfold ups
  rw [List.length_map]
  exact Nat.le_trans (List.length_filter_le _ _) (Nat.le_of_eq List.length_range)
def spKinds (K : PySem.W.Frag) (c : Nat → Addr) : Sp := fun vs H Q _ => ∃ (a C : Addr) (b : Nat → Bool), vs = [.ref a] ∧ ExcC K C ∧ IsEx H a C ∧ (∀ (i : Nat) (u : Value), (tgts c)[i]? = some u → PySem.W.kitOne K (.ref C) u = some (b i)) ∧
  ∀ H' r, Same H H' → H r = none → H' r = some (.lst (ups b 23)) → Q (.ref r) H'
theorem ok_kinds (Z : Zs mg) (Y : Ys mg c) (D : Df K mg "_law_kinds_of" s_kinds P_kinds f fd) : FnOk P w K mg base CX0 1 f fd P_kinds (spKinds K c) := by
  refine D.F.ok sc_kinds (fun vs H Q E h => ?_) (fun cdv A outer s H vs Q E hr h => ?_)
  · obtain ⟨a, C, b, rfl, _⟩ := h
    rfl
  · obtain ⟨a, C, b, rfl, T, hx, hk, q⟩ := h
    have nd := sc_kinds.nd
    refine ⟨_,
    (pss_cons
    (ps_set (i := 1) nd rfl (Or.inl rfl) (pe_lst (pa_cons (pe_callB call_isx (by rfl) Z.z_isinstance (by decide +kernel) (pa_cons (pv 0) (pa_cons (pe_glob (v := .ref (c 0)) rfl (Y.g_LetterError) rfl) pa_nil))) (pa_cons (pe_callB call_isx (by rfl) Z.z_isinstance (by decide +kernel) (pa_cons (pv 0) (pa_cons (pe_glob (v := .ref (c 1)) rfl (Y.g_InvalidCutter) rfl) pa_nil))) (pa_cons (pe_callB call_isx (by rfl) Z.z_isinstance (by decide +kernel) (pa_cons (pv 0) (pa_cons (pe_glob (v := .ref (c 2)) rfl (Y.g_InvalidCompany) rfl) pa_nil))) pa_nil)))))
    (pss_cons
    (ps_set (i := 1) nd rfl (Or.inl rfl) (pe_op op_cat (pv 1) (pe_lst (pa_cons (pe_callB call_isx (by rfl) Z.z_isinstance (by decide +kernel) (pa_cons (pv 0) (pa_cons (pe_glob (v := .ref (c 3)) rfl (Y.g_InvalidBundle) rfl) pa_nil))) (pa_cons (pe_callB call_isx (by rfl) Z.z_isinstance (by decide +kernel) (pa_cons (pv 0) (pa_cons (pe_glob (v := .ref (c 4)) rfl (Y.g_InvalidRule) rfl) pa_nil))) (pa_cons (pe_callB call_isx (by rfl) Z.z_isinstance (by decide +kernel) (pa_cons (pv 0) (pa_cons (pe_glob (v := .ref (c 5)) rfl (Y.g_InvalidLot) rfl) pa_nil))) pa_nil))))))
    (pss_cons
    (ps_set (i := 1) nd rfl (Or.inl rfl) (pe_op op_cat (pv 1) (pe_lst (pa_cons (pe_callB call_isx (by rfl) Z.z_isinstance (by decide +kernel) (pa_cons (pv 0) (pa_cons (pe_glob (v := .ref (c 6)) rfl (Y.g_InvalidState) rfl) pa_nil))) (pa_cons (pe_callB call_isx (by rfl) Z.z_isinstance (by decide +kernel) (pa_cons (pv 0) (pa_cons (pe_glob (v := .ref (c 7)) rfl (Y.g_InvalidLetter) rfl) pa_nil))) (pa_cons (pe_callB call_isx (by rfl) Z.z_isinstance (by decide +kernel) (pa_cons (pv 0) (pa_cons (pe_glob (v := .ref (c 8)) rfl (Y.g_InvalidPledge) rfl) pa_nil))) pa_nil))))))
    (pss_cons
    (ps_set (i := 1) nd rfl (Or.inl rfl) (pe_op op_cat (pv 1) (pe_lst (pa_cons (pe_callB call_isx (by rfl) Z.z_isinstance (by decide +kernel) (pa_cons (pv 0) (pa_cons (pe_glob (v := .ref (c 9)) rfl (Y.g_InvalidOperation) rfl) pa_nil))) (pa_cons (pe_callB call_isx (by rfl) Z.z_isinstance (by decide +kernel) (pa_cons (pv 0) (pa_cons (pe_glob (v := .ref (c 10)) rfl (Y.g_ParseError) rfl) pa_nil))) (pa_cons (pe_callB call_isx (by rfl) Z.z_isinstance (by decide +kernel) (pa_cons (pv 0) (pa_cons (pe_glob (v := .ref (c 11)) rfl (Y.g_UnknownName) rfl) pa_nil))) pa_nil))))))
    (pss_cons
    (ps_set (i := 1) nd rfl (Or.inl rfl) (pe_op op_cat (pv 1) (pe_lst (pa_cons (pe_callB call_isx (by rfl) Z.z_isinstance (by decide +kernel) (pa_cons (pv 0) (pa_cons (pe_glob (v := .ref (c 12)) rfl (Y.g_InvalidNumber) rfl) pa_nil))) (pa_cons (pe_callB call_isx (by rfl) Z.z_isinstance (by decide +kernel) (pa_cons (pv 0) (pa_cons (pe_glob (v := .ref (c 13)) rfl (Y.g_TooMany) rfl) pa_nil))) (pa_cons (pe_callB call_isx (by rfl) Z.z_isinstance (by decide +kernel) (pa_cons (pv 0) (pa_cons (pe_glob (v := .ref (c 14)) rfl (Y.g_NothingToUndo) rfl) pa_nil))) pa_nil))))))
    (pss_cons
    (ps_set (i := 1) nd rfl (Or.inl rfl) (pe_op op_cat (pv 1) (pe_lst (pa_cons (pe_callB call_isx (by rfl) Z.z_isinstance (by decide +kernel) (pa_cons (pv 0) (pa_cons (pe_glob (v := .ref (c 15)) rfl (Y.g_Broken) rfl) pa_nil))) (pa_cons (pe_callB call_isx (by rfl) Z.z_isinstance (by decide +kernel) (pa_cons (pv 0) (pa_cons (pe_bltn (v := .ty "ValueError") (by rfl) Z.z_ValueError (by decide +kernel) rfl) pa_nil))) (pa_cons (pe_callB call_isx (by rfl) Z.z_isinstance (by decide +kernel) (pa_cons (pv 0) (pa_cons (pe_bltn (v := .ty "KeyError") (by rfl) Z.z_KeyError (by decide +kernel) rfl) pa_nil))) pa_nil))))))
    (pss_cons
    (ps_set (i := 1) nd rfl (Or.inl rfl) (pe_op op_cat (pv 1) (pe_lst (pa_cons (pe_callB call_isx (by rfl) Z.z_isinstance (by decide +kernel) (pa_cons (pv 0) (pa_cons (pe_bltn (v := .ty "RuntimeError") (by rfl) Z.z_RuntimeError (by decide +kernel) rfl) pa_nil))) (pa_cons (pe_callB call_isx (by rfl) Z.z_isinstance (by decide +kernel) (pa_cons (pv 0) (pa_cons (pe_bltn (v := .ty "OverflowError") (by rfl) Z.z_OverflowError (by decide +kernel) rfl) pa_nil))) (pa_cons (pe_callB call_isx (by rfl) Z.z_isinstance (by decide +kernel) (pa_cons (pv 0) (pa_cons (pe_bltn (v := .ty "IndexError") (by rfl) Z.z_IndexError (by decide +kernel) rfl) pa_nil))) pa_nil))))))
    (pss_cons
    (ps_set (i := 1) nd rfl (Or.inl rfl) (pe_op op_cat (pv 1) (pe_lst (pa_cons (pe_callB call_isx (by rfl) Z.z_isinstance (by decide +kernel) (pa_cons (pv 0) (pa_cons (pe_bltn (v := .ty "ArithmeticError") (by rfl) Z.z_ArithmeticError (by decide +kernel) rfl) pa_nil))) (pa_cons (pe_callB call_isx (by rfl) Z.z_isinstance (by decide +kernel) (pa_cons (pv 0) (pa_cons (pe_bltn (v := .ty "LookupError") (by rfl) Z.z_LookupError (by decide +kernel) rfl) pa_nil))) pa_nil)))))
    (pss_one
    (ps_ret (pe_lc (own := [("_law_at", 2), ("_law_told", 3)]) rfl nd (pi_enum (by rfl) Z.z_enumerate (pa_cons (pv 1) pa_nil)) (blkOk_by (N := N_kinds) (sc := defScope s_kinds) (by decide +kernel)) (fun _ _ _ _ _ => (pgTK (K := K) (n := 2) rfl rfl (pgs_cons (pg_name (i := 2) nd rfl (Or.inl rfl)) (pgs_cons (pg_name (i := 3) nd rfl (Or.inl rfl)) pgs_nil)))) (fun _ _ _ _ _ => (pts_one (pt_val (pv 3)))) (fun _ _ _ _ _ => (pv 2))))))))))))), ?_⟩
    refine ⟨_, rfl, a, C, .ref (c 0), _, b 0, rfl, T, hx, .own _, hk 0 _ rfl, ⟨_, rfl, a, C, .ref (c 1), _, b 1, rfl, T, hx, .own _, hk 1 _ rfl, ⟨_, rfl, a, C, .ref (c 2), _, b 2, rfl, T, hx, .own _, hk 2 _ rfl, by show 3 ≤ sizeLine; decide, fun p1 n1 => ?_⟩⟩⟩
    have s1 := same_new (o := .lst [V.bl (b 0), V.bl (b 1), V.bl (b 2)]) n1
    have g1 : upd H p1 (.lst [V.bl (b 0), V.bl (b 1), V.bl (b 2)]) p1 = some (.lst [V.bl (b 0), V.bl (b 1), V.bl (b 2)]) := upd_same
    have hx1 := hx.same s1
    generalize upd H p1 (.lst [V.bl (b 0), V.bl (b 1), V.bl (b 2)]) = H1 at s1 g1 hx1 ⊢
    refine ⟨_, rfl, ⟨_, rfl, a, C, .ref (c 3), _, b 3, rfl, T, hx1, .own _, hk 3 _ rfl, ⟨_, rfl, a, C, .ref (c 4), _, b 4, rfl, T, hx1, .own _, hk 4 _ rfl, ⟨_, rfl, a, C, .ref (c 5), _, b 5, rfl, T, hx1, .own _, hk 5 _ rfl, by show 3 ≤ sizeLine; decide, fun e1 m1 => ⟨p1, e1, _, _, rfl, rfl, same_new m1 _ _ g1, upd_same, by show 6 ≤ sizeLine; decide, fun p2 n2 => ?_⟩⟩⟩⟩⟩
    rw [show ([V.bl (b 0), V.bl (b 1), V.bl (b 2)] : List V) ++ [V.bl (b 3), V.bl (b 4), V.bl (b 5)] = [V.bl (b 0), V.bl (b 1), V.bl (b 2), V.bl (b 3), V.bl (b 4), V.bl (b 5)] from rfl]
    have s2 := s1.trans ((same_new m1).trans (same_new (o := .lst [V.bl (b 0), V.bl (b 1), V.bl (b 2), V.bl (b 3), V.bl (b 4), V.bl (b 5)]) n2))
    have g2 : (upd (upd H1 e1 (.lst [V.bl (b 3), V.bl (b 4), V.bl (b 5)])) p2 (.lst [V.bl (b 0), V.bl (b 1), V.bl (b 2), V.bl (b 3), V.bl (b 4), V.bl (b 5)])) p2 = some (HO.lst [V.bl (b 0), V.bl (b 1), V.bl (b 2), V.bl (b 3), V.bl (b 4), V.bl (b 5)]) := upd_same
    have hx2 := hx.same s2
    generalize upd (upd H1 e1 (.lst [V.bl (b 3), V.bl (b 4), V.bl (b 5)])) p2 (.lst [V.bl (b 0), V.bl (b 1), V.bl (b 2), V.bl (b 3), V.bl (b 4), V.bl (b 5)]) = H2 at s2 g2 hx2 ⊢
    refine ⟨_, rfl, ⟨_, rfl, a, C, .ref (c 6), _, b 6, rfl, T, hx2, .own _, hk 6 _ rfl, ⟨_, rfl, a, C, .ref (c 7), _, b 7, rfl, T, hx2, .own _, hk 7 _ rfl, ⟨_, rfl, a, C, .ref (c 8), _, b 8, rfl, T, hx2, .own _, hk 8 _ rfl, by show 3 ≤ sizeLine; decide, fun e2 m2 => ⟨p2, e2, _, _, rfl, rfl, same_new m2 _ _ g2, upd_same, by show 9 ≤ sizeLine; decide, fun p3 n3 => ?_⟩⟩⟩⟩⟩
    rw [show ([V.bl (b 0), V.bl (b 1), V.bl (b 2), V.bl (b 3), V.bl (b 4), V.bl (b 5)] : List V) ++ [V.bl (b 6), V.bl (b 7), V.bl (b 8)] = [V.bl (b 0), V.bl (b 1), V.bl (b 2), V.bl (b 3), V.bl (b 4), V.bl (b 5), V.bl (b 6), V.bl (b 7), V.bl (b 8)] from rfl]
    have s3 := s2.trans ((same_new m2).trans (same_new (o := .lst [V.bl (b 0), V.bl (b 1), V.bl (b 2), V.bl (b 3), V.bl (b 4), V.bl (b 5), V.bl (b 6), V.bl (b 7), V.bl (b 8)]) n3))
    have g3 : (upd (upd H2 e2 (.lst [V.bl (b 6), V.bl (b 7), V.bl (b 8)])) p3 (.lst [V.bl (b 0), V.bl (b 1), V.bl (b 2), V.bl (b 3), V.bl (b 4), V.bl (b 5), V.bl (b 6), V.bl (b 7), V.bl (b 8)])) p3 = some (HO.lst [V.bl (b 0), V.bl (b 1), V.bl (b 2), V.bl (b 3), V.bl (b 4), V.bl (b 5), V.bl (b 6), V.bl (b 7), V.bl (b 8)]) := upd_same
    have hx3 := hx.same s3
    generalize upd (upd H2 e2 (.lst [V.bl (b 6), V.bl (b 7), V.bl (b 8)])) p3 (.lst [V.bl (b 0), V.bl (b 1), V.bl (b 2), V.bl (b 3), V.bl (b 4), V.bl (b 5), V.bl (b 6), V.bl (b 7), V.bl (b 8)]) = H3 at s3 g3 hx3 ⊢
    refine ⟨_, rfl, ⟨_, rfl, a, C, .ref (c 9), _, b 9, rfl, T, hx3, .own _, hk 9 _ rfl, ⟨_, rfl, a, C, .ref (c 10), _, b 10, rfl, T, hx3, .own _, hk 10 _ rfl, ⟨_, rfl, a, C, .ref (c 11), _, b 11, rfl, T, hx3, .own _, hk 11 _ rfl, by show 3 ≤ sizeLine; decide, fun e3 m3 => ⟨p3, e3, _, _, rfl, rfl, same_new m3 _ _ g3, upd_same, by show 12 ≤ sizeLine; decide, fun p4 n4 => ?_⟩⟩⟩⟩⟩
    rw [show ([V.bl (b 0), V.bl (b 1), V.bl (b 2), V.bl (b 3), V.bl (b 4), V.bl (b 5), V.bl (b 6), V.bl (b 7), V.bl (b 8)] : List V) ++ [V.bl (b 9), V.bl (b 10), V.bl (b 11)] = [V.bl (b 0), V.bl (b 1), V.bl (b 2), V.bl (b 3), V.bl (b 4), V.bl (b 5), V.bl (b 6), V.bl (b 7), V.bl (b 8), V.bl (b 9), V.bl (b 10), V.bl (b 11)] from rfl]
    have s4 := s3.trans ((same_new m3).trans (same_new (o := .lst [V.bl (b 0), V.bl (b 1), V.bl (b 2), V.bl (b 3), V.bl (b 4), V.bl (b 5), V.bl (b 6), V.bl (b 7), V.bl (b 8), V.bl (b 9), V.bl (b 10), V.bl (b 11)]) n4))
    have g4 : (upd (upd H3 e3 (.lst [V.bl (b 9), V.bl (b 10), V.bl (b 11)])) p4 (.lst [V.bl (b 0), V.bl (b 1), V.bl (b 2), V.bl (b 3), V.bl (b 4), V.bl (b 5), V.bl (b 6), V.bl (b 7), V.bl (b 8), V.bl (b 9), V.bl (b 10), V.bl (b 11)])) p4 = some (HO.lst [V.bl (b 0), V.bl (b 1), V.bl (b 2), V.bl (b 3), V.bl (b 4), V.bl (b 5), V.bl (b 6), V.bl (b 7), V.bl (b 8), V.bl (b 9), V.bl (b 10), V.bl (b 11)]) := upd_same
    have hx4 := hx.same s4
    generalize upd (upd H3 e3 (.lst [V.bl (b 9), V.bl (b 10), V.bl (b 11)])) p4 (.lst [V.bl (b 0), V.bl (b 1), V.bl (b 2), V.bl (b 3), V.bl (b 4), V.bl (b 5), V.bl (b 6), V.bl (b 7), V.bl (b 8), V.bl (b 9), V.bl (b 10), V.bl (b 11)]) = H4 at s4 g4 hx4 ⊢
    refine ⟨_, rfl, ⟨_, rfl, a, C, .ref (c 12), _, b 12, rfl, T, hx4, .own _, hk 12 _ rfl, ⟨_, rfl, a, C, .ref (c 13), _, b 13, rfl, T, hx4, .own _, hk 13 _ rfl, ⟨_, rfl, a, C, .ref (c 14), _, b 14, rfl, T, hx4, .own _, hk 14 _ rfl, by show 3 ≤ sizeLine; decide, fun e4 m4 => ⟨p4, e4, _, _, rfl, rfl, same_new m4 _ _ g4, upd_same, by show 15 ≤ sizeLine; decide, fun p5 n5 => ?_⟩⟩⟩⟩⟩
    rw [show ([V.bl (b 0), V.bl (b 1), V.bl (b 2), V.bl (b 3), V.bl (b 4), V.bl (b 5), V.bl (b 6), V.bl (b 7), V.bl (b 8), V.bl (b 9), V.bl (b 10), V.bl (b 11)] : List V) ++ [V.bl (b 12), V.bl (b 13), V.bl (b 14)] = [V.bl (b 0), V.bl (b 1), V.bl (b 2), V.bl (b 3), V.bl (b 4), V.bl (b 5), V.bl (b 6), V.bl (b 7), V.bl (b 8), V.bl (b 9), V.bl (b 10), V.bl (b 11), V.bl (b 12), V.bl (b 13), V.bl (b 14)] from rfl]
    have s5 := s4.trans ((same_new m4).trans (same_new (o := .lst [V.bl (b 0), V.bl (b 1), V.bl (b 2), V.bl (b 3), V.bl (b 4), V.bl (b 5), V.bl (b 6), V.bl (b 7), V.bl (b 8), V.bl (b 9), V.bl (b 10), V.bl (b 11), V.bl (b 12), V.bl (b 13), V.bl (b 14)]) n5))
    have g5 : (upd (upd H4 e4 (.lst [V.bl (b 12), V.bl (b 13), V.bl (b 14)])) p5 (.lst [V.bl (b 0), V.bl (b 1), V.bl (b 2), V.bl (b 3), V.bl (b 4), V.bl (b 5), V.bl (b 6), V.bl (b 7), V.bl (b 8), V.bl (b 9), V.bl (b 10), V.bl (b 11), V.bl (b 12), V.bl (b 13), V.bl (b 14)])) p5 = some (HO.lst [V.bl (b 0), V.bl (b 1), V.bl (b 2), V.bl (b 3), V.bl (b 4), V.bl (b 5), V.bl (b 6), V.bl (b 7), V.bl (b 8), V.bl (b 9), V.bl (b 10), V.bl (b 11), V.bl (b 12), V.bl (b 13), V.bl (b 14)]) := upd_same
    have hx5 := hx.same s5
    generalize upd (upd H4 e4 (.lst [V.bl (b 12), V.bl (b 13), V.bl (b 14)])) p5 (.lst [V.bl (b 0), V.bl (b 1), V.bl (b 2), V.bl (b 3), V.bl (b 4), V.bl (b 5), V.bl (b 6), V.bl (b 7), V.bl (b 8), V.bl (b 9), V.bl (b 10), V.bl (b 11), V.bl (b 12), V.bl (b 13), V.bl (b 14)]) = H5 at s5 g5 hx5 ⊢
    refine ⟨_, rfl, ⟨_, rfl, a, C, .ref (c 15), _, b 15, rfl, T, hx5, .own _, hk 15 _ rfl, ⟨_, rfl, a, C, .ty "ValueError", _, b 16, rfl, T, hx5, .ty _, hk 16 _ rfl, ⟨_, rfl, a, C, .ty "KeyError", _, b 17, rfl, T, hx5, .ty _, hk 17 _ rfl, by show 3 ≤ sizeLine; decide, fun e5 m5 => ⟨p5, e5, _, _, rfl, rfl, same_new m5 _ _ g5, upd_same, by show 18 ≤ sizeLine; decide, fun p6 n6 => ?_⟩⟩⟩⟩⟩
    rw [show ([V.bl (b 0), V.bl (b 1), V.bl (b 2), V.bl (b 3), V.bl (b 4), V.bl (b 5), V.bl (b 6), V.bl (b 7), V.bl (b 8), V.bl (b 9), V.bl (b 10), V.bl (b 11), V.bl (b 12), V.bl (b 13), V.bl (b 14)] : List V) ++ [V.bl (b 15), V.bl (b 16), V.bl (b 17)] = [V.bl (b 0), V.bl (b 1), V.bl (b 2), V.bl (b 3), V.bl (b 4), V.bl (b 5), V.bl (b 6), V.bl (b 7), V.bl (b 8), V.bl (b 9), V.bl (b 10), V.bl (b 11), V.bl (b 12), V.bl (b 13), V.bl (b 14), V.bl (b 15), V.bl (b 16), V.bl (b 17)] from rfl]
    have s6 := s5.trans ((same_new m5).trans (same_new (o := .lst [V.bl (b 0), V.bl (b 1), V.bl (b 2), V.bl (b 3), V.bl (b 4), V.bl (b 5), V.bl (b 6), V.bl (b 7), V.bl (b 8), V.bl (b 9), V.bl (b 10), V.bl (b 11), V.bl (b 12), V.bl (b 13), V.bl (b 14), V.bl (b 15), V.bl (b 16), V.bl (b 17)]) n6))
    have g6 : (upd (upd H5 e5 (.lst [V.bl (b 15), V.bl (b 16), V.bl (b 17)])) p6 (.lst [V.bl (b 0), V.bl (b 1), V.bl (b 2), V.bl (b 3), V.bl (b 4), V.bl (b 5), V.bl (b 6), V.bl (b 7), V.bl (b 8), V.bl (b 9), V.bl (b 10), V.bl (b 11), V.bl (b 12), V.bl (b 13), V.bl (b 14), V.bl (b 15), V.bl (b 16), V.bl (b 17)])) p6 = some (HO.lst [V.bl (b 0), V.bl (b 1), V.bl (b 2), V.bl (b 3), V.bl (b 4), V.bl (b 5), V.bl (b 6), V.bl (b 7), V.bl (b 8), V.bl (b 9), V.bl (b 10), V.bl (b 11), V.bl (b 12), V.bl (b 13), V.bl (b 14), V.bl (b 15), V.bl (b 16), V.bl (b 17)]) := upd_same
    have hx6 := hx.same s6
    generalize upd (upd H5 e5 (.lst [V.bl (b 15), V.bl (b 16), V.bl (b 17)])) p6 (.lst [V.bl (b 0), V.bl (b 1), V.bl (b 2), V.bl (b 3), V.bl (b 4), V.bl (b 5), V.bl (b 6), V.bl (b 7), V.bl (b 8), V.bl (b 9), V.bl (b 10), V.bl (b 11), V.bl (b 12), V.bl (b 13), V.bl (b 14), V.bl (b 15), V.bl (b 16), V.bl (b 17)]) = H6 at s6 g6 hx6 ⊢
    refine ⟨_, rfl, ⟨_, rfl, a, C, .ty "RuntimeError", _, b 18, rfl, T, hx6, .ty _, hk 18 _ rfl, ⟨_, rfl, a, C, .ty "OverflowError", _, b 19, rfl, T, hx6, .ty _, hk 19 _ rfl, ⟨_, rfl, a, C, .ty "IndexError", _, b 20, rfl, T, hx6, .ty _, hk 20 _ rfl, by show 3 ≤ sizeLine; decide, fun e6 m6 => ⟨p6, e6, _, _, rfl, rfl, same_new m6 _ _ g6, upd_same, by show 21 ≤ sizeLine; decide, fun p7 n7 => ?_⟩⟩⟩⟩⟩
    rw [show ([V.bl (b 0), V.bl (b 1), V.bl (b 2), V.bl (b 3), V.bl (b 4), V.bl (b 5), V.bl (b 6), V.bl (b 7), V.bl (b 8), V.bl (b 9), V.bl (b 10), V.bl (b 11), V.bl (b 12), V.bl (b 13), V.bl (b 14), V.bl (b 15), V.bl (b 16), V.bl (b 17)] : List V) ++ [V.bl (b 18), V.bl (b 19), V.bl (b 20)] = [V.bl (b 0), V.bl (b 1), V.bl (b 2), V.bl (b 3), V.bl (b 4), V.bl (b 5), V.bl (b 6), V.bl (b 7), V.bl (b 8), V.bl (b 9), V.bl (b 10), V.bl (b 11), V.bl (b 12), V.bl (b 13), V.bl (b 14), V.bl (b 15), V.bl (b 16), V.bl (b 17), V.bl (b 18), V.bl (b 19), V.bl (b 20)] from rfl]
    have s7 := s6.trans ((same_new m6).trans (same_new (o := .lst [V.bl (b 0), V.bl (b 1), V.bl (b 2), V.bl (b 3), V.bl (b 4), V.bl (b 5), V.bl (b 6), V.bl (b 7), V.bl (b 8), V.bl (b 9), V.bl (b 10), V.bl (b 11), V.bl (b 12), V.bl (b 13), V.bl (b 14), V.bl (b 15), V.bl (b 16), V.bl (b 17), V.bl (b 18), V.bl (b 19), V.bl (b 20)]) n7))
    have g7 : (upd (upd H6 e6 (.lst [V.bl (b 18), V.bl (b 19), V.bl (b 20)])) p7 (.lst [V.bl (b 0), V.bl (b 1), V.bl (b 2), V.bl (b 3), V.bl (b 4), V.bl (b 5), V.bl (b 6), V.bl (b 7), V.bl (b 8), V.bl (b 9), V.bl (b 10), V.bl (b 11), V.bl (b 12), V.bl (b 13), V.bl (b 14), V.bl (b 15), V.bl (b 16), V.bl (b 17), V.bl (b 18), V.bl (b 19), V.bl (b 20)])) p7 = some (HO.lst [V.bl (b 0), V.bl (b 1), V.bl (b 2), V.bl (b 3), V.bl (b 4), V.bl (b 5), V.bl (b 6), V.bl (b 7), V.bl (b 8), V.bl (b 9), V.bl (b 10), V.bl (b 11), V.bl (b 12), V.bl (b 13), V.bl (b 14), V.bl (b 15), V.bl (b 16), V.bl (b 17), V.bl (b 18), V.bl (b 19), V.bl (b 20)]) := upd_same
    have hx7 := hx.same s7
    generalize upd (upd H6 e6 (.lst [V.bl (b 18), V.bl (b 19), V.bl (b 20)])) p7 (.lst [V.bl (b 0), V.bl (b 1), V.bl (b 2), V.bl (b 3), V.bl (b 4), V.bl (b 5), V.bl (b 6), V.bl (b 7), V.bl (b 8), V.bl (b 9), V.bl (b 10), V.bl (b 11), V.bl (b 12), V.bl (b 13), V.bl (b 14), V.bl (b 15), V.bl (b 16), V.bl (b 17), V.bl (b 18), V.bl (b 19), V.bl (b 20)]) = H7 at s7 g7 hx7 ⊢
    refine ⟨_, rfl, ⟨_, rfl, a, C, .ty "ArithmeticError", _, b 21, rfl, T, hx7, .ty _, hk 21 _ rfl, ⟨_, rfl, a, C, .ty "LookupError", _, b 22, rfl, T, hx7, .ty _, hk 22 _ rfl, by show 2 ≤ sizeLine; decide, fun e7 m7 => ⟨p7, e7, _, _, rfl, rfl, same_new m7 _ _ g7, upd_same, by show 23 ≤ sizeLine; decide, fun p8 n8 => ?_⟩⟩⟩⟩
    rw [show ([V.bl (b 0), V.bl (b 1), V.bl (b 2), V.bl (b 3), V.bl (b 4), V.bl (b 5), V.bl (b 6), V.bl (b 7), V.bl (b 8), V.bl (b 9), V.bl (b 10), V.bl (b 11), V.bl (b 12), V.bl (b 13), V.bl (b 14), V.bl (b 15), V.bl (b 16), V.bl (b 17), V.bl (b 18), V.bl (b 19), V.bl (b 20)] : List V) ++ [V.bl (b 21), V.bl (b 22)] = [V.bl (b 0), V.bl (b 1), V.bl (b 2), V.bl (b 3), V.bl (b 4), V.bl (b 5), V.bl (b 6), V.bl (b 7), V.bl (b 8), V.bl (b 9), V.bl (b 10), V.bl (b 11), V.bl (b 12), V.bl (b 13), V.bl (b 14), V.bl (b 15), V.bl (b 16), V.bl (b 17), V.bl (b 18), V.bl (b 19), V.bl (b 20), V.bl (b 21), V.bl (b 22)] from rfl]
    have s8 := s7.trans ((same_new m7).trans (same_new (o := .lst [V.bl (b 0), V.bl (b 1), V.bl (b 2), V.bl (b 3), V.bl (b 4), V.bl (b 5), V.bl (b 6), V.bl (b 7), V.bl (b 8), V.bl (b 9), V.bl (b 10), V.bl (b 11), V.bl (b 12), V.bl (b 13), V.bl (b 14), V.bl (b 15), V.bl (b 16), V.bl (b 17), V.bl (b 18), V.bl (b 19), V.bl (b 20), V.bl (b 21), V.bl (b 22)]) n8))
    have g8 : (upd (upd H7 e7 (.lst [V.bl (b 21), V.bl (b 22)])) p8 (.lst [V.bl (b 0), V.bl (b 1), V.bl (b 2), V.bl (b 3), V.bl (b 4), V.bl (b 5), V.bl (b 6), V.bl (b 7), V.bl (b 8), V.bl (b 9), V.bl (b 10), V.bl (b 11), V.bl (b 12), V.bl (b 13), V.bl (b 14), V.bl (b 15), V.bl (b 16), V.bl (b 17), V.bl (b 18), V.bl (b 19), V.bl (b 20), V.bl (b 21), V.bl (b 22)])) p8 = some (HO.lst [V.bl (b 0), V.bl (b 1), V.bl (b 2), V.bl (b 3), V.bl (b 4), V.bl (b 5), V.bl (b 6), V.bl (b 7), V.bl (b 8), V.bl (b 9), V.bl (b 10), V.bl (b 11), V.bl (b 12), V.bl (b 13), V.bl (b 14), V.bl (b 15), V.bl (b 16), V.bl (b 17), V.bl (b 18), V.bl (b 19), V.bl (b 20), V.bl (b 21), V.bl (b 22)]) := upd_same
    have hx8 := hx.same s8
    generalize upd (upd H7 e7 (.lst [V.bl (b 21), V.bl (b 22)])) p8 (.lst [V.bl (b 0), V.bl (b 1), V.bl (b 2), V.bl (b 3), V.bl (b 4), V.bl (b 5), V.bl (b 6), V.bl (b 7), V.bl (b 8), V.bl (b 9), V.bl (b 10), V.bl (b 11), V.bl (b 12), V.bl (b 13), V.bl (b 14), V.bl (b 15), V.bl (b 16), V.bl (b 17), V.bl (b 18), V.bl (b 19), V.bl (b 20), V.bl (b 21), V.bl (b 22)]) = H8 at s8 g8 hx8 ⊢
    refine ⟨_, rfl, p8, _, rfl, .of g8, fun D9 nD => ?_⟩
    have hlen : ∀ i : Nat, i < 23 → ([.bl (b 0), .bl (b 1), .bl (b 2), .bl (b 3), .bl (b 4), .bl (b 5), .bl (b 6), .bl (b 7), .bl (b 8), .bl (b 9), .bl (b 10), .bl (b 11), .bl (b 12), .bl (b 13), .bl (b 14), .bl (b 15), .bl (b 16), .bl (b 17), .bl (b 18), .bl (b 19), .bl (b 20), .bl (b 21), .bl (b 22)] : List V)[i]? = some (.bl (b i)) := fun i hi => by
      show (bits b 23)[i]? = _
      unfold bits
      rw [List.getElem?_map, List.getElem?_map, List.getElem?_range hi]
      rfl
    refine lc_gen (n := 23) (fun i H' => Same H8 H' ∧ H' D9 = some (.lst (ups b i))) ⟨same_new nD, upd_same⟩ (fun i H' hi hP => ⟨_, _, .of (hP.1 _ _ g8), hlen i hi⟩) (fun H' hP => ⟨_, .of (hP.1 _ _ g8), by show 23 ≤ 23; decide⟩) (fun i x H' H2 hi hP hy => ?_) (fun H' hP => q _ _ (s8.trans hP.1) ((s8.free nD)) hP.2)
    obtain ⟨s9, hd⟩ := hP
    obtain ⟨T9, x9, rfl, nT, rfl, hxs⟩ := hy
    obtain rfl : x9 = .bl (b i) := Option.some.inj ((hxs _ (.of (s9 _ _ g8))).symm.trans (hlen i hi))
    have s10 := s9.trans (same_new (o := .tup [V.int (i : Nat), .bl (b i)]) nT)
    have hd' := same_new (o := .tup [V.int (i : Nat), .bl (b i)]) nT _ _ hd
    refine ⟨T9, _, rfl, .of upd_same, rfl, _, _, rfl, _, _, rfl, rfl, rfl, _, rfl, b i, rfl, ?_⟩
    by_cases hb : b i = true
    · refine ifT hb ⟨_, rfl, _, hd', small1000 (Nat.le_trans (ups_len b i) (by omega)), same_set s10 nD, ?_⟩
      rw [upd_same, ups_t hb]
    · refine ifF (eq_false_of_ne_true hb) ⟨s10, ?_⟩
      rw [ups_f (eq_false_of_ne_true hb)]
      exact hd'

end
end K00
set_option Elab.async false
set_option linter.all false
set_option maxRecDepth 100000
set_option maxHeartbeats 8000000
namespace K00
open PySem PySem.Spec PyProof.Rows L2 Ly

abbrev s_right : Stmt := topS 23
abbrev N_right : List Str := ["_law_value", "_law_other", "_law_line", "_law_name", "_law_number", "_law_many", "_law_none", "_law_broken", "_law_kept", "_law_found", "_law_error"]
abbrev P_right : List Str := ["_law_value", "_law_other"]
theorem sc_right : FnScope N_right P_right (defScope s_right) := ⟨rfl, rfl, rfl, by decide +kernel, rfl, by decide +kernel, by decide +kernel⟩

section
variable {P : Program} {w : World} {K : PySem.W.Frag} {mg : Str → Option Value} {base : Heap} {f : Addr} {fd : FuncData} {c : Nat → Addr}
/-- the kinds of the error of each class -/
def tabL : List (List Nat) := [[0, 16], [0, 1, 16], [0, 2, 16], [0, 3, 16], [0, 4, 16], [0, 5, 16], [0, 6, 16], [0, 7, 16], [0, 8, 16], [0, 9, 16], [0, 10, 16], [11, 17, 22], [12, 18], [13, 19, 21], [14, 20, 22], [15, 21]]
def tab (j i : Nat) : Bool := (tabL.getD j []).contains i
/-- what is known of a class whose errors keep something -/
structure EcK (P : Program) (w : World) (K : PySem.W.Frag) (mg : Str → Option Value) (base : Heap) (C : Addr) (sp : Sp) : Prop where
  ex : ∃ (B newId initId : String) (bmB bm : List Value) (fI : Addr) (fd : FuncData) (ps : List Str), OexY K C B newId initId bmB bm ∧ PySem.W.findIn K (.ref C) "__init__" = some (some (.ref fI)) ∧ PySem.W.typeIn K (.ref fI) = some (.type "function") ∧ FnOk P w K mg base CX0 3 fI fd ps sp ∧ Binds K fd ps []
  xf : XfC K C
  ec : ExcC K C
/-- an error with its fields -/
def Mad (H : Hp) (a C : Addr) (fs : List (Str × V)) : Prop := ∃ d, H a = some (exo a C (some d)) ∧ H d = some (exd d fs)
theorem Mad.same {H H' : Hp} {a C : Addr} {fs : List (Str × V)} (s : Same H H') (h : Mad H a C fs) : Mad H' a C fs := by
  obtain ⟨d, h1, h2⟩ := h
  exact ⟨d, s _ _ h1, s _ _ h2⟩
theorem Mad.ex {H : Hp} {a C : Addr} {fs : List (Str × V)} (h : Mad H a C fs) : IsEx H a C := by
  obtain ⟨d, h1, h2⟩ := h
  exact .inl ⟨d, fs, h1, h2⟩
theorem mk_same {H H1 : Hp} {a : Addr} {o : HO} (n : H a = none) (k : But a (upd H a o) H1) : Same H H1 := fun b u e => k b u (ne_of_none e n) (by rw [upd_ne (ne_of_none e n)]; exact e)
theorem tgt_all {K : PySem.W.Frag} {C : Addr} {j : Nat} (h : (tgts c).map (PySem.W.kitOne K (.ref C)) = (List.range 23).map fun i => some (tab j i)) (i : Nat) (u : Value) (e : (tgts c)[i]? = some u) : PySem.W.kitOne K (.ref C) u = some (tab j i) := by
  have hi : i < 23 := (List.getElem?_eq_some_iff.mp e).1
  have z := congrArg (fun l => l[i]?) h
  simp only [List.getElem?_map, e, List.getElem?_range hi, Option.map_some] at z
  exact Option.some.inj z
def spRight : Sp := fun vs H Q _ => ∃ (d e : PyData) (v u : V), vs = [v, u] ∧ Wv H d v ∧ Wv H e u ∧ ∀ H', Same H H' → Q (.bl true) H'

theorem ups_noref {b : Nat → Bool} {n j : Nat} {r : Addr} (e : (ups b n)[j]? = some (.ref r)) : False := by
  obtain ⟨k, _, z⟩ := List.mem_map.mp (List.mem_of_getElem? e)
  cases z
theorem dpNat {H : Hp} : ∀ l : List Nat, DpAll K H (l.map fun (i : Nat) => V.int (i : Int)) (l.map fun (i : Nat) => PyData.int (i : Int))
  | [] => .nil
  | i :: l => .cons (.int _) (dpNat l)
theorem dpAll_get {H : Hp} : ∀ (ds : List PyData) (ts : List V), ts.length = ds.length → (∀ (i : Nat) (d : PyData), ds[i]? = some d → ∃ v, ts[i]? = some v ∧ Dp K H v d) → DpAll K H ts ds
  | [], [], _, _ => .nil
  | [], _ :: _, h, _ => by cases h
  | _ :: _, [], h, _ => by cases h
  | d :: ds, t :: ts, h, k => by
    obtain ⟨v, e, hv⟩ := k 0 d rfl
    cases e
    exact .cons hv (dpAll_get ds ts (Nat.succ.inj h) fun i y hy => k (i + 1) y hy)

theorem ok_right (Z : Zs mg) (Y : Ys mg c) (D : Df K mg "_law_right" s_right P_right f fd) {f1 : Addr} {d1 : FuncData} (D_kinds : Cl P w K mg base "_law_kinds_of" 1 f1 d1 P_kinds (spKinds K c))
    (E10 : EcK P w K mg base (c 10) (spInit (c 10) "line")) (n10 : PySem.W.findIn K (.ref (c 10)) "line" = some none) (k10 : (tgts c).map (PySem.W.kitOne K (.ref (c 10))) = (List.range 23).map fun i => some (tab 10 i))
    (E11 : EcK P w K mg base (c 11) (spInit (c 11) "name")) (n11 : PySem.W.findIn K (.ref (c 11)) "name" = some none) (k11 : (tgts c).map (PySem.W.kitOne K (.ref (c 11))) = (List.range 23).map fun i => some (tab 11 i))
    (E12 : EcK P w K mg base (c 12) (spInit (c 12) "value")) (n12 : PySem.W.findIn K (.ref (c 12)) "value" = some none) (k12 : (tgts c).map (PySem.W.kitOne K (.ref (c 12))) = (List.range 23).map fun i => some (tab 12 i))
    (E13 : EcK P w K mg base (c 13) (spInit (c 13) "limit")) (n13 : PySem.W.findIn K (.ref (c 13)) "limit" = some none) (k13 : (tgts c).map (PySem.W.kitOne K (.ref (c 13))) = (List.range 23).map fun i => some (tab 13 i))
    (E14 : EcK P w K mg base (c 14) (spInit (c 14) "many")) (n14 : PySem.W.findIn K (.ref (c 14)) "many" = some none) (k14 : (tgts c).map (PySem.W.kitOne K (.ref (c 14))) = (List.range 23).map fun i => some (tab 14 i))
    (E15 : EcK P w K mg base (c 15) (spBroken (c 15))) (n15 : PySem.W.findIn K (.ref (c 15)) "name" = some none) (k15 : (tgts c).map (PySem.W.kitOne K (.ref (c 15))) = (List.range 23).map fun i => some (tab 15 i))
    (n15r : PySem.W.findIn K (.ref (c 15)) "reason" = some none) : FnG P w K mg base CX0 5 f spRight := by
  refine fnG_of D.F sc_right D.b (fun vs H Q E h => ?_) (fun cdv A outer s H vs Q E hr hq h => ?_)
  · obtain ⟨d, e, v, u, rfl, _⟩ := h
    rfl
  · obtain ⟨d, e, v, u, rfl, hv, he, q⟩ := h
    have nd := sc_right.nd
    have hu : (A.deeper (envOfC "_law_right" (defScope s_right) s.heap.objs.size f cdv)).units + 64 < cLine := by
      have := hr.un
      omega
    obtain ⟨_, _, _, _, _, _, _, _, T10, i10, t10, F10, b10⟩ := E10.ex
    obtain ⟨_, _, _, _, _, _, _, _, T11, i11, t11, F11, b11⟩ := E11.ex
    obtain ⟨_, _, _, _, _, _, _, _, T12, i12, t12, F12, b12⟩ := E12.ex
    obtain ⟨_, _, _, _, _, _, _, _, T13, i13, t13, F13, b13⟩ := E13.ex
    obtain ⟨_, _, _, _, _, _, _, _, T14, i14, t14, F14, b14⟩ := E14.ex
    obtain ⟨_, _, _, _, _, _, _, _, T15, i15, t15, F15, b15⟩ := E15.ex
    refine ⟨_,
    (pss_cons
    (ps_par3 (i := 2) (j := 3) (l := 4) (by rfl) nd rfl rfl rfl (by decide) (by decide) (by decide) rfl rfl rfl (pa_cons (pe_mkA T10 i10 t10 F10 (hr.mono (by decide)) b10 pass0 (by rfl) Y.g_ParseError (pa_cons (pv 0) pa_nil)) (pa_cons (pe_mkA T11 i11 t11 F11 (hr.mono (by decide)) b11 pass0 (by rfl) Y.g_UnknownName (pa_cons (pv 0) pa_nil)) (pa_cons (pe_mkA T12 i12 t12 F12 (hr.mono (by decide)) b12 pass0 (by rfl) Y.g_InvalidNumber (pa_cons (pv 0) pa_nil)) pa_nil))) (by rfl))
    (pss_cons
    (ps_par3 (i := 5) (j := 6) (l := 7) (by rfl) nd rfl rfl rfl (by decide) (by decide) (by decide) rfl rfl rfl (pa_cons (pe_mkA T13 i13 t13 F13 (hr.mono (by decide)) b13 pass0 (by rfl) Y.g_TooMany (pa_cons (pv 0) pa_nil)) (pa_cons (pe_mkA T14 i14 t14 F14 (hr.mono (by decide)) b14 pass0 (by rfl) Y.g_NothingToUndo (pa_cons (pv 0) pa_nil)) (pa_cons (pe_mkA T15 i15 t15 F15 (hr.mono (by decide)) b15 pass0 (by rfl) Y.g_Broken (pa_cons (pv 0) (pa_cons (pv 1) pa_nil))) pa_nil))) (by rfl))
    (pss_cons
    (ps_set (i := 8) nd rfl (Or.inl rfl) (pe_lst (pa_cons (pe_xo E10.xf n10 (pv 2)) (pa_cons (pe_xo E11.xf n11 (pv 3)) (pa_cons (pe_xo E12.xf n12 (pv 4)) (pa_cons (pe_xo E13.xf n13 (pv 5)) (pa_cons (pe_xo E14.xf n14 (pv 6)) (pa_cons (pe_xo E15.xf n15 (pv 7)) (pa_cons (pe_xo E15.xf n15r (pv 7)) pa_nil)))))))))
    (pss_cons
    (ps_if (pt_cmpR op_ne (pe_callB (call_reprW hq hu) (by rfl) Z.z_repr (by decide +kernel) (pa_cons (pv 8) pa_nil)) (pe_callB (call_reprW hq hu) (by rfl) Z.z_repr (by decide +kernel) (pa_cons (pe_op op_cat (pe_op op_rep (pe_lst (pa_cons (pv 0) pa_nil)) pe_int) (pe_lst (pa_cons (pv 1) pa_nil))) pa_nil)) (nomark _))
      (pss_one
      (ps_ret pe_bl))
      pss_nil)
    (pss_cons
    (ps_setLc (i := 9) (own := [("_law_error", 10)]) (g := gName 10) (tt := tYes) rfl nd rfl rfl (sw_true rfl rfl rfl (by decide +kernel)) (pi_tup (pe_tup (pa_cons (pv 2) (pa_cons (pv 3) (pa_cons (pv 4) (pa_cons (pv 5) (pa_cons (pv 6) (pa_cons (pv 7) pa_nil)))))))) (blkOk_by (N := N_right) (sc := defScope s_right) (by decide +kernel)) (fun _ _ _ _ _ => (pg_name (i := 10) nd rfl (Or.inl rfl))) (fun _ _ _ _ _ => pts_nil) (fun _ _ _ _ _ => (pe_call D_kinds.ok (hr.mono (by decide)) (by rfl) D_kinds.g D_kinds.kp D_kinds.b .nil pass0 (pa_cons (pv 10) pa_nil))))
    (pss_one
    (ps_ret (pe_cmpR (op_eqD hu) (pv 9) (pe_lst (pa_cons (pe_lst (pa_cons pe_int (pa_cons pe_int (pa_cons pe_int pa_nil)))) (pa_cons (pe_lst (pa_cons pe_int (pa_cons pe_int (pa_cons pe_int pa_nil)))) (pa_cons (pe_lst (pa_cons pe_int (pa_cons pe_int pa_nil))) (pa_cons (pe_lst (pa_cons pe_int (pa_cons pe_int (pa_cons pe_int pa_nil)))) (pa_cons (pe_lst (pa_cons pe_int (pa_cons pe_int (pa_cons pe_int pa_nil)))) (pa_cons (pe_lst (pa_cons pe_int (pa_cons pe_int pa_nil))) pa_nil))))))) (nomark _))))))))), ?_⟩
    refine ⟨_, rfl, by show 1 ≤ 1000; decide, fun a10 m10 => ⟨a10, d, v, rfl, upd_same, hv.same (same_new m10), fun H1 v10 x10 kk10 ga10 gd10 w10 => ⟨rfl, ?_⟩⟩⟩
    have sm1 := mk_same m10 kk10
    have sa1 : Same H H1 := sm1
    have M10 : Mad H1 a10 (c 10) [("line", v10)] := ⟨x10, ga10, gd10⟩
    have hv1 := hv.same sa1
    clear kk10 ga10 gd10
    refine ⟨_, rfl, by show 1 ≤ 1000; decide, fun a11 m11 => ⟨a11, d, v, rfl, upd_same, hv1.same (same_new m11), fun H2 v11 x11 kk11 ga11 gd11 w11 => ⟨rfl, ?_⟩⟩⟩
    have sm2 := mk_same m11 kk11
    have sa2 : Same H H2 := sa1.trans sm2
    have M11 : Mad H2 a11 (c 11) [("name", v11)] := ⟨x11, ga11, gd11⟩
    have hv2 := hv.same sa2
    replace M10 := M10.same sm2
    replace w10 := w10.same sm2
    clear kk11 ga11 gd11
    refine ⟨_, rfl, by show 1 ≤ 1000; decide, fun a12 m12 => ⟨a12, d, v, rfl, upd_same, hv2.same (same_new m12), fun H3 v12 x12 kk12 ga12 gd12 w12 => ⟨rfl, _, _, _, rfl, ?_⟩⟩⟩
    have sm3 := mk_same m12 kk12
    have sa3 : Same H H3 := sa2.trans sm3
    have M12 : Mad H3 a12 (c 12) [("value", v12)] := ⟨x12, ga12, gd12⟩
    have hv3 := hv.same sa3
    replace M10 := M10.same sm3
    replace w10 := w10.same sm3
    replace M11 := M11.same sm3
    replace w11 := w11.same sm3
    clear kk12 ga12 gd12
    refine ⟨_, rfl, by show 1 ≤ 1000; decide, fun a13 m13 => ⟨a13, d, v, rfl, upd_same, hv3.same (same_new m13), fun H4 v13 x13 kk13 ga13 gd13 w13 => ⟨rfl, ?_⟩⟩⟩
    have sm4 := mk_same m13 kk13
    have sa4 : Same H H4 := sa3.trans sm4
    have M13 : Mad H4 a13 (c 13) [("limit", v13)] := ⟨x13, ga13, gd13⟩
    have hv4 := hv.same sa4
    replace M10 := M10.same sm4
    replace w10 := w10.same sm4
    replace M11 := M11.same sm4
    replace w11 := w11.same sm4
    replace M12 := M12.same sm4
    replace w12 := w12.same sm4
    clear kk13 ga13 gd13
    refine ⟨_, rfl, by show 1 ≤ 1000; decide, fun a14 m14 => ⟨a14, d, v, rfl, upd_same, hv4.same (same_new m14), fun H5 v14 x14 kk14 ga14 gd14 w14 => ⟨rfl, ?_⟩⟩⟩
    have sm5 := mk_same m14 kk14
    have sa5 : Same H H5 := sa4.trans sm5
    have M14 : Mad H5 a14 (c 14) [("many", v14)] := ⟨x14, ga14, gd14⟩
    have hv5 := hv.same sa5
    have he5 := he.same sa5
    replace M10 := M10.same sm5
    replace w10 := w10.same sm5
    replace M11 := M11.same sm5
    replace w11 := w11.same sm5
    replace M12 := M12.same sm5
    replace w12 := w12.same sm5
    replace M13 := M13.same sm5
    replace w13 := w13.same sm5
    clear kk14 ga14 gd14
    refine ⟨_, rfl, _, rfl, by show 2 ≤ 1000; decide, fun a15 m15 => ⟨a15, d, e, v, u, rfl, upd_same, hv5.same (same_new m15), he5.same (same_new m15), fun H6 v15 u15 x15 kk15 ga15 gd15 w15 wu => ⟨rfl, _, _, _, rfl, ?_⟩⟩⟩
    have sm6 := mk_same m15 kk15
    have sa6 : Same H H6 := sa5.trans sm6
    have M15 : Mad H6 a15 (c 15) [("reason", u15), ("name", v15)] := ⟨x15, ga15, gd15⟩
    replace M10 := M10.same sm6
    replace w10 := w10.same sm6
    replace M11 := M11.same sm6
    replace w11 := w11.same sm6
    replace M12 := M12.same sm6
    replace w12 := w12.same sm6
    replace M13 := M13.same sm6
    replace w13 := w13.same sm6
    replace M14 := M14.same sm6
    replace w14 := w14.same sm6
    clear kk15 ga15 gd15
    obtain ⟨y10, z10, zd10⟩ := id M10
    obtain ⟨y11, z11, zd11⟩ := id M11
    obtain ⟨y12, z12, zd12⟩ := id M12
    obtain ⟨y13, z13, zd13⟩ := id M13
    obtain ⟨y14, z14, zd14⟩ := id M14
    obtain ⟨y15, z15, zd15⟩ := id M15
    refine ⟨_, rfl, a10, y10, _, v10, rfl, z10, zd10, rfl, ⟨_, rfl, a11, y11, _, v11, rfl, z11, zd11, rfl, ⟨_, rfl, a12, y12, _, v12, rfl, z12, zd12, rfl, ⟨_, rfl, a13, y13, _, v13, rfl, z13, zd13, rfl, ⟨_, rfl, a14, y14, _, v14, rfl, z14, zd14, rfl, ⟨_, rfl, a15, y15, _, v15, rfl, z15, zd15, rfl, ⟨_, rfl, a15, y15, _, u15, rfl, z15, zd15, rfl, by show 7 ≤ sizeLine; decide, fun L nL => ?_⟩⟩⟩⟩⟩⟩⟩
    have sL := same_new (o := .lst [v10, v11, v12, v13, v14, v15, u15]) nL
    have hL := upd_same (H := H6) (a := L) (o := .lst [v10, v11, v12, v13, v14, v15, u15])
    have pr : Paired (Wv (upd H6 L (.lst [v10, v11, v12, v13, v14, v15, u15]))) [d, d, d, d, d, d, e] [v10, v11, v12, v13, v14, v15, u15] := .cons (w10.same sL) (.cons (w11.same sL) (.cons (w12.same sL) (.cons (w13.same sL) (.cons (w14.same sL) (.cons (w15.same sL) (.cons (wu.same sL) .nil))))))
    have hv7 := hv.same (sa6.trans sL)
    have he7 := he.same (sa6.trans sL)
    replace M10 := M10.same sL
    replace M11 := M11.same sL
    replace M12 := M12.same sL
    replace M13 := M13.same sL
    replace M14 := M14.same sL
    replace M15 := M15.same sL
    have sa7 := sa6.trans sL
    clear z10 z11 z12 z13 z14 z15 zd10 zd11 zd12 zd13 zd14 zd15 w10 w11 w12 w13 w14 w15 wu
    generalize upd H6 L (.lst [v10, v11, v12, v13, v14, v15, u15]) = H7 at sL hL pr hv7 he7 M10 M11 M12 M13 M14 M15 sa7 ⊢
    obtain ⟨bd, dd⟩ := hv7.small
    obtain ⟨be, de⟩ := he7.small
    have hb : (PyData.list [d, d, d, d, d, d, e]).bulk ≤ 8000 := by
      show d.bulk + 1 + (d.bulk + 1 + (d.bulk + 1 + (d.bulk + 1 + (d.bulk + 1 + (d.bulk + 1 + (e.bulk + 1 + 0)))))) ≤ 8000
      omega
    have hdp : PyData.depthAll [d, d, d, d, d, d, e] ≤ 50 := by
      show max d.depth (max d.depth (max d.depth (max d.depth (max d.depth (max d.depth (max e.depth 0)))))) ≤ 50
      omega
    refine ⟨_, rfl, L, v10, _, [d, d, d, d, d, d, e], rfl, hL, pr, hb, hdp, ?_⟩
    refine ⟨_, rfl, by show 1 ≤ sizeLine; decide, fun l1 n1 => ⟨l1, 6, [v], rfl, rfl, upd_same, by decide, by decide, by show 1 * 6 ≤ sizeLine; decide, fun l2 n2 => ?_⟩⟩
    rw [show (List.replicate (6 : Int).toNat [v]).flatten = [v, v, v, v, v, v] from rfl] at *
    refine ⟨_, rfl, by show 1 ≤ sizeLine; decide, fun l3 n3 => ⟨l2, l3, [v, v, v, v, v, v], [u], rfl, rfl, same_new n3 _ _ upd_same, upd_same, by show 7 ≤ sizeLine; decide, fun l4 n4 => ?_⟩⟩
    have s8 : Same H7 _ := (((same_new (o := .lst [v]) n1).trans (same_new (o := .lst [v, v, v, v, v, v]) n2)).trans (same_new (o := .lst [u]) n3)).trans (same_new (o := .lst [v, v, v, v, v, v, u]) n4)
    have g8 := upd_same (H := upd (upd (upd H7 l1 (.lst [v])) l2 (.lst [v, v, v, v, v, v])) l3 (.lst [u])) (a := l4) (o := .lst [v, v, v, v, v, v, u])
    rw [show ([v, v, v, v, v, v] : List V) ++ [u] = [v, v, v, v, v, v, u] from rfl]
    generalize upd (upd (upd (upd H7 l1 (.lst [v])) l2 (.lst [v, v, v, v, v, v])) l3 (.lst [u])) l4 (.lst [v, v, v, v, v, v, u]) = H8 at s8 g8 ⊢
    have hv8 := hv7.same s8
    refine ⟨l4, v, [v, v, v, v, v, u], [d, d, d, d, d, d, e], rfl, g8, .cons hv8 (.cons hv8 (.cons hv8 (.cons hv8 (.cons hv8 (.cons hv8 (.cons (he7.same s8) .nil)))))), hb, hdp, ?_⟩
    refine ⟨rfl, _, rfl, ?_⟩
    refine ifF (by rw [decide_eq_true rfl]; rfl) ?_
    dsimp only [tNext]
    refine ⟨_, rfl, _, rfl, _, rfl, _, rfl, _, rfl, _, rfl, by show 6 ≤ sizeLine; decide, fun T nT => ⟨T, rfl, ⟨_, .of upd_same⟩, fun D9 nD => ?_⟩⟩
    have sT := s8.trans (same_new (o := .tup [V.ref a10, .ref a11, .ref a12, .ref a13, .ref a14, .ref a15]) nT)
    have gT := upd_same (H := H8) (a := T) (o := .tup [V.ref a10, .ref a11, .ref a12, .ref a13, .ref a14, .ref a15])
    generalize upd H8 T (.tup [V.ref a10, .ref a11, .ref a12, .ref a13, .ref a14, .ref a15]) = HT at sT gT nD ⊢
    have hk : ∀ (i : Nat) (x : V), ([V.ref a10, .ref a11, .ref a12, .ref a13, .ref a14, .ref a15])[i]? = some x → ∃ a, x = .ref a ∧ ExcC K (c (10 + i)) ∧ (∀ H', Same HT H' → IsEx H' a (c (10 + i))) ∧ ∀ (k : Nat) (u : Value), (tgts c)[k]? = some u → PySem.W.kitOne K (.ref (c (10 + i))) u = some (tab (10 + i) k) := fun i x e => by
      match i, e with
      | 0, e => cases e; exact ⟨a10, rfl, E10.ec, fun H' s => (M10.same (sT.trans s)).ex, tgt_all k10⟩
      | 1, e => cases e; exact ⟨a11, rfl, E11.ec, fun H' s => (M11.same (sT.trans s)).ex, tgt_all k11⟩
      | 2, e => cases e; exact ⟨a12, rfl, E12.ec, fun H' s => (M12.same (sT.trans s)).ex, tgt_all k12⟩
      | 3, e => cases e; exact ⟨a13, rfl, E13.ec, fun H' s => (M13.same (sT.trans s)).ex, tgt_all k13⟩
      | 4, e => cases e; exact ⟨a14, rfl, E14.ec, fun H' s => (M14.same (sT.trans s)).ex, tgt_all k14⟩
      | 5, e => cases e; exact ⟨a15, rfl, E15.ec, fun H' s => (M15.same (sT.trans s)).ex, tgt_all k15⟩
    refine lc_tup (xs := [V.ref a10, .ref a11, .ref a12, .ref a13, .ref a14, .ref a15]) (fun i H' => Same HT H' ∧ ∃ ts : List V, H' D9 = some (.lst ts) ∧ ts.length = i ∧ ∀ j, j < i → ∃ r, ts[j]? = some (.ref r) ∧ H' r = some (.lst (ups (tab (10 + j)) 23)))
      ⟨same_new nD, [], upd_same, rfl, fun j hj => absurd hj (Nat.not_lt_zero _)⟩ (fun i H' _ hP => .of (hP.1 _ _ gT)) (fun i x H' hx hP => ?_) (fun H' hP => ?_)
    · obtain ⟨s9, ts, hd, hlen, hts⟩ := hP
      have hi : i < 6 := (List.getElem?_eq_some_iff.mp hx).1
      obtain ⟨a, rfl, ec, isx, kt⟩ := hk i x hx
      refine ⟨rfl, _, rfl, a, c (10 + i), tab (10 + i), rfl, ec, isx H' s9, kt, fun H3 r s3 nr hr3 => ⟨ts, s3 _ _ hd, by rw [hlen]; exact small1000 (by omega), same_set (s9.trans s3) nD, ts ++ [.ref r], upd_same, by rw [List.length_append, hlen]; rfl, fun j hj => ?_⟩⟩
      have hrD : r ≠ D9 := fun e => by rw [e, hd] at nr; cases nr
      by_cases e : j < i
      · obtain ⟨r', e1, e2⟩ := hts j e
        have hne2 : r' ≠ D9 := fun e => by
          rw [e, hd] at e2
          have z := HO.lst.inj (Option.some.inj e2)
          rw [z] at e1
          exact ups_noref e1
        refine ⟨r', ?_, ?_⟩
        · rw [List.getElem?_append_left (by omega)]
          exact e1
        · rw [upd_ne hne2]
          exact s3 _ _ e2
      · have e' : j = i := by omega
        subst e'
        refine ⟨r, ?_, ?_⟩
        · rw [← hlen, List.getElem?_append_right (Nat.le_refl _), Nat.sub_self]
          rfl
        · rw [upd_ne hrD]
          exact hr3
    obtain ⟨s9, ts, hd, hlen, hts⟩ := hP
    refine ⟨_, rfl, by show 3 ≤ sizeLine; decide, fun q0 mq0 => ⟨by show 3 ≤ sizeLine; decide, fun q1 mq1 => ⟨by show 2 ≤ sizeLine; decide, fun q2 mq2 => ⟨by show 3 ≤ sizeLine; decide, fun q3 mq3 => ⟨by show 3 ≤ sizeLine; decide, fun q4 mq4 => ⟨by show 2 ≤ sizeLine; decide, fun q5 mq5 => ⟨by show 6 ≤ sizeLine; decide, fun LB nLB => ?_⟩⟩⟩⟩⟩⟩⟩
    have c0 := same_new (o := .lst [V.int 0, V.int 10, V.int 16]) mq0
    have c1 := same_new (o := .lst [V.int 11, V.int 17, V.int 22]) mq1
    have c2 := same_new (o := .lst [V.int 12, V.int 18]) mq2
    have c3 := same_new (o := .lst [V.int 13, V.int 19, V.int 21]) mq3
    have c4 := same_new (o := .lst [V.int 14, V.int 20, V.int 22]) mq4
    have c5 := same_new (o := .lst [V.int 15, V.int 21]) mq5
    have c6 := same_new (o := .lst [V.ref q0, V.ref q1, V.ref q2, V.ref q3, V.ref q4, V.ref q5]) nLB
    have call := ((((((c0).trans c1).trans c2).trans c3).trans c4).trans c5).trans c6
    have hlen6 : ts.length = 6 := hlen
    have D1 : DpAll K _ ts ((List.range 6).map fun j => PyData.list (((List.range 23).filter (tab (10 + j))).map fun (i : Nat) => PyData.int (i : Int))) := dpAll_get _ _ (by rw [hlen6]; rfl) fun j dj hj => by
      obtain ⟨hj6, e⟩ := List.getElem?_eq_some_iff.mp hj
      rw [List.length_map, List.length_range] at hj6
      rw [List.getElem_map, List.getElem_range] at e
      subst e
      obtain ⟨r, e1, e2⟩ := hts j hj6
      exact ⟨_, e1, .lst (.of (call _ _ e2)) (dpNat _)⟩
    refine ⟨_, _, .lst (.of (call _ _ hd)) D1, .lst (.of upd_same) (.cons (.lst (.of (c6 _ _ (c5 _ _ (c4 _ _ (c3 _ _ (c2 _ _ (c1 _ _ (upd_same)))))))) (.cons (.int _) (.cons (.int _) (.cons (.int _) (.nil))))) (.cons (.lst (.of (c6 _ _ (c5 _ _ (c4 _ _ (c3 _ _ (c2 _ _ (upd_same))))))) (.cons (.int _) (.cons (.int _) (.cons (.int _) (.nil))))) (.cons (.lst (.of (c6 _ _ (c5 _ _ (c4 _ _ (c3 _ _ (upd_same)))))) (.cons (.int _) (.cons (.int _) (.nil)))) (.cons (.lst (.of (c6 _ _ (c5 _ _ (c4 _ _ (upd_same))))) (.cons (.int _) (.cons (.int _) (.cons (.int _) (.nil))))) (.cons (.lst (.of (c6 _ _ (c5 _ _ (upd_same)))) (.cons (.int _) (.cons (.int _) (.cons (.int _) (.nil))))) (.cons (.lst (.of (c6 _ _ (upd_same))) (.cons (.int _) (.cons (.int _) (.nil)))) (.nil))))))), by decide +kernel, by decide +kernel, ?_⟩
    rw [show PyData.eqv _ _ = true by decide +kernel]
    exact q _ (((sa7.trans sT).trans s9).trans call)

end
end K00
set_option Elab.async false
set_option linter.all false
set_option maxRecDepth 100000
set_option maxHeartbeats 8000000
namespace K00
open PySem PySem.Spec PyProof.Rows L2 Ly

abbrev s_law : Stmt := topS 24
abbrev N_law : List Str := ["_law_script", "_law_at", "_law_dice_here", "_law_number", "_law_rows", "_law_value", "_law_plain", "_law_error"]
abbrev P_law : List Str := ["_law_script"]
theorem sc_law : FnScope N_law P_law (defScope s_law) := ⟨rfl, rfl, rfl, by decide +kernel, rfl, by decide +kernel, by decide +kernel⟩

section
variable {P : Program} {w : World} {K : PySem.W.Frag} {mg : Str → Option Value} {base : Heap} {f : Addr} {fd : FuncData} {c : Nat → Addr}
theorem str_small (s : String) : ∀ k ∈ (Str.ofString s).cps.toList, k < 16 ^ 8 := fun k hk => by
  rw [signs_ofString] at hk
  obtain ⟨ch, _, rfl⟩ := List.mem_map.mp hk
  exact Nat.lt_of_lt_of_le ch.val.toNat_lt (by decide)
theorem str_size (s : String) : (Str.ofString s).cps.size = s.length := by
  have e := congrArg List.length (signs_ofString s)
  rw [List.length_map, Array.length_toList] at e
  rw [e]
  exact String.length_toList
theorem fl_str {s : String} (h : s.length ≤ 100) : Fl (.str s) (.str s) := .str _ (str_small s) (by rw [str_size]; exact h)
theorem log_b {i : Int} (h : i.natAbs < 10 ^ 40) : i.natAbs.log2 < 1920 := by
  by_cases h0 : i.natAbs = 0
  · rw [h0]
    decide
  · exact (Nat.log2_lt h0).mpr (Nat.lt_of_lt_of_le h (by decide +kernel))
theorem lay {H : Hp} {a : Addr} {o : HO} {G : Hp} (n : H a = none) (e : G = upd H a o) : Same H G ∧ G a = some o := by
  subst e
  exact ⟨same_new n, upd_same⟩
/-- such a datum, its place not that of the dice -/
def Wd (d : Addr) (H : Hp) (x : V) : Prop := ∃ dd, Wv H dd x ∧ ∀ b, x = .ref b → b ≠ d
theorem Wd.same {d : Addr} {H H' : Hp} {x : V} (s : Same H H') (h : Wd d H x) : Wd d H' x := by
  obtain ⟨dd, h1, h2⟩ := h
  exact ⟨dd, h1.same s, h2⟩
theorem Wd.chg {d : Addr} {H H' : Hp} {x : V} (s : Chg d H H') (h : Wd d H x) : Wd d H' x := by
  obtain ⟨dd, h1, h2⟩ := h
  refine ⟨dd, ?_, h2⟩
  rcases h1 with h | ⟨a, ds, xs, e1, e2, h, r⟩ | ⟨a, ds, xs, e1, e2, h, r⟩ | ⟨a, e1, e2, h⟩ | ⟨a, x, i, e1, e2, h, r⟩
  · exact .inl h
  · exact .inr (.inl ⟨a, ds, xs, e1, e2, s _ _ (h2 a e2) h, r⟩)
  · exact .inr (.inr (.inl ⟨a, ds, xs, e1, e2, s _ _ (h2 a e2) h, r⟩))
  · exact .inr (.inr (.inr (.inl ⟨a, e1, e2, s _ _ (h2 a e2) h⟩)))
  · exact .inr (.inr (.inr (.inr ⟨a, x, i, e1, e2, s _ _ (h2 a e2) h, r⟩)))
theorem Wd.fl {d : Addr} {H : Hp} {x : V} {dd : PyData} (h : Fl dd x) : Wd d H x := ⟨dd, .inl h, fun b e => by subst e; cases h⟩
theorem trip_noref {x y z : Int} {j : Nat} {r : Addr} (e : ([V.int x, .int y, .int z])[j]? = some (.ref r)) : False := by
  have m := List.mem_of_getElem? e
  simp only [List.mem_cons, List.not_mem_nil, or_false] at m
  rcases m with m | m | m <;> cases m
structure Cg (P : Program) (w : World) (K : PySem.W.Frag) (mg : Str → Option Value) (base : Heap) (x : Str) (k : Nat) (f : Addr) (sp : Sp) : Prop where
  ok : FnG P w K mg base CX0 k f sp
  g : mg x = some (.ref f)
  kp : PySem.W.keepIn K (.ref f) = true
def spLaw (K : PySem.W.Frag) : Sp := fun vs H Q _ => ∃ (a : Addr) (ns : List Int), vs = [.ref a] ∧ SqL K H a (ns.map V.int) ∧ ns.length ≤ 63 ∧ ∀ H', Q (.bl true) H'
theorem ok_law (Z : Zs mg) (Y : Ys mg c) (D : Df K mg "law" s_law P_law f fd) {f1 f2 f3 f4 f5 : Addr} {d1 d2 d3 d4 : FuncData} (D_dice : Cl P w K mg base "_law_dice" 1 f1 d1 P_dice (spDice K)) (D_roll : Cl P w K mg base "_law_roll" 1 f2 d2 P_roll spRoll) (D_oneL : Cl P w K mg base "_law_one_of" 2 f3 d3 P_one_of (spOneL K))
    (D_kinds : Cl P w K mg base "_law_kinds_of" 1 f4 d4 P_kinds (spKinds K c)) (D_right : Cg P w K mg base "_law_right" 5 f5 spRight)
    (X0 : ∀ j, j < 10 → PySem.W.excIn K (c j) [.type "ValueError", .type "Exception", .type "BaseException", .type "object"] "ValueError.__new__" = true) (k0 : ∀ j, j < 10 → PySem.W.keepIn K (.ref (c j)) = true)
    (E0 : ∀ j, j < 10 → ExcC K (c j)) (q0 : ∀ j, j < 10 → (tgts c).map (PySem.W.kitOne K (.ref (c j))) = (List.range 23).map fun i => some (tab j i)) : FnG P w K mg base CX0 6 f (spLaw K) := by
  refine fnG_of D.F sc_law D.b (fun vs H Q E h => ?_) (fun cdv A outer s H vs Q E hr hq h => ?_)
  · obtain ⟨a, ns, rfl, _⟩ := h
    rfl
  · obtain ⟨a, ns, rfl, hS, hl, q⟩ := h
    have nd := sc_law.nd
    have hu : (A.deeper (envOfC "law" (defScope s_law) s.heap.objs.size f cdv)).units + 64 < cLine := by
      have := hr.un
      omega
    refine ⟨_,
    (pss_cons
    (ps_for PassesOwn.never rfl (pi_range1 (by rfl) Z.z_range (pa_cons (pe_callB (call_max2 rfl) (by rfl) Z.z_max (by decide +kernel) (pa_cons pe_int (pa_cons (pe_callB (call_min2 rfl) (by rfl) Z.z_min (by decide +kernel) (pa_cons pe_int (pa_cons (pe_callB call_lenL (by rfl) Z.z_len (by decide +kernel) (pa_cons (pv 0) pa_nil)) pa_nil))) pa_nil))) pa_nil)) (pg_name (i := 1) nd rfl (Or.inl rfl))
      (pss_cons
      (ps_set (i := 2) nd rfl (Or.inl rfl) (pe_call D_dice.ok (hr.mono (by decide)) (by rfl) D_dice.g D_dice.kp D_dice.b .nil pass0 (pa_cons (pv 0) (pa_cons (pv 1) pa_nil))))
      (pss_cons
      (ps_set (i := 3) nd rfl (Or.inl rfl) (pe_op op_sub (pe_call D_roll.ok (hr.mono (by decide)) (by rfl) D_roll.g D_roll.kp D_roll.b .nil pass0 (pa_cons (pv 2) (pa_cons (pe_op op_powW pe_int pe_int) pa_nil))) pe_int))
      (pss_cons
      (ps_set (i := 4) nd rfl (Or.inl rfl) (pe_lst (pa_cons (pv 3) (pa_cons (pe_op op_sub pe_int (pv 3)) (pa_cons (pe_callTy call_str_int (by rfl) Z.z_str (by decide +kernel) (pa_cons (pv 3) pa_nil)) (pa_cons (pe_tup (pa_cons (pv 3) (pa_cons pe_non pa_nil))) (pa_cons pe_non (pa_cons pe_bl (pa_cons (pe_lst (pa_cons (pv 3) pa_nil)) (pa_cons (pe_disp (pps_cons pe_str (pv 3) pps_nil) (by rfl) (by rfl) (fun z => by cases z) (by decide)) (pa_cons pe_str (pa_cons (pe_op op_powW pe_int pe_int) pa_nil))))))))))))
      (pss_one
      (ps_for PassesOwn.never rfl (pi_list (pv 4)) (pg_name (i := 5) nd rfl (Or.inl rfl))
        (pss_one
        (ps_if (pt_not (pt_val (pe_callV (callG (X := _) D_right.ok (hr.mono (by decide)) hq pass0) (by rfl) D_right.g D_right.kp (pa_cons (pv 5) (pa_cons (pe_call D_oneL.ok (hr.mono (by decide)) (by rfl) D_oneL.g D_oneL.kp D_oneL.b .nil pass0 (pa_cons (pv 2) (pa_cons (pe_lst (pa_cons pe_non (pa_cons (pe_tup (pa_cons pe_str (pa_cons pe_int pa_nil))) (pa_cons (pv 5) (pa_cons pe_dnewK pa_nil))))) pa_nil))) pa_nil)))))
          (pss_one
          (ps_ret pe_bl))
          pss_nil))))))))
    (pss_cons
    (ps_set (i := 6) nd rfl (Or.inl rfl) (pe_lst (pa_cons (pe_exc1 F.excBase_ValueError (X0 1 (by decide)) Y.g_InvalidCutter (k0 1 (by decide)) (by rfl) pe_str) (pa_cons (pe_exc1 F.excBase_ValueError (X0 2 (by decide)) Y.g_InvalidCompany (k0 2 (by decide)) (by rfl) pe_str) (pa_cons (pe_exc1 F.excBase_ValueError (X0 3 (by decide)) Y.g_InvalidBundle (k0 3 (by decide)) (by rfl) pe_str) (pa_cons (pe_exc1 F.excBase_ValueError (X0 4 (by decide)) Y.g_InvalidRule (k0 4 (by decide)) (by rfl) pe_str) (pa_cons (pe_exc1 F.excBase_ValueError (X0 5 (by decide)) Y.g_InvalidLot (k0 5 (by decide)) (by rfl) pe_str) pa_nil)))))))
    (pss_cons
    (ps_set (i := 6) nd rfl (Or.inl rfl) (pe_op op_cat (pv 6) (pe_lst (pa_cons (pe_exc1 F.excBase_ValueError (X0 6 (by decide)) Y.g_InvalidState (k0 6 (by decide)) (by rfl) pe_str) (pa_cons (pe_exc1 F.excBase_ValueError (X0 7 (by decide)) Y.g_InvalidLetter (k0 7 (by decide)) (by rfl) pe_str) (pa_cons (pe_exc1 F.excBase_ValueError (X0 8 (by decide)) Y.g_InvalidPledge (k0 8 (by decide)) (by rfl) pe_str) (pa_cons (pe_exc1 F.excBase_ValueError (X0 9 (by decide)) Y.g_InvalidOperation (k0 9 (by decide)) (by rfl) pe_str) pa_nil)))))))
    (pss_cons
    (ps_if (pt_cmpR (op_neD hu) (pe_lc (own := [("_law_error", 7)]) (g := gName 7) (tt := tYes) rfl nd (pi_list (pv 6)) (blkOk_by (N := N_law) (sc := defScope s_law) (by decide +kernel)) (fun _ _ _ _ _ => (pg_name (i := 7) nd rfl (Or.inl rfl))) (fun _ _ _ _ _ => pts_nil) (fun _ _ _ _ _ => (pe_call D_kinds.ok (hr.mono (by decide)) (by rfl) D_kinds.g D_kinds.kp D_kinds.b .nil pass0 (pa_cons (pv 7) pa_nil)))) (pe_lc (own := [("_law_at", 1)]) (g := gName 1) (tt := tYes) rfl nd (pi_range1 (by rfl) Z.z_range (pa_cons pe_int pa_nil)) (blkOk_by (N := N_law) (sc := defScope s_law) (by decide +kernel)) (fun _ _ _ _ _ => (pg_name (i := 1) nd rfl (Or.inl rfl))) (fun _ _ _ _ _ => pts_nil) (fun _ _ _ _ _ => (pe_lst (pa_cons pe_int (pa_cons (pe_op op_add (pv 1) pe_int) (pa_cons pe_int pa_nil)))))) (nomark _))
      (pss_one
      (ps_ret pe_bl))
      pss_nil)
    (pss_one
    (ps_ret (pe_cmpR (op_eqD hu) (pe_call D_kinds.ok (hr.mono (by decide)) (by rfl) D_kinds.g D_kinds.kp D_kinds.b .nil pass0 (pa_cons (pe_exc1 F.excBase_ValueError (X0 0 (by decide)) Y.g_LetterError (k0 0 (by decide)) (by rfl) pe_str) pa_nil)) (pe_lst (pa_cons pe_int (pa_cons pe_int pa_nil))) (nomark _)))))))), ?_⟩
    refine ⟨_, rfl, a, _, rfl, hS, _, _, rfl, _, _, rfl, ?_⟩
    rw [List.length_map]
    generalize hn : (if (if (ns.length : Int) < 6 then (ns.length : Int) else 6) > 1 then (if (ns.length : Int) < 6 then (ns.length : Int) else 6) else 1) = n
    have n0 : 0 ≤ n ∧ n ≤ 6 := by
      rw [← hn]
      split <;> (try split) <;> omega
    refine ⟨n, rfl, by omega, by omega, ?_⟩
    refine for_range (lo := 0) (n := n.toNat) (fun i σ' H' => Same H H' ∧ ∃ x1 x2 x3 x4 x5, σ' = [some (.ref a), x1, x2, x3, x4, x5, none, none]) ⟨Same.refl H, _, _, _, _, _, rfl⟩ (fun i σ' H1 hi hP => ?_) (fun σ' H1 hP => ?_)
    · obtain ⟨s1, x1, x2, x3, x4, x5, rfl⟩ := hP
      refine ⟨_, rfl, _, rfl, a, ns, i, by simp, s1.seq hS, hl, by omega, fun H2 d s2 nd' D2 => ?_⟩
      refine ⟨_, rfl, _, _, rfl, rfl, ⟨by decide, by decide +kernel⟩, d, _, rfl, D2, by decide +kernel, by decide +kernel, fun H3 r c3 D3 r0 r1 => ⟨_, _, rfl, rfl, ?_⟩⟩
      have hm : (r - 7).natAbs < 10 ^ 12 := by
        have e12 : (10 : Int) ^ (12 : Int).toNat = 1000000000000 := by decide +kernel
        rw [e12] at r1
        have e13 : (10 ^ 12 : Nat) = 1000000000000 := by decide +kernel
        rw [e13]
        omega
      have hm2 : (0 - (r - 7)).natAbs < 10 ^ 12 := by
        rw [show (0 - (r - 7)).natAbs = (r - 7).natAbs by omega]
        exact hm
      have big : (10 : Nat) ^ 12 ≤ 10 ^ 40 := by decide +kernel
      have lm : (r - 7).natAbs.log2 < 1920 := log_b (Nat.lt_of_lt_of_le hm big)
      have lm2 : (0 - (r - 7)).natAbs.log2 < 1920 := log_b (Nat.lt_of_lt_of_le hm2 big)
      refine ⟨_, rfl, _, rfl, _, _, rfl, rfl, _, rfl, r - 7, rfl, lm, _, rfl, by show 2 ≤ sizeLine; decide, fun t1 n1 => ⟨_, rfl, by show 1 ≤ sizeLine; decide, fun l1 n2 => fun p3 n3 => ⟨_, rfl, upd_same, [(.inr "a", .int (r - 7))], rfl, by show 1 ≤ 15; decide, _, _, rfl, rfl, ⟨by decide, by decide +kernel⟩, by show 10 ≤ sizeLine; decide, fun R nR => ?_⟩⟩⟩
      rw [show mergeK [] [((.inr "a" : Key), V.int (r - 7))] = [((.inr "a" : Key), V.int (r - 7))] from putK_one] at *
      generalize hHR : upd (upd (upd (upd (upd H3 t1 _) l1 _) p3 _) p3 _) R _ = HR
      have m2 : upd H3 t1 (.tup [V.int (r - 7), .non]) l1 = none := n2
      have m3 : upd (upd H3 t1 (.tup [V.int (r - 7), .non])) l1 (.lst [V.int (r - 7)]) p3 = none := n3
      rw [upd_twice] at nR hHR
      have mR : upd (upd (upd H3 t1 (.tup [V.int (r - 7), .non])) l1 (.lst [V.int (r - 7)])) p3 (.dK [(.inr "a", .int (r - 7))]) R = none := nR
      have s4 := same_new (o := .tup [V.int (r - 7), .non]) n1
      have s5 := same_new (o := .lst [V.int (r - 7)]) m2
      have s6 := same_new (o := .dK [(.inr "a", .int (r - 7))]) m3
      have s7 := same_new (o := .lst [V.int (r - 7), .int (0 - (r - 7)), .str (toString (r - 7)), .ref t1, .non, .bl true, .ref l1, .ref p3, .str "", .int (10 ^ (39 : Int).toNat)]) mR
      have hHR' : upd (upd (upd (upd H3 t1 (.tup [V.int (r - 7), .non])) l1 (.lst [V.int (r - 7)])) p3 (.dK [(.inr "a", .int (r - 7))])) R (.lst [V.int (r - 7), .int (0 - (r - 7)), .str (toString (r - 7)), .ref t1, .non, .bl true, .ref l1, .ref p3, .str "", .int (10 ^ (39 : Int).toNat)]) = HR := hHR
      have d1' : t1 ≠ d := (dice_ne D3 n1).symm
      have d2' : l1 ≠ d := (dice_ne (D3.keep s4) m2).symm
      have d3' : p3 ≠ d := (dice_ne (D3.keep (s4.trans s5)) m3).symm
      have dR' : R ≠ d := (dice_ne (D3.keep ((s4.trans s5).trans s6)) mR).symm
      have g1 : HR t1 = some (.tup [V.int (r - 7), .non]) := by
        rw [← hHR']
        exact s7 _ _ (s6 _ _ (s5 _ _ upd_same))
      have g2 : HR l1 = some (.lst [V.int (r - 7)]) := by
        rw [← hHR']
        exact s7 _ _ (s6 _ _ upd_same)
      have g3 : HR p3 = some (.dK [(.inr "a", .int (r - 7))]) := by
        rw [← hHR']
        exact s7 _ _ upd_same
      have gR : HR R = some (.lst [V.int (r - 7), .int (0 - (r - 7)), .str (toString (r - 7)), .ref t1, .non, .bl true, .ref l1, .ref p3, .str "", .int (10 ^ (39 : Int).toNat)]) := by
        rw [← hHR']
        exact upd_same
      have sR : Same H3 HR := by
        rw [← hHR']
        exact ((s4.trans s5).trans s6).trans s7
      have D4 := D3.keep sR
      clear hHR hHR' n1 n2 n3 nR m2 m3 mR s4 s5 s6 s7
      have hw : ∀ (j : Nat) (x : V), ([V.int (r - 7), .int (0 - (r - 7)), .str (toString (r - 7)), .ref t1, .non, .bl true, .ref l1, .ref p3, .str "", .int (10 ^ (39 : Int).toNat)])[j]? = some x → Wd d HR x := fun j x e => by
        match j, e with
        | 0, e => cases e; exact .fl (.int _ lm)
        | 1, e => cases e; exact .fl (.int _ lm2)
        | 2, e => cases e; exact .fl (fl_str (Nat.le_trans (int_text_length_le10 (k := 12) (by decide) hm) (by decide)))
        | 3, e => cases e; exact ⟨_, .inr (.inl ⟨t1, _, _, rfl, rfl, g1, .cons (.int _ lm) (.cons .non .nil), by show 2 ≤ 4; decide⟩), fun b e => by cases e; exact d1'⟩
        | 4, e => cases e; exact .fl .non
        | 5, e => cases e; exact .fl (.bl true)
        | 6, e => cases e; exact ⟨_, .inr (.inr (.inl ⟨l1, _, _, rfl, rfl, g2, .cons (.int _ lm) .nil, by show 1 ≤ 4; decide⟩)), fun b e => by cases e; exact d2'⟩
        | 7, e => cases e; exact ⟨_, .inr (.inr (.inr (.inr ⟨p3, _, _, rfl, rfl, g3, str_small "a", by decide, lm⟩))), fun b e => by cases e; exact d3'⟩
        | 8, e => cases e; exact .fl (fl_str (s := "") (by decide))
        | 9, e => cases e; exact .fl (.int _ (log_b (by decide +kernel)))
      refine ⟨_, rfl, R, rfl, ⟨_, .of gR⟩, ?_⟩
      refine for_list (xs := [V.int (r - 7), .int (0 - (r - 7)), .str (toString (r - 7)), .ref t1, .non, .bl true, .ref l1, .ref p3, .str "", .int (10 ^ (39 : Int).toNat)]) (fun j σ' H' => Chg d HR H' ∧ Dice H' d ∧ ∃ y1 y3 y5, σ' = [some (.ref a), y1, some (.ref d), y3, some (.ref R), y5, none, none])
        ⟨.of (Same.refl _), D4, _, _, _, rfl⟩ (fun j σ' H' _ hP => .of (hP.1 _ _ dR' gR)) (fun j x σ' H' hx hP => ?_) (fun σ' H' hP => ?_)
      · obtain ⟨c5, D5, y1, y3, y5, rfl⟩ := hP
        have wx := (hw j x hx).chg c5
        refine ⟨_, rfl, _, rfl, by show 2 ≤ sizeLine; decide, fun t2 m2 => ⟨_, rfl, fun p4 m4 => ⟨by show 4 ≤ sizeLine; decide, fun B nB => ?_⟩⟩⟩
        have k1 := same_new (o := .tup [V.str "lot", .int 1]) m2
        have k2 := same_new (o := .dK []) m4
        have k3 := same_new (o := .lst [V.non, .ref t2, x, .ref p4]) nB
        have k123 := (k1.trans k2).trans k3
        have D6 := D5.keep k123
        have eB := (dice_ne (D5.keep (k1.trans k2)) nB).symm
        have et := (dice_ne D5 m2).symm
        have ep := (dice_ne (D5.keep k1) m4).symm
        have ht2 := k3 _ _ (k2 _ _ (upd_same (H := H') (a := t2) (o := .tup [V.str "lot", .int 1])))
        have hp4 := k3 _ _ (upd_same (H := upd H' t2 (.tup [V.str "lot", .int 1])) (a := p4) (o := .dK []))
        have hB := upd_same (H := upd (upd H' t2 (.tup [V.str "lot", .int 1])) p4 (.dK [])) (a := B) (o := .lst [V.non, .ref t2, x, .ref p4])
        have w6 := wx.same k123
        generalize upd (upd (upd H' t2 (.tup [V.str "lot", .int 1])) p4 (.dK [])) B (.lst [V.non, .ref t2, x, .ref p4]) = H6 at k123 D6 ht2 hp4 hB w6 ⊢
        refine ⟨d, B, _, rfl, D6, eB, .of hB, by show 0 < 4; decide, by show 4 < 1000; decide, fun H7 z c7 D7 mem => ?_⟩
        have wz : Wd d H7 z := by
          simp only [List.mem_cons, List.not_mem_nil, or_false] at mem
          rcases mem with e | e | e | e <;> rw [e]
          · exact .fl .non
          · exact ⟨_, .inr (.inl ⟨t2, _, _, rfl, rfl, c7 _ _ et ht2, .cons (fl_str (s := "lot") (by decide)) (.cons (.int 1 (by decide +kernel)) .nil), by show 2 ≤ 4; decide⟩), fun b e => by cases e; exact et⟩
          · exact w6.chg c7
          · exact ⟨_, .inr (.inr (.inr (.inl ⟨p4, rfl, rfl, c7 _ _ ep hp4⟩))), fun b e => by cases e; exact ep⟩
        obtain ⟨dd, wv, _⟩ := w6.chg c7
        obtain ⟨ee, wz', _⟩ := wz
        exact ⟨dd, ee, x, z, rfl, wv, wz', fun H8 s8 => ⟨true, rfl, ifF rfl ⟨c5.trans ((Chg.of k123).trans (c7.trans (Chg.of s8))), D7.keep s8, _, _, _, rfl⟩⟩⟩
      · obtain ⟨c5, D5, y1, y3, y5, rfl⟩ := hP
        refine ⟨fun b o e => ?_, _, _, _, _, _, rfl⟩
        have e1 := s1 _ _ e
        have nb := ne_of_none e1 nd'
        exact c5 _ _ nb (sR _ _ (c3 _ _ nb (s2 _ _ e1)))
    · obtain ⟨s1, x1, x2, x3, x4, x5, rfl⟩ := hP
      refine fun a1 n1 => ?_
      generalize hG : upd H1 a1 (ExO (.ref (c 1)) a1) = G1
      obtain ⟨sg, g1⟩ := lay n1 hG.symm
      have sH := sg
      clear hG sg n1
      refine fun a2 n2 => ?_
      generalize hG : upd G1 a2 (ExO (.ref (c 2)) a2) = G2
      obtain ⟨sg, g2⟩ := lay n2 hG.symm
      replace g1 := sg _ _ g1
      replace sH := sH.trans sg
      clear hG sg n2
      refine fun a3 n3 => ?_
      generalize hG : upd G2 a3 (ExO (.ref (c 3)) a3) = G3
      obtain ⟨sg, g3⟩ := lay n3 hG.symm
      replace g1 := sg _ _ g1
      replace g2 := sg _ _ g2
      replace sH := sH.trans sg
      clear hG sg n3
      refine fun a4 n4 => ?_
      generalize hG : upd G3 a4 (ExO (.ref (c 4)) a4) = G4
      obtain ⟨sg, g4⟩ := lay n4 hG.symm
      replace g1 := sg _ _ g1
      replace g2 := sg _ _ g2
      replace g3 := sg _ _ g3
      replace sH := sH.trans sg
      clear hG sg n4
      refine fun a5 n5 => ?_
      generalize hG : upd G4 a5 (ExO (.ref (c 5)) a5) = G5
      obtain ⟨sg, g5⟩ := lay n5 hG.symm
      replace g1 := sg _ _ g1
      replace g2 := sg _ _ g2
      replace g3 := sg _ _ g3
      replace g4 := sg _ _ g4
      replace sH := sH.trans sg
      clear hG sg n5
      refine ⟨by show 5 ≤ sizeLine; decide, fun L nL => ?_⟩
      generalize hG : upd G5 L (.lst [V.ref a1, V.ref a2, V.ref a3, V.ref a4, V.ref a5]) = GL
      obtain ⟨sg, gL⟩ := lay nL hG.symm
      replace g1 := sg _ _ g1
      replace g2 := sg _ _ g2
      replace g3 := sg _ _ g3
      replace g4 := sg _ _ g4
      replace g5 := sg _ _ g5
      replace sH := sH.trans sg
      clear hG sg nL
      refine ⟨_, rfl, ?_⟩
      refine fun a6 n6 => ?_
      generalize hG : upd GL a6 (ExO (.ref (c 6)) a6) = G6
      obtain ⟨sg, g6⟩ := lay n6 hG.symm
      replace g1 := sg _ _ g1
      replace g2 := sg _ _ g2
      replace g3 := sg _ _ g3
      replace g4 := sg _ _ g4
      replace g5 := sg _ _ g5
      replace gL := sg _ _ gL
      replace sH := sH.trans sg
      clear hG sg n6
      refine fun a7 n7 => ?_
      generalize hG : upd G6 a7 (ExO (.ref (c 7)) a7) = G7
      obtain ⟨sg, g7⟩ := lay n7 hG.symm
      replace g1 := sg _ _ g1
      replace g2 := sg _ _ g2
      replace g3 := sg _ _ g3
      replace g4 := sg _ _ g4
      replace g5 := sg _ _ g5
      replace gL := sg _ _ gL
      replace g6 := sg _ _ g6
      replace sH := sH.trans sg
      clear hG sg n7
      refine fun a8 n8 => ?_
      generalize hG : upd G7 a8 (ExO (.ref (c 8)) a8) = G8
      obtain ⟨sg, g8⟩ := lay n8 hG.symm
      replace g1 := sg _ _ g1
      replace g2 := sg _ _ g2
      replace g3 := sg _ _ g3
      replace g4 := sg _ _ g4
      replace g5 := sg _ _ g5
      replace gL := sg _ _ gL
      replace g6 := sg _ _ g6
      replace g7 := sg _ _ g7
      replace sH := sH.trans sg
      clear hG sg n8
      refine fun a9 n9 => ?_
      generalize hG : upd G8 a9 (ExO (.ref (c 9)) a9) = G9
      obtain ⟨sg, g9⟩ := lay n9 hG.symm
      replace g1 := sg _ _ g1
      replace g2 := sg _ _ g2
      replace g3 := sg _ _ g3
      replace g4 := sg _ _ g4
      replace g5 := sg _ _ g5
      replace gL := sg _ _ gL
      replace g6 := sg _ _ g6
      replace g7 := sg _ _ g7
      replace g8 := sg _ _ g8
      replace sH := sH.trans sg
      clear hG sg n9
      refine ⟨by show 4 ≤ sizeLine; decide, fun L2 nL2 => ⟨L, L2, [V.ref a1, V.ref a2, V.ref a3, V.ref a4, V.ref a5], [V.ref a6, V.ref a7, V.ref a8, V.ref a9], rfl, rfl, same_new nL2 _ _ gL, upd_same, by show 9 ≤ sizeLine; decide, fun L3 nL3 => ?_⟩⟩
      rw [show ([V.ref a1, V.ref a2, V.ref a3, V.ref a4, V.ref a5] : List V) ++ [V.ref a6, V.ref a7, V.ref a8, V.ref a9] = [V.ref a1, V.ref a2, V.ref a3, V.ref a4, V.ref a5, V.ref a6, V.ref a7, V.ref a8, V.ref a9] from rfl]
      have sg := (same_new (o := .lst [V.ref a6, V.ref a7, V.ref a8, V.ref a9]) nL2).trans (same_new (o := .lst [V.ref a1, V.ref a2, V.ref a3, V.ref a4, V.ref a5, V.ref a6, V.ref a7, V.ref a8, V.ref a9]) nL3)
      have gR : (upd (upd G9 L2 (.lst [V.ref a6, V.ref a7, V.ref a8, V.ref a9])) L3 (.lst [V.ref a1, V.ref a2, V.ref a3, V.ref a4, V.ref a5, V.ref a6, V.ref a7, V.ref a8, V.ref a9])) L3 = some (.lst [V.ref a1, V.ref a2, V.ref a3, V.ref a4, V.ref a5, V.ref a6, V.ref a7, V.ref a8, V.ref a9]) := upd_same
      replace g1 := sg _ _ g1
      replace g2 := sg _ _ g2
      replace g3 := sg _ _ g3
      replace g4 := sg _ _ g4
      replace g5 := sg _ _ g5
      replace g6 := sg _ _ g6
      replace g7 := sg _ _ g7
      replace g8 := sg _ _ g8
      replace g9 := sg _ _ g9
      replace sH := sH.trans sg
      generalize upd (upd G9 L2 (.lst [V.ref a6, V.ref a7, V.ref a8, V.ref a9])) L3 (.lst [V.ref a1, V.ref a2, V.ref a3, V.ref a4, V.ref a5, V.ref a6, V.ref a7, V.ref a8, V.ref a9]) = GR at sH gR g1 g2 g3 g4 g5 g6 g7 g8 g9 ⊢
      clear sg gL
      have hk : ∀ (i : Nat) (x : V), ([V.ref a1, V.ref a2, V.ref a3, V.ref a4, V.ref a5, V.ref a6, V.ref a7, V.ref a8, V.ref a9])[i]? = some x → ∃ a, x = .ref a ∧ ExcC K (c (1 + i)) ∧ (∀ H', Same GR H' → IsEx H' a (c (1 + i))) ∧ ∀ (k : Nat) (u : Value), (tgts c)[k]? = some u → PySem.W.kitOne K (.ref (c (1 + i))) u = some (tab (1 + i) k) := fun i x e => by
        match i, e with
        | 0, e => cases e; exact ⟨a1, rfl, E0 1 (by decide), fun H' s => .inr (s _ _ g1), tgt_all (q0 1 (by decide))⟩
        | 1, e => cases e; exact ⟨a2, rfl, E0 2 (by decide), fun H' s => .inr (s _ _ g2), tgt_all (q0 2 (by decide))⟩
        | 2, e => cases e; exact ⟨a3, rfl, E0 3 (by decide), fun H' s => .inr (s _ _ g3), tgt_all (q0 3 (by decide))⟩
        | 3, e => cases e; exact ⟨a4, rfl, E0 4 (by decide), fun H' s => .inr (s _ _ g4), tgt_all (q0 4 (by decide))⟩
        | 4, e => cases e; exact ⟨a5, rfl, E0 5 (by decide), fun H' s => .inr (s _ _ g5), tgt_all (q0 5 (by decide))⟩
        | 5, e => cases e; exact ⟨a6, rfl, E0 6 (by decide), fun H' s => .inr (s _ _ g6), tgt_all (q0 6 (by decide))⟩
        | 6, e => cases e; exact ⟨a7, rfl, E0 7 (by decide), fun H' s => .inr (s _ _ g7), tgt_all (q0 7 (by decide))⟩
        | 7, e => cases e; exact ⟨a8, rfl, E0 8 (by decide), fun H' s => .inr (s _ _ g8), tgt_all (q0 8 (by decide))⟩
        | 8, e => cases e; exact ⟨a9, rfl, E0 9 (by decide), fun H' s => .inr (s _ _ g9), tgt_all (q0 9 (by decide))⟩
      refine ⟨_, rfl, L3, rfl, ⟨_, .of gR⟩, fun D9 nD => ?_⟩
      refine lc_list (xs := [V.ref a1, V.ref a2, V.ref a3, V.ref a4, V.ref a5, V.ref a6, V.ref a7, V.ref a8, V.ref a9]) (fun i H' => Same GR H' ∧ ∃ ts : List V, H' D9 = some (.lst ts) ∧ ts.length = i ∧ ∀ j, j < i → ∃ r, ts[j]? = some (.ref r) ∧ H' r = some (.lst (ups (tab (1 + j)) 23)))
        ⟨same_new nD, [], upd_same, rfl, fun j hj => absurd hj (Nat.not_lt_zero _)⟩ (fun i H' _ hP => .of (hP.1 _ _ gR)) (fun i x H' hx hP => ?_) (fun H' hP => ?_)
      · obtain ⟨s9, ts, hd, hlen, hts⟩ := hP
        have hi : i < 9 := (List.getElem?_eq_some_iff.mp hx).1
        obtain ⟨a, rfl, ec, isx, kt⟩ := hk i x hx
        refine ⟨rfl, _, rfl, a, c (1 + i), tab (1 + i), rfl, ec, isx H' s9, kt, fun H3 r s3 nr hr3 => ⟨ts, s3 _ _ hd, by rw [hlen]; exact small1000 (by omega), same_set (s9.trans s3) nD, ts ++ [.ref r], upd_same, by rw [List.length_append, hlen]; rfl, fun j hj => ?_⟩⟩
        have hrD : r ≠ D9 := fun e => by rw [e, hd] at nr; cases nr
        by_cases e : j < i
        · obtain ⟨r', e1, e2⟩ := hts j e
          have hne2 : r' ≠ D9 := fun e => by
            rw [e, hd] at e2
            have z := HO.lst.inj (Option.some.inj e2)
            rw [z] at e1
            exact ups_noref e1
          refine ⟨r', ?_, ?_⟩
          · rw [List.getElem?_append_left (by omega)]
            exact e1
          · rw [upd_ne hne2]
            exact s3 _ _ e2
        · have e' : j = i := by omega
          subst e'
          refine ⟨r, ?_, ?_⟩
          · rw [← hlen, List.getElem?_append_right (Nat.le_refl _), Nat.sub_self]
            rfl
          · rw [upd_ne hrD]
            exact hr3
      obtain ⟨s9, ts, hd, hlen, hts⟩ := hP
      have hlen9 : ts.length = 9 := hlen
      refine ⟨9, rfl, by decide, by decide, fun D10 nD2 => ?_⟩
      refine lc_range (lo := 0) (n := 9) (fun i H2 => Same H' H2 ∧ ∃ us : List V, H2 D10 = some (.lst us) ∧ us.length = i ∧ ∀ j, j < i → ∃ r, us[j]? = some (.ref r) ∧ H2 r = some (.lst [.int 0, .int (0 + (j : Int) + 1), .int 16]))
        ⟨same_new nD2, [], upd_same, rfl, fun j hj => absurd hj (Nat.not_lt_zero _)⟩ (fun i H2 hi hP => ?_) (fun H2 hP => ?_)
      · obtain ⟨s10, us, hd2, hlen2, hus⟩ := hP
        refine ⟨rfl, _, rfl, _, _, rfl, rfl, by show 3 ≤ sizeLine; decide, fun r nr => ⟨us, same_new nr _ _ hd2, by rw [hlen2]; exact small1000 (by omega), same_set (s10.trans (same_new nr)) nD2, us ++ [.ref r], upd_same, by rw [List.length_append, hlen2]; rfl, fun j hj => ?_⟩⟩
        have hrD : r ≠ D10 := fun e => by rw [e, hd2] at nr; cases nr
        by_cases e : j < i
        · obtain ⟨r', e1, e2⟩ := hus j e
          have hne2 : r' ≠ D10 := fun e => by
            rw [e, hd2] at e2
            have z := HO.lst.inj (Option.some.inj e2)
            rw [z] at e1
            exact trip_noref e1
          refine ⟨r', ?_, ?_⟩
          · rw [List.getElem?_append_left (by omega)]
            exact e1
          · rw [upd_ne hne2]
            exact same_new nr _ _ e2
        · have e' : j = i := by omega
          subst e'
          refine ⟨r, ?_, ?_⟩
          · rw [← hlen2, List.getElem?_append_right (Nat.le_refl _), Nat.sub_self]
            rfl
          · rw [upd_ne hrD]
            exact upd_same
      obtain ⟨s10, us, hd2, hlen2, hus⟩ := hP
      have D1 : DpAll K H2 ts ((List.range 9).map fun j => PyData.list (((List.range 23).filter (tab (1 + j))).map fun (i : Nat) => PyData.int (i : Int))) := dpAll_get _ _ (by rw [hlen9]; rfl) fun j dj hj => by
        obtain ⟨hj6, e⟩ := List.getElem?_eq_some_iff.mp hj
        rw [List.length_map, List.length_range] at hj6
        rw [List.getElem_map, List.getElem_range] at e
        subst e
        obtain ⟨r, e1, e2⟩ := hts j hj6
        exact ⟨_, e1, .lst (.of (s10 _ _ e2)) (dpNat _)⟩
      have D2 : DpAll K H2 us ((List.range 9).map fun (j : Nat) => PyData.list [.int 0, .int (0 + (j : Int) + 1), .int 16]) := dpAll_get _ _ (by rw [hlen2]; rfl) fun j dj hj => by
        obtain ⟨hj6, e⟩ := List.getElem?_eq_some_iff.mp hj
        rw [List.length_map, List.length_range] at hj6
        rw [List.getElem_map, List.getElem_range] at e
        subst e
        obtain ⟨r, e1, e2⟩ := hus j hj6
        exact ⟨_, e1, .lst (.of e2) (.cons (.int _) (.cons (.int _) (.cons (.int _) .nil)))⟩
      refine ⟨_, _, .lst (.of (s10 _ _ hd)) D1, .lst (.of hd2) D2, by decide +kernel, by decide +kernel, _, rfl, ifF (by decide +kernel) ?_⟩
      dsimp only [tNext]
      refine fun a0 m0 => ⟨a0, c 0, tab 0, rfl, E0 0 (by decide), .inr upd_same, tgt_all (q0 0 (by decide)), fun H5 r s5 nr hr => ⟨by show 2 ≤ sizeLine; decide, fun LB nLB => ⟨_, _, .lst (.of (same_new nLB _ _ hr)) (dpNat ((List.range 23).filter (tab 0))), .lst (.of upd_same) (.cons (.int _) (.cons (.int _) .nil)), by decide +kernel, by decide +kernel, ?_⟩⟩⟩
      rw [show PyData.eqv _ _ = true by decide +kernel]
      exact q _

end
end K00
set_option Elab.async false
set_option linter.all false
set_option maxRecDepth 100000
set_option maxHeartbeats 8000000
namespace K00
open PySem PySem.Spec PyProof.Rows L2 Ly

def ccf (l : List Addr) (i : Nat) : Addr := l.getD i 0
theorem all_mk {l : PySem.W.OpenLaw} {w : World} {K : PySem.W.Frag} {h : Heap} {mg : Str → Option Value} {fa : Addr} (X : K.In h) (G : h.Ns mainGlobals mg) (hfa : mg "law" = some (.ref fa)) {f_ekept : Addr} {od_ekept an_ekept : Option Addr} {sl_ekept : Array (Option Value)} {oc_ekept kV_ekept dc_ekept pm_ekept cd_ekept ct_ekept : Value} {f_dice : Addr} {od_dice an_dice : Option Addr} {sl_dice : Array (Option Value)} {oc_dice kV_dice dc_dice pm_dice cd_dice ct_dice : Value} {f_roll : Addr} {od_roll an_roll : Option Addr} {sl_roll : Array (Option Value)} {oc_roll kV_roll dc_roll pm_roll cd_roll ct_roll : Value} {f_one_of : Addr} {od_one_of an_one_of : Option Addr} {sl_one_of : Array (Option Value)} {oc_one_of kV_one_of dc_one_of pm_one_of cd_one_of ct_one_of : Value} {f_kinds : Addr} {od_kinds an_kinds : Option Addr} {sl_kinds : Array (Option Value)} {oc_kinds kV_kinds dc_kinds pm_kinds cd_kinds ct_kinds : Value} {f_right : Addr} {od_right an_right : Option Addr} {sl_right : Array (Option Value)} {oc_right kV_right dc_right pm_right cd_right ct_right : Value} {f_law : Addr} {od_law an_law : Option Addr} {sl_law : Array (Option Value)} {oc_law kV_law dc_law pm_law cd_law ct_law : Value} {C0 : Addr} {C1 : Addr} {C2 : Addr} {C3 : Addr} {C4 : Addr} {C5 : Addr} {C6 : Addr} {C7 : Addr} {C8 : Addr} {C9 : Addr} {C10 : Addr} {nmC10 qC10 : Str} {NC10 : Addr} {bsC10 : List Value} {snC10 : List Str} {subC10 : List Value} {abC10 : Bool} {colC10 : Option Bool} {ddC10 : Option Addr} {x0C10 x1C10 x2C10 x3C10 x5C10 : Option Value} {f_iParseError : Addr} {od_iParseError an_iParseError : Option Addr} {sl_iParseError : Array (Option Value)} {oc_iParseError kV_iParseError dc_iParseError pm_iParseError cd_iParseError ct_iParseError : Value} {C11 : Addr} {nmC11 qC11 : Str} {NC11 : Addr} {bsC11 : List Value} {snC11 : List Str} {subC11 : List Value} {abC11 : Bool} {colC11 : Option Bool} {ddC11 : Option Addr} {x0C11 x1C11 x2C11 x3C11 x5C11 : Option Value} {f_iUnknownName : Addr} {od_iUnknownName an_iUnknownName : Option Addr} {sl_iUnknownName : Array (Option Value)} {oc_iUnknownName kV_iUnknownName dc_iUnknownName pm_iUnknownName cd_iUnknownName ct_iUnknownName : Value} {C12 : Addr} {nmC12 qC12 : Str} {NC12 : Addr} {bsC12 : List Value} {snC12 : List Str} {subC12 : List Value} {abC12 : Bool} {colC12 : Option Bool} {ddC12 : Option Addr} {x0C12 x1C12 x2C12 x3C12 x5C12 : Option Value} {f_iInvalidNumber : Addr} {od_iInvalidNumber an_iInvalidNumber : Option Addr} {sl_iInvalidNumber : Array (Option Value)} {oc_iInvalidNumber kV_iInvalidNumber dc_iInvalidNumber pm_iInvalidNumber cd_iInvalidNumber ct_iInvalidNumber : Value} {C13 : Addr} {nmC13 qC13 : Str} {NC13 : Addr} {bsC13 : List Value} {snC13 : List Str} {subC13 : List Value} {abC13 : Bool} {colC13 : Option Bool} {ddC13 : Option Addr} {x0C13 x1C13 x2C13 x3C13 x5C13 : Option Value} {f_iTooMany : Addr} {od_iTooMany an_iTooMany : Option Addr} {sl_iTooMany : Array (Option Value)} {oc_iTooMany kV_iTooMany dc_iTooMany pm_iTooMany cd_iTooMany ct_iTooMany : Value} {C14 : Addr} {nmC14 qC14 : Str} {NC14 : Addr} {bsC14 : List Value} {snC14 : List Str} {subC14 : List Value} {abC14 : Bool} {colC14 : Option Bool} {ddC14 : Option Addr} {x0C14 x1C14 x2C14 x3C14 x5C14 : Option Value} {f_iNothingToUndo : Addr} {od_iNothingToUndo an_iNothingToUndo : Option Addr} {sl_iNothingToUndo : Array (Option Value)} {oc_iNothingToUndo kV_iNothingToUndo dc_iNothingToUndo pm_iNothingToUndo cd_iNothingToUndo ct_iNothingToUndo : Value} {C15 : Addr} {nmC15 qC15 : Str} {NC15 : Addr} {bsC15 : List Value} {snC15 : List Str} {subC15 : List Value} {abC15 : Bool} {colC15 : Option Bool} {ddC15 : Option Addr} {x0C15 x1C15 x2C15 x3C15 x5C15 : Option Value} {f_iBroken : Addr} {od_iBroken an_iBroken : Option Addr} {sl_iBroken : Array (Option Value)} {oc_iBroken kV_iBroken dc_iBroken pm_iBroken cd_iBroken ct_iBroken : Value}
    (a_ekept : PySem.W.nsIn K mainGlobals "kept" = some (some (.ref f_ekept)))
    (l_ekept : K.lookup f_ekept = some ⟨oc_ekept, od_ekept, .func (PySem.W.fnOf "kept" "kept" (defArgs s_ekept) (defBody s_ekept) (defScope s_ekept) .none kV_ekept dc_ekept pm_ekept an_ekept cd_ekept ct_ekept), sl_ekept⟩)
    (c_ekept : PySem.W.codeIn K cd_ekept "kept" = true)
    (k_ekept : PySem.W.keepIn K (.ref f_ekept) = true)
    (a_dice : PySem.W.nsIn K mainGlobals "_law_dice" = some (some (.ref f_dice)))
    (l_dice : K.lookup f_dice = some ⟨oc_dice, od_dice, .func (PySem.W.fnOf "_law_dice" "_law_dice" (defArgs s_dice) (defBody s_dice) (defScope s_dice) .none kV_dice dc_dice pm_dice an_dice cd_dice ct_dice), sl_dice⟩)
    (c_dice : PySem.W.codeIn K cd_dice "_law_dice" = true)
    (k_dice : PySem.W.keepIn K (.ref f_dice) = true)
    (a_roll : PySem.W.nsIn K mainGlobals "_law_roll" = some (some (.ref f_roll)))
    (l_roll : K.lookup f_roll = some ⟨oc_roll, od_roll, .func (PySem.W.fnOf "_law_roll" "_law_roll" (defArgs s_roll) (defBody s_roll) (defScope s_roll) .none kV_roll dc_roll pm_roll an_roll cd_roll ct_roll), sl_roll⟩)
    (c_roll : PySem.W.codeIn K cd_roll "_law_roll" = true)
    (k_roll : PySem.W.keepIn K (.ref f_roll) = true)
    (a_one_of : PySem.W.nsIn K mainGlobals "_law_one_of" = some (some (.ref f_one_of)))
    (l_one_of : K.lookup f_one_of = some ⟨oc_one_of, od_one_of, .func (PySem.W.fnOf "_law_one_of" "_law_one_of" (defArgs s_one_of) (defBody s_one_of) (defScope s_one_of) .none kV_one_of dc_one_of pm_one_of an_one_of cd_one_of ct_one_of), sl_one_of⟩)
    (c_one_of : PySem.W.codeIn K cd_one_of "_law_one_of" = true)
    (k_one_of : PySem.W.keepIn K (.ref f_one_of) = true)
    (a_kinds : PySem.W.nsIn K mainGlobals "_law_kinds_of" = some (some (.ref f_kinds)))
    (l_kinds : K.lookup f_kinds = some ⟨oc_kinds, od_kinds, .func (PySem.W.fnOf "_law_kinds_of" "_law_kinds_of" (defArgs s_kinds) (defBody s_kinds) (defScope s_kinds) .none kV_kinds dc_kinds pm_kinds an_kinds cd_kinds ct_kinds), sl_kinds⟩)
    (c_kinds : PySem.W.codeIn K cd_kinds "_law_kinds_of" = true)
    (k_kinds : PySem.W.keepIn K (.ref f_kinds) = true)
    (a_right : PySem.W.nsIn K mainGlobals "_law_right" = some (some (.ref f_right)))
    (l_right : K.lookup f_right = some ⟨oc_right, od_right, .func (PySem.W.fnOf "_law_right" "_law_right" (defArgs s_right) (defBody s_right) (defScope s_right) .none kV_right dc_right pm_right an_right cd_right ct_right), sl_right⟩)
    (c_right : PySem.W.codeIn K cd_right "_law_right" = true)
    (k_right : PySem.W.keepIn K (.ref f_right) = true)
    (a_law : PySem.W.nsIn K mainGlobals "law" = some (some (.ref f_law)))
    (l_law : K.lookup f_law = some ⟨oc_law, od_law, .func (PySem.W.fnOf "law" "law" (defArgs s_law) (defBody s_law) (defScope s_law) .none kV_law dc_law pm_law an_law cd_law ct_law), sl_law⟩)
    (c_law : PySem.W.codeIn K cd_law "law" = true)
    (k_law : PySem.W.keepIn K (.ref f_law) = true)
    (aC0 : PySem.W.nsIn K mainGlobals "LetterError" = some (some (.ref C0)))
    (C0x : PySem.W.excIn K C0 [.type "ValueError", .type "Exception", .type "BaseException", .type "object"] "ValueError.__new__" = true)
    (C0k : PySem.W.keepIn K (.ref C0) = true)
    (C0ex : PySem.W.subIn K (.ref C0) (.type "BaseException") = some true)
    (C0ga : PySem.W.findIn K (.ref C0) "__getattribute__" = some (some (.builtin "BaseException.__getattribute__")))
    (C0gg : PySem.W.findIn K (.ref C0) "__getattr__" = some none)
    (C0hd : PySem.W.hasDictIn K C0 = true)
    (C0c : PySem.W.findIn K (.ref C0) "__class__" = some (some (.builtin "object.__class__")))
    (C0m : PySem.W.mroIn K C0 (.type "object") = some true)
    (aC1 : PySem.W.nsIn K mainGlobals "InvalidCutter" = some (some (.ref C1)))
    (C1x : PySem.W.excIn K C1 [.type "ValueError", .type "Exception", .type "BaseException", .type "object"] "ValueError.__new__" = true)
    (C1k : PySem.W.keepIn K (.ref C1) = true)
    (C1ex : PySem.W.subIn K (.ref C1) (.type "BaseException") = some true)
    (C1ga : PySem.W.findIn K (.ref C1) "__getattribute__" = some (some (.builtin "BaseException.__getattribute__")))
    (C1gg : PySem.W.findIn K (.ref C1) "__getattr__" = some none)
    (C1hd : PySem.W.hasDictIn K C1 = true)
    (C1c : PySem.W.findIn K (.ref C1) "__class__" = some (some (.builtin "object.__class__")))
    (C1m : PySem.W.mroIn K C1 (.type "object") = some true)
    (aC2 : PySem.W.nsIn K mainGlobals "InvalidCompany" = some (some (.ref C2)))
    (C2x : PySem.W.excIn K C2 [.type "ValueError", .type "Exception", .type "BaseException", .type "object"] "ValueError.__new__" = true)
    (C2k : PySem.W.keepIn K (.ref C2) = true)
    (C2ex : PySem.W.subIn K (.ref C2) (.type "BaseException") = some true)
    (C2ga : PySem.W.findIn K (.ref C2) "__getattribute__" = some (some (.builtin "BaseException.__getattribute__")))
    (C2gg : PySem.W.findIn K (.ref C2) "__getattr__" = some none)
    (C2hd : PySem.W.hasDictIn K C2 = true)
    (C2c : PySem.W.findIn K (.ref C2) "__class__" = some (some (.builtin "object.__class__")))
    (C2m : PySem.W.mroIn K C2 (.type "object") = some true)
    (aC3 : PySem.W.nsIn K mainGlobals "InvalidBundle" = some (some (.ref C3)))
    (C3x : PySem.W.excIn K C3 [.type "ValueError", .type "Exception", .type "BaseException", .type "object"] "ValueError.__new__" = true)
    (C3k : PySem.W.keepIn K (.ref C3) = true)
    (C3ex : PySem.W.subIn K (.ref C3) (.type "BaseException") = some true)
    (C3ga : PySem.W.findIn K (.ref C3) "__getattribute__" = some (some (.builtin "BaseException.__getattribute__")))
    (C3gg : PySem.W.findIn K (.ref C3) "__getattr__" = some none)
    (C3hd : PySem.W.hasDictIn K C3 = true)
    (C3c : PySem.W.findIn K (.ref C3) "__class__" = some (some (.builtin "object.__class__")))
    (C3m : PySem.W.mroIn K C3 (.type "object") = some true)
    (aC4 : PySem.W.nsIn K mainGlobals "InvalidRule" = some (some (.ref C4)))
    (C4x : PySem.W.excIn K C4 [.type "ValueError", .type "Exception", .type "BaseException", .type "object"] "ValueError.__new__" = true)
    (C4k : PySem.W.keepIn K (.ref C4) = true)
    (C4ex : PySem.W.subIn K (.ref C4) (.type "BaseException") = some true)
    (C4ga : PySem.W.findIn K (.ref C4) "__getattribute__" = some (some (.builtin "BaseException.__getattribute__")))
    (C4gg : PySem.W.findIn K (.ref C4) "__getattr__" = some none)
    (C4hd : PySem.W.hasDictIn K C4 = true)
    (C4c : PySem.W.findIn K (.ref C4) "__class__" = some (some (.builtin "object.__class__")))
    (C4m : PySem.W.mroIn K C4 (.type "object") = some true)
    (aC5 : PySem.W.nsIn K mainGlobals "InvalidLot" = some (some (.ref C5)))
    (C5x : PySem.W.excIn K C5 [.type "ValueError", .type "Exception", .type "BaseException", .type "object"] "ValueError.__new__" = true)
    (C5k : PySem.W.keepIn K (.ref C5) = true)
    (C5ex : PySem.W.subIn K (.ref C5) (.type "BaseException") = some true)
    (C5ga : PySem.W.findIn K (.ref C5) "__getattribute__" = some (some (.builtin "BaseException.__getattribute__")))
    (C5gg : PySem.W.findIn K (.ref C5) "__getattr__" = some none)
    (C5hd : PySem.W.hasDictIn K C5 = true)
    (C5c : PySem.W.findIn K (.ref C5) "__class__" = some (some (.builtin "object.__class__")))
    (C5m : PySem.W.mroIn K C5 (.type "object") = some true)
    (aC6 : PySem.W.nsIn K mainGlobals "InvalidState" = some (some (.ref C6)))
    (C6x : PySem.W.excIn K C6 [.type "ValueError", .type "Exception", .type "BaseException", .type "object"] "ValueError.__new__" = true)
    (C6k : PySem.W.keepIn K (.ref C6) = true)
    (C6ex : PySem.W.subIn K (.ref C6) (.type "BaseException") = some true)
    (C6ga : PySem.W.findIn K (.ref C6) "__getattribute__" = some (some (.builtin "BaseException.__getattribute__")))
    (C6gg : PySem.W.findIn K (.ref C6) "__getattr__" = some none)
    (C6hd : PySem.W.hasDictIn K C6 = true)
    (C6c : PySem.W.findIn K (.ref C6) "__class__" = some (some (.builtin "object.__class__")))
    (C6m : PySem.W.mroIn K C6 (.type "object") = some true)
    (aC7 : PySem.W.nsIn K mainGlobals "InvalidLetter" = some (some (.ref C7)))
    (C7x : PySem.W.excIn K C7 [.type "ValueError", .type "Exception", .type "BaseException", .type "object"] "ValueError.__new__" = true)
    (C7k : PySem.W.keepIn K (.ref C7) = true)
    (C7ex : PySem.W.subIn K (.ref C7) (.type "BaseException") = some true)
    (C7ga : PySem.W.findIn K (.ref C7) "__getattribute__" = some (some (.builtin "BaseException.__getattribute__")))
    (C7gg : PySem.W.findIn K (.ref C7) "__getattr__" = some none)
    (C7hd : PySem.W.hasDictIn K C7 = true)
    (C7c : PySem.W.findIn K (.ref C7) "__class__" = some (some (.builtin "object.__class__")))
    (C7m : PySem.W.mroIn K C7 (.type "object") = some true)
    (aC8 : PySem.W.nsIn K mainGlobals "InvalidPledge" = some (some (.ref C8)))
    (C8x : PySem.W.excIn K C8 [.type "ValueError", .type "Exception", .type "BaseException", .type "object"] "ValueError.__new__" = true)
    (C8k : PySem.W.keepIn K (.ref C8) = true)
    (C8ex : PySem.W.subIn K (.ref C8) (.type "BaseException") = some true)
    (C8ga : PySem.W.findIn K (.ref C8) "__getattribute__" = some (some (.builtin "BaseException.__getattribute__")))
    (C8gg : PySem.W.findIn K (.ref C8) "__getattr__" = some none)
    (C8hd : PySem.W.hasDictIn K C8 = true)
    (C8c : PySem.W.findIn K (.ref C8) "__class__" = some (some (.builtin "object.__class__")))
    (C8m : PySem.W.mroIn K C8 (.type "object") = some true)
    (aC9 : PySem.W.nsIn K mainGlobals "InvalidOperation" = some (some (.ref C9)))
    (C9x : PySem.W.excIn K C9 [.type "ValueError", .type "Exception", .type "BaseException", .type "object"] "ValueError.__new__" = true)
    (C9k : PySem.W.keepIn K (.ref C9) = true)
    (C9ex : PySem.W.subIn K (.ref C9) (.type "BaseException") = some true)
    (C9ga : PySem.W.findIn K (.ref C9) "__getattribute__" = some (some (.builtin "BaseException.__getattribute__")))
    (C9gg : PySem.W.findIn K (.ref C9) "__getattr__" = some none)
    (C9hd : PySem.W.hasDictIn K C9 = true)
    (C9c : PySem.W.findIn K (.ref C9) "__class__" = some (some (.builtin "object.__class__")))
    (C9m : PySem.W.mroIn K C9 (.type "object") = some true)
    (aC10 : PySem.W.nsIn K mainGlobals "ParseError" = some (some (.ref C10)))
    (C10l : K.lookup C10 = some (excClassObj nmC10 qC10 C10 NC10 bsC10 [.ref C0, .type "ValueError", .type "Exception", .type "BaseException", .type "object"] true snC10 subC10 abC10 colC10 ddC10 x0C10 x1C10 x2C10 x3C10 x5C10 "ValueError.__new__"))
    (C10sa : PySem.W.findIn K (.ref C10) "__setattr__" = some (some (.builtin "object.__setattr__")))
    (C10ex : PySem.W.subIn K (.ref C10) (.type "BaseException") = some true)
    (C10ty : PySem.W.typeIn K (.ref C10) = some (.type "type"))
    (C10k : PySem.W.keepIn K (.ref C10) = true)
    (C10ga : PySem.W.findIn K (.ref C10) "__getattribute__" = some (some (.builtin "BaseException.__getattribute__")))
    (C10gg : PySem.W.findIn K (.ref C10) "__getattr__" = some none)
    (C10hd : PySem.W.hasDictIn K C10 = true)
    (C10ic : PySem.W.isClsIn K C10 = true)
    (C10ss : PySem.W.subIn K (.ref C10) (.ref C10) = some true)
    (C10fline : PySem.W.findIn K (.ref C10) "line" = some none)
    (C10i : PySem.W.findIn K (.ref C10) "__init__" = some (some (.ref f_iParseError)))
    (C10it : PySem.W.typeIn K (.ref f_iParseError) = some (.type "function"))
    (l_iParseError : K.lookup f_iParseError = some ⟨oc_iParseError, od_iParseError, .func (PySem.W.fnOf "__init__" "ParseError.__init__" (defArgs s_iParseError) (defBody s_iParseError) (defScope s_iParseError) .none kV_iParseError dc_iParseError pm_iParseError an_iParseError cd_iParseError ct_iParseError), sl_iParseError⟩)
    (c_iParseError : PySem.W.codeIn K cd_iParseError "ParseError.__init__" = true)
    (k_iParseError : PySem.W.keepIn K (.ref f_iParseError) = true)
    (C10c : PySem.W.findIn K (.ref C10) "__class__" = some (some (.builtin "object.__class__")))
    (C10m : PySem.W.mroIn K C10 (.type "object") = some true)
    (aC11 : PySem.W.nsIn K mainGlobals "UnknownName" = some (some (.ref C11)))
    (C11l : K.lookup C11 = some (excClassObj nmC11 qC11 C11 NC11 bsC11 [.type "KeyError", .type "LookupError", .type "Exception", .type "BaseException", .type "object"] true snC11 subC11 abC11 colC11 ddC11 x0C11 x1C11 x2C11 x3C11 x5C11 "LookupError.__new__"))
    (C11sa : PySem.W.findIn K (.ref C11) "__setattr__" = some (some (.builtin "object.__setattr__")))
    (C11ex : PySem.W.subIn K (.ref C11) (.type "BaseException") = some true)
    (C11ty : PySem.W.typeIn K (.ref C11) = some (.type "type"))
    (C11k : PySem.W.keepIn K (.ref C11) = true)
    (C11ga : PySem.W.findIn K (.ref C11) "__getattribute__" = some (some (.builtin "BaseException.__getattribute__")))
    (C11gg : PySem.W.findIn K (.ref C11) "__getattr__" = some none)
    (C11hd : PySem.W.hasDictIn K C11 = true)
    (C11ic : PySem.W.isClsIn K C11 = true)
    (C11ss : PySem.W.subIn K (.ref C11) (.ref C11) = some true)
    (C11fname : PySem.W.findIn K (.ref C11) "name" = some none)
    (C11i : PySem.W.findIn K (.ref C11) "__init__" = some (some (.ref f_iUnknownName)))
    (C11it : PySem.W.typeIn K (.ref f_iUnknownName) = some (.type "function"))
    (l_iUnknownName : K.lookup f_iUnknownName = some ⟨oc_iUnknownName, od_iUnknownName, .func (PySem.W.fnOf "__init__" "UnknownName.__init__" (defArgs s_iUnknownName) (defBody s_iUnknownName) (defScope s_iUnknownName) .none kV_iUnknownName dc_iUnknownName pm_iUnknownName an_iUnknownName cd_iUnknownName ct_iUnknownName), sl_iUnknownName⟩)
    (c_iUnknownName : PySem.W.codeIn K cd_iUnknownName "UnknownName.__init__" = true)
    (k_iUnknownName : PySem.W.keepIn K (.ref f_iUnknownName) = true)
    (C11c : PySem.W.findIn K (.ref C11) "__class__" = some (some (.builtin "object.__class__")))
    (C11m : PySem.W.mroIn K C11 (.type "object") = some true)
    (aC12 : PySem.W.nsIn K mainGlobals "InvalidNumber" = some (some (.ref C12)))
    (C12l : K.lookup C12 = some (excClassObj nmC12 qC12 C12 NC12 bsC12 [.type "RuntimeError", .type "Exception", .type "BaseException", .type "object"] true snC12 subC12 abC12 colC12 ddC12 x0C12 x1C12 x2C12 x3C12 x5C12 "RuntimeError.__new__"))
    (C12sa : PySem.W.findIn K (.ref C12) "__setattr__" = some (some (.builtin "object.__setattr__")))
    (C12ex : PySem.W.subIn K (.ref C12) (.type "BaseException") = some true)
    (C12ty : PySem.W.typeIn K (.ref C12) = some (.type "type"))
    (C12k : PySem.W.keepIn K (.ref C12) = true)
    (C12ga : PySem.W.findIn K (.ref C12) "__getattribute__" = some (some (.builtin "BaseException.__getattribute__")))
    (C12gg : PySem.W.findIn K (.ref C12) "__getattr__" = some none)
    (C12hd : PySem.W.hasDictIn K C12 = true)
    (C12ic : PySem.W.isClsIn K C12 = true)
    (C12ss : PySem.W.subIn K (.ref C12) (.ref C12) = some true)
    (C12fvalue : PySem.W.findIn K (.ref C12) "value" = some none)
    (C12i : PySem.W.findIn K (.ref C12) "__init__" = some (some (.ref f_iInvalidNumber)))
    (C12it : PySem.W.typeIn K (.ref f_iInvalidNumber) = some (.type "function"))
    (l_iInvalidNumber : K.lookup f_iInvalidNumber = some ⟨oc_iInvalidNumber, od_iInvalidNumber, .func (PySem.W.fnOf "__init__" "InvalidNumber.__init__" (defArgs s_iInvalidNumber) (defBody s_iInvalidNumber) (defScope s_iInvalidNumber) .none kV_iInvalidNumber dc_iInvalidNumber pm_iInvalidNumber an_iInvalidNumber cd_iInvalidNumber ct_iInvalidNumber), sl_iInvalidNumber⟩)
    (c_iInvalidNumber : PySem.W.codeIn K cd_iInvalidNumber "InvalidNumber.__init__" = true)
    (k_iInvalidNumber : PySem.W.keepIn K (.ref f_iInvalidNumber) = true)
    (C12c : PySem.W.findIn K (.ref C12) "__class__" = some (some (.builtin "object.__class__")))
    (C12m : PySem.W.mroIn K C12 (.type "object") = some true)
    (aC13 : PySem.W.nsIn K mainGlobals "TooMany" = some (some (.ref C13)))
    (C13l : K.lookup C13 = some (excClassObj nmC13 qC13 C13 NC13 bsC13 [.type "OverflowError", .type "ArithmeticError", .type "Exception", .type "BaseException", .type "object"] true snC13 subC13 abC13 colC13 ddC13 x0C13 x1C13 x2C13 x3C13 x5C13 "OverflowError.__new__"))
    (C13sa : PySem.W.findIn K (.ref C13) "__setattr__" = some (some (.builtin "object.__setattr__")))
    (C13ex : PySem.W.subIn K (.ref C13) (.type "BaseException") = some true)
    (C13ty : PySem.W.typeIn K (.ref C13) = some (.type "type"))
    (C13k : PySem.W.keepIn K (.ref C13) = true)
    (C13ga : PySem.W.findIn K (.ref C13) "__getattribute__" = some (some (.builtin "BaseException.__getattribute__")))
    (C13gg : PySem.W.findIn K (.ref C13) "__getattr__" = some none)
    (C13hd : PySem.W.hasDictIn K C13 = true)
    (C13ic : PySem.W.isClsIn K C13 = true)
    (C13ss : PySem.W.subIn K (.ref C13) (.ref C13) = some true)
    (C13flimit : PySem.W.findIn K (.ref C13) "limit" = some none)
    (C13i : PySem.W.findIn K (.ref C13) "__init__" = some (some (.ref f_iTooMany)))
    (C13it : PySem.W.typeIn K (.ref f_iTooMany) = some (.type "function"))
    (l_iTooMany : K.lookup f_iTooMany = some ⟨oc_iTooMany, od_iTooMany, .func (PySem.W.fnOf "__init__" "TooMany.__init__" (defArgs s_iTooMany) (defBody s_iTooMany) (defScope s_iTooMany) .none kV_iTooMany dc_iTooMany pm_iTooMany an_iTooMany cd_iTooMany ct_iTooMany), sl_iTooMany⟩)
    (c_iTooMany : PySem.W.codeIn K cd_iTooMany "TooMany.__init__" = true)
    (k_iTooMany : PySem.W.keepIn K (.ref f_iTooMany) = true)
    (C13c : PySem.W.findIn K (.ref C13) "__class__" = some (some (.builtin "object.__class__")))
    (C13m : PySem.W.mroIn K C13 (.type "object") = some true)
    (aC14 : PySem.W.nsIn K mainGlobals "NothingToUndo" = some (some (.ref C14)))
    (C14l : K.lookup C14 = some (excClassObj nmC14 qC14 C14 NC14 bsC14 [.type "IndexError", .type "LookupError", .type "Exception", .type "BaseException", .type "object"] true snC14 subC14 abC14 colC14 ddC14 x0C14 x1C14 x2C14 x3C14 x5C14 "IndexError.__new__"))
    (C14sa : PySem.W.findIn K (.ref C14) "__setattr__" = some (some (.builtin "object.__setattr__")))
    (C14ex : PySem.W.subIn K (.ref C14) (.type "BaseException") = some true)
    (C14ty : PySem.W.typeIn K (.ref C14) = some (.type "type"))
    (C14k : PySem.W.keepIn K (.ref C14) = true)
    (C14ga : PySem.W.findIn K (.ref C14) "__getattribute__" = some (some (.builtin "BaseException.__getattribute__")))
    (C14gg : PySem.W.findIn K (.ref C14) "__getattr__" = some none)
    (C14hd : PySem.W.hasDictIn K C14 = true)
    (C14ic : PySem.W.isClsIn K C14 = true)
    (C14ss : PySem.W.subIn K (.ref C14) (.ref C14) = some true)
    (C14fmany : PySem.W.findIn K (.ref C14) "many" = some none)
    (C14i : PySem.W.findIn K (.ref C14) "__init__" = some (some (.ref f_iNothingToUndo)))
    (C14it : PySem.W.typeIn K (.ref f_iNothingToUndo) = some (.type "function"))
    (l_iNothingToUndo : K.lookup f_iNothingToUndo = some ⟨oc_iNothingToUndo, od_iNothingToUndo, .func (PySem.W.fnOf "__init__" "NothingToUndo.__init__" (defArgs s_iNothingToUndo) (defBody s_iNothingToUndo) (defScope s_iNothingToUndo) .none kV_iNothingToUndo dc_iNothingToUndo pm_iNothingToUndo an_iNothingToUndo cd_iNothingToUndo ct_iNothingToUndo), sl_iNothingToUndo⟩)
    (c_iNothingToUndo : PySem.W.codeIn K cd_iNothingToUndo "NothingToUndo.__init__" = true)
    (k_iNothingToUndo : PySem.W.keepIn K (.ref f_iNothingToUndo) = true)
    (C14c : PySem.W.findIn K (.ref C14) "__class__" = some (some (.builtin "object.__class__")))
    (C14m : PySem.W.mroIn K C14 (.type "object") = some true)
    (aC15 : PySem.W.nsIn K mainGlobals "Broken" = some (some (.ref C15)))
    (C15l : K.lookup C15 = some (excClassObj nmC15 qC15 C15 NC15 bsC15 [.type "ArithmeticError", .type "Exception", .type "BaseException", .type "object"] true snC15 subC15 abC15 colC15 ddC15 x0C15 x1C15 x2C15 x3C15 x5C15 "ArithmeticError.__new__"))
    (C15sa : PySem.W.findIn K (.ref C15) "__setattr__" = some (some (.builtin "object.__setattr__")))
    (C15ex : PySem.W.subIn K (.ref C15) (.type "BaseException") = some true)
    (C15ty : PySem.W.typeIn K (.ref C15) = some (.type "type"))
    (C15k : PySem.W.keepIn K (.ref C15) = true)
    (C15ga : PySem.W.findIn K (.ref C15) "__getattribute__" = some (some (.builtin "BaseException.__getattribute__")))
    (C15gg : PySem.W.findIn K (.ref C15) "__getattr__" = some none)
    (C15hd : PySem.W.hasDictIn K C15 = true)
    (C15ic : PySem.W.isClsIn K C15 = true)
    (C15ss : PySem.W.subIn K (.ref C15) (.ref C15) = some true)
    (C15fname : PySem.W.findIn K (.ref C15) "name" = some none)
    (C15freason : PySem.W.findIn K (.ref C15) "reason" = some none)
    (C15i : PySem.W.findIn K (.ref C15) "__init__" = some (some (.ref f_iBroken)))
    (C15it : PySem.W.typeIn K (.ref f_iBroken) = some (.type "function"))
    (l_iBroken : K.lookup f_iBroken = some ⟨oc_iBroken, od_iBroken, .func (PySem.W.fnOf "__init__" "Broken.__init__" (defArgs s_iBroken) (defBody s_iBroken) (defScope s_iBroken) .none kV_iBroken dc_iBroken pm_iBroken an_iBroken cd_iBroken ct_iBroken), sl_iBroken⟩)
    (c_iBroken : PySem.W.codeIn K cd_iBroken "Broken.__init__" = true)
    (k_iBroken : PySem.W.keepIn K (.ref f_iBroken) = true)
    (C15c : PySem.W.findIn K (.ref C15) "__class__" = some (some (.builtin "object.__class__")))
    (C15m : PySem.W.mroIn K C15 (.type "object") = some true)
    (oc1 : PySem.W.specialIn K (.builtin "object.__class__") "__get__" = some (some (.builtin "getset_descriptor.__get__")))
    (oc2 : PySem.W.takesIn K (.builtin "object.__class__") = some true)
    (C0q : (tgts (ccf [C0, C1, C2, C3, C4, C5, C6, C7, C8, C9, C10, C11, C12, C13, C14, C15])).map (PySem.W.kitOne K (.ref C0)) = (List.range 23).map fun i => some (tab 0 i))
    (C1q : (tgts (ccf [C0, C1, C2, C3, C4, C5, C6, C7, C8, C9, C10, C11, C12, C13, C14, C15])).map (PySem.W.kitOne K (.ref C1)) = (List.range 23).map fun i => some (tab 1 i))
    (C2q : (tgts (ccf [C0, C1, C2, C3, C4, C5, C6, C7, C8, C9, C10, C11, C12, C13, C14, C15])).map (PySem.W.kitOne K (.ref C2)) = (List.range 23).map fun i => some (tab 2 i))
    (C3q : (tgts (ccf [C0, C1, C2, C3, C4, C5, C6, C7, C8, C9, C10, C11, C12, C13, C14, C15])).map (PySem.W.kitOne K (.ref C3)) = (List.range 23).map fun i => some (tab 3 i))
    (C4q : (tgts (ccf [C0, C1, C2, C3, C4, C5, C6, C7, C8, C9, C10, C11, C12, C13, C14, C15])).map (PySem.W.kitOne K (.ref C4)) = (List.range 23).map fun i => some (tab 4 i))
    (C5q : (tgts (ccf [C0, C1, C2, C3, C4, C5, C6, C7, C8, C9, C10, C11, C12, C13, C14, C15])).map (PySem.W.kitOne K (.ref C5)) = (List.range 23).map fun i => some (tab 5 i))
    (C6q : (tgts (ccf [C0, C1, C2, C3, C4, C5, C6, C7, C8, C9, C10, C11, C12, C13, C14, C15])).map (PySem.W.kitOne K (.ref C6)) = (List.range 23).map fun i => some (tab 6 i))
    (C7q : (tgts (ccf [C0, C1, C2, C3, C4, C5, C6, C7, C8, C9, C10, C11, C12, C13, C14, C15])).map (PySem.W.kitOne K (.ref C7)) = (List.range 23).map fun i => some (tab 7 i))
    (C8q : (tgts (ccf [C0, C1, C2, C3, C4, C5, C6, C7, C8, C9, C10, C11, C12, C13, C14, C15])).map (PySem.W.kitOne K (.ref C8)) = (List.range 23).map fun i => some (tab 8 i))
    (C9q : (tgts (ccf [C0, C1, C2, C3, C4, C5, C6, C7, C8, C9, C10, C11, C12, C13, C14, C15])).map (PySem.W.kitOne K (.ref C9)) = (List.range 23).map fun i => some (tab 9 i))
    (C10q : (tgts (ccf [C0, C1, C2, C3, C4, C5, C6, C7, C8, C9, C10, C11, C12, C13, C14, C15])).map (PySem.W.kitOne K (.ref C10)) = (List.range 23).map fun i => some (tab 10 i))
    (C11q : (tgts (ccf [C0, C1, C2, C3, C4, C5, C6, C7, C8, C9, C10, C11, C12, C13, C14, C15])).map (PySem.W.kitOne K (.ref C11)) = (List.range 23).map fun i => some (tab 11 i))
    (C12q : (tgts (ccf [C0, C1, C2, C3, C4, C5, C6, C7, C8, C9, C10, C11, C12, C13, C14, C15])).map (PySem.W.kitOne K (.ref C12)) = (List.range 23).map fun i => some (tab 12 i))
    (C13q : (tgts (ccf [C0, C1, C2, C3, C4, C5, C6, C7, C8, C9, C10, C11, C12, C13, C14, C15])).map (PySem.W.kitOne K (.ref C13)) = (List.range 23).map fun i => some (tab 13 i))
    (C14q : (tgts (ccf [C0, C1, C2, C3, C4, C5, C6, C7, C8, C9, C10, C11, C12, C13, C14, C15])).map (PySem.W.kitOne K (.ref C14)) = (List.range 23).map fun i => some (tab 14 i))
    (C15q : (tgts (ccf [C0, C1, C2, C3, C4, C5, C6, C7, C8, C9, C10, C11, C12, C13, C14, C15])).map (PySem.W.kitOne K (.ref C15)) = (List.range 23).map fun i => some (tab 15 i))
    (z_len : PySem.W.nsIn K mainGlobals "len" = some none)
    (z_int : PySem.W.nsIn K mainGlobals "int" = some none)
    (z_abs : PySem.W.nsIn K mainGlobals "abs" = some none)
    (z_max : PySem.W.nsIn K mainGlobals "max" = some none)
    (z_min : PySem.W.nsIn K mainGlobals "min" = some none)
    (z_range : PySem.W.nsIn K mainGlobals "range" = some none)
    (z_isinstance : PySem.W.nsIn K mainGlobals "isinstance" = some none)
    (z_str : PySem.W.nsIn K mainGlobals "str" = some none)
    (z_repr : PySem.W.nsIn K mainGlobals "repr" = some none)
    (z_list : PySem.W.nsIn K mainGlobals "list" = some none)
    (z_tuple : PySem.W.nsIn K mainGlobals "tuple" = some none)
    (z_dict : PySem.W.nsIn K mainGlobals "dict" = some none)
    (z_enumerate : PySem.W.nsIn K mainGlobals "enumerate" = some none)
    (z_ValueError : PySem.W.nsIn K mainGlobals "ValueError" = some none)
    (z_KeyError : PySem.W.nsIn K mainGlobals "KeyError" = some none)
    (z_RuntimeError : PySem.W.nsIn K mainGlobals "RuntimeError" = some none)
    (z_OverflowError : PySem.W.nsIn K mainGlobals "OverflowError" = some none)
    (z_IndexError : PySem.W.nsIn K mainGlobals "IndexError" = some none)
    (z_ArithmeticError : PySem.W.nsIn K mainGlobals "ArithmeticError" = some none)
    (z_LookupError : PySem.W.nsIn K mainGlobals "LookupError" = some none) :
    ∀ base : Heap, K.In base → base.Ns mainGlobals mg → FnG l.prog w K mg base CX0 6 fa (spLaw K) := by
  have e := hfa.symm.trans (PySem.W.mg_of X G a_law)
  cases e
  have Z : Zs mg := ⟨PySem.W.mg_none_of X G z_len, PySem.W.mg_none_of X G z_int, PySem.W.mg_none_of X G z_abs, PySem.W.mg_none_of X G z_max, PySem.W.mg_none_of X G z_min, PySem.W.mg_none_of X G z_range, PySem.W.mg_none_of X G z_isinstance, PySem.W.mg_none_of X G z_str, PySem.W.mg_none_of X G z_repr, PySem.W.mg_none_of X G z_list, PySem.W.mg_none_of X G z_tuple, PySem.W.mg_none_of X G z_dict, PySem.W.mg_none_of X G z_enumerate, PySem.W.mg_none_of X G z_ValueError, PySem.W.mg_none_of X G z_KeyError, PySem.W.mg_none_of X G z_RuntimeError, PySem.W.mg_none_of X G z_OverflowError, PySem.W.mg_none_of X G z_IndexError, PySem.W.mg_none_of X G z_ArithmeticError, PySem.W.mg_none_of X G z_LookupError⟩
  have F_ekept := fun_mk (st := s_ekept) l_ekept c_ekept k_ekept
  have D_ekept : Df K mg "kept" s_ekept P_ekept f_ekept _ := ⟨F_ekept, F_ekept.binds (ps := P_ekept) fun _ _ _ _ _ _ us hl => match us, hl with | [_], _ => rfl, PySem.W.mg_of X G a_ekept⟩
  have F_dice := fun_mk (st := s_dice) l_dice c_dice k_dice
  have D_dice : Df K mg "_law_dice" s_dice P_dice f_dice _ := ⟨F_dice, F_dice.binds (ps := P_dice) fun _ _ _ _ _ _ us hl => match us, hl with | [_, _], _ => rfl, PySem.W.mg_of X G a_dice⟩
  have F_roll := fun_mk (st := s_roll) l_roll c_roll k_roll
  have D_roll : Df K mg "_law_roll" s_roll P_roll f_roll _ := ⟨F_roll, F_roll.binds (ps := P_roll) fun _ _ _ _ _ _ us hl => match us, hl with | [_, _], _ => rfl, PySem.W.mg_of X G a_roll⟩
  have F_one_of := fun_mk (st := s_one_of) l_one_of c_one_of k_one_of
  have D_one_of : Df K mg "_law_one_of" s_one_of P_one_of f_one_of _ := ⟨F_one_of, F_one_of.binds (ps := P_one_of) fun _ _ _ _ _ _ us hl => match us, hl with | [_, _], _ => rfl, PySem.W.mg_of X G a_one_of⟩
  have F_kinds := fun_mk (st := s_kinds) l_kinds c_kinds k_kinds
  have D_kinds : Df K mg "_law_kinds_of" s_kinds P_kinds f_kinds _ := ⟨F_kinds, F_kinds.binds (ps := P_kinds) fun _ _ _ _ _ _ us hl => match us, hl with | [_], _ => rfl, PySem.W.mg_of X G a_kinds⟩
  have F_right := fun_mk (st := s_right) l_right c_right k_right
  have D_right : Df K mg "_law_right" s_right P_right f_right _ := ⟨F_right, F_right.binds (ps := P_right) fun _ _ _ _ _ _ us hl => match us, hl with | [_, _], _ => rfl, PySem.W.mg_of X G a_right⟩
  have F_law := fun_mk (st := s_law) l_law c_law k_law
  have D_law : Df K mg "law" s_law P_law fa _ := ⟨F_law, F_law.binds (ps := P_law) fun _ _ _ _ _ _ us hl => match us, hl with | [_], _ => rfl, PySem.W.mg_of X G a_law⟩
  have F_iParseError := fun_mk (st := s_iParseError) l_iParseError c_iParseError k_iParseError
  have D_iParseError : Dm K "__init__" "ParseError.__init__" s_iParseError P_iParseError f_iParseError _ := ⟨F_iParseError, F_iParseError.binds (ps := P_iParseError) fun _ _ _ _ _ _ us hl => match us, hl with | [_, _], _ => rfl⟩
  have F_iUnknownName := fun_mk (st := s_iUnknownName) l_iUnknownName c_iUnknownName k_iUnknownName
  have D_iUnknownName : Dm K "__init__" "UnknownName.__init__" s_iUnknownName P_iUnknownName f_iUnknownName _ := ⟨F_iUnknownName, F_iUnknownName.binds (ps := P_iUnknownName) fun _ _ _ _ _ _ us hl => match us, hl with | [_, _], _ => rfl⟩
  have F_iInvalidNumber := fun_mk (st := s_iInvalidNumber) l_iInvalidNumber c_iInvalidNumber k_iInvalidNumber
  have D_iInvalidNumber : Dm K "__init__" "InvalidNumber.__init__" s_iInvalidNumber P_iInvalidNumber f_iInvalidNumber _ := ⟨F_iInvalidNumber, F_iInvalidNumber.binds (ps := P_iInvalidNumber) fun _ _ _ _ _ _ us hl => match us, hl with | [_, _], _ => rfl⟩
  have F_iTooMany := fun_mk (st := s_iTooMany) l_iTooMany c_iTooMany k_iTooMany
  have D_iTooMany : Dm K "__init__" "TooMany.__init__" s_iTooMany P_iTooMany f_iTooMany _ := ⟨F_iTooMany, F_iTooMany.binds (ps := P_iTooMany) fun _ _ _ _ _ _ us hl => match us, hl with | [_, _], _ => rfl⟩
  have F_iNothingToUndo := fun_mk (st := s_iNothingToUndo) l_iNothingToUndo c_iNothingToUndo k_iNothingToUndo
  have D_iNothingToUndo : Dm K "__init__" "NothingToUndo.__init__" s_iNothingToUndo P_iNothingToUndo f_iNothingToUndo _ := ⟨F_iNothingToUndo, F_iNothingToUndo.binds (ps := P_iNothingToUndo) fun _ _ _ _ _ _ us hl => match us, hl with | [_, _], _ => rfl⟩
  have F_iBroken := fun_mk (st := s_iBroken) l_iBroken c_iBroken k_iBroken
  have D_iBroken : Dm K "__init__" "Broken.__init__" s_iBroken P_iBroken f_iBroken _ := ⟨F_iBroken, F_iBroken.binds (ps := P_iBroken) fun _ _ _ _ _ _ us hl => match us, hl with | [_, _, _], _ => rfl⟩
  intro base _ _
  have Y : Ys mg (ccf [C0, C1, C2, C3, C4, C5, C6, C7, C8, C9, C10, C11, C12, C13, C14, C15]) := ⟨PySem.W.mg_of X G aC0, PySem.W.mg_of X G aC1, PySem.W.mg_of X G aC2, PySem.W.mg_of X G aC3, PySem.W.mg_of X G aC4, PySem.W.mg_of X G aC5, PySem.W.mg_of X G aC6, PySem.W.mg_of X G aC7, PySem.W.mg_of X G aC8, PySem.W.mg_of X G aC9, PySem.W.mg_of X G aC10, PySem.W.mg_of X G aC11, PySem.W.mg_of X G aC12, PySem.W.mg_of X G aC13, PySem.W.mg_of X G aC14, PySem.W.mg_of X G aC15⟩
  have ec0 : ExcC K C0 := ⟨C0ga, C0gg, C0ex, C0hd, C0c, oc1, oc2, C0m⟩
  have ec1 : ExcC K C1 := ⟨C1ga, C1gg, C1ex, C1hd, C1c, oc1, oc2, C1m⟩
  have ec2 : ExcC K C2 := ⟨C2ga, C2gg, C2ex, C2hd, C2c, oc1, oc2, C2m⟩
  have ec3 : ExcC K C3 := ⟨C3ga, C3gg, C3ex, C3hd, C3c, oc1, oc2, C3m⟩
  have ec4 : ExcC K C4 := ⟨C4ga, C4gg, C4ex, C4hd, C4c, oc1, oc2, C4m⟩
  have ec5 : ExcC K C5 := ⟨C5ga, C5gg, C5ex, C5hd, C5c, oc1, oc2, C5m⟩
  have ec6 : ExcC K C6 := ⟨C6ga, C6gg, C6ex, C6hd, C6c, oc1, oc2, C6m⟩
  have ec7 : ExcC K C7 := ⟨C7ga, C7gg, C7ex, C7hd, C7c, oc1, oc2, C7m⟩
  have ec8 : ExcC K C8 := ⟨C8ga, C8gg, C8ex, C8hd, C8c, oc1, oc2, C8m⟩
  have ec9 : ExcC K C9 := ⟨C9ga, C9gg, C9ex, C9hd, C9c, oc1, oc2, C9m⟩
  have ec10 : ExcC K C10 := ⟨C10ga, C10gg, C10ex, C10hd, C10c, oc1, oc2, C10m⟩
  have ec11 : ExcC K C11 := ⟨C11ga, C11gg, C11ex, C11hd, C11c, oc1, oc2, C11m⟩
  have ec12 : ExcC K C12 := ⟨C12ga, C12gg, C12ex, C12hd, C12c, oc1, oc2, C12m⟩
  have ec13 : ExcC K C13 := ⟨C13ga, C13gg, C13ex, C13hd, C13c, oc1, oc2, C13m⟩
  have ec14 : ExcC K C14 := ⟨C14ga, C14gg, C14ex, C14hd, C14c, oc1, oc2, C14m⟩
  have ec15 : ExcC K C15 := ⟨C15ga, C15gg, C15ex, C15hd, C15c, oc1, oc2, C15m⟩
  have C_kept0 := D_ekept.cl (P := l.prog) (w := w) (base := base) (ok_kept0 Z D_ekept)
  have C_kept := D_ekept.cl (P := l.prog) (w := w) (base := base) (ok_kept1 Z D_ekept C_kept0)
  have T10 : OexY K C10 "ValueError" "ValueError.__new__" "ValueError.__init__" _ [.ref C0, .type "ValueError", .type "Exception", .type "BaseException", .type "object"] := ⟨F.excBase_ValueError, ⟨rfl, rfl, rfl⟩, fun _ => (refuseLoop_ref _ _ _ _).trans rfl, rfl, ⟨_, _, _, _, _, _, _, _, _, _, _, _, _, _, C10l⟩, C10sa, C10k⟩
  have E10 : EcK l.prog w K mg base C10 (spInit C10 "line") := ⟨⟨_, _, _, _, _, _, _, _, T10, C10i, C10it, okm_iParseError D_iParseError T10 C10fline C_kept, D_iParseError.b⟩, ⟨C10ga, C10gg, C10ex, C10hd⟩, ec10⟩
  have T11 : OexY K C11 "LookupError" "LookupError.__new__" "LookupError.__init__" _ [.type "KeyError", .type "LookupError", .type "Exception", .type "BaseException", .type "object"] := ⟨F.excBase_LookupError, ⟨rfl, rfl, rfl⟩, fun _ => rfl, rfl, ⟨_, _, _, _, _, _, _, _, _, _, _, _, _, _, C11l⟩, C11sa, C11k⟩
  have E11 : EcK l.prog w K mg base C11 (spInit C11 "name") := ⟨⟨_, _, _, _, _, _, _, _, T11, C11i, C11it, okm_iUnknownName D_iUnknownName T11 C11fname C_kept, D_iUnknownName.b⟩, ⟨C11ga, C11gg, C11ex, C11hd⟩, ec11⟩
  have T12 : OexY K C12 "RuntimeError" "RuntimeError.__new__" "RuntimeError.__init__" _ [.type "RuntimeError", .type "Exception", .type "BaseException", .type "object"] := ⟨F.excBase_RuntimeError, ⟨rfl, rfl, rfl⟩, fun _ => rfl, rfl, ⟨_, _, _, _, _, _, _, _, _, _, _, _, _, _, C12l⟩, C12sa, C12k⟩
  have E12 : EcK l.prog w K mg base C12 (spInit C12 "value") := ⟨⟨_, _, _, _, _, _, _, _, T12, C12i, C12it, okm_iInvalidNumber D_iInvalidNumber T12 C12fvalue C_kept, D_iInvalidNumber.b⟩, ⟨C12ga, C12gg, C12ex, C12hd⟩, ec12⟩
  have T13 : OexY K C13 "OverflowError" "OverflowError.__new__" "OverflowError.__init__" _ [.type "OverflowError", .type "ArithmeticError", .type "Exception", .type "BaseException", .type "object"] := ⟨F.excBase_OverflowError, ⟨rfl, rfl, rfl⟩, fun _ => rfl, rfl, ⟨_, _, _, _, _, _, _, _, _, _, _, _, _, _, C13l⟩, C13sa, C13k⟩
  have E13 : EcK l.prog w K mg base C13 (spInit C13 "limit") := ⟨⟨_, _, _, _, _, _, _, _, T13, C13i, C13it, okm_iTooMany D_iTooMany T13 C13flimit C_kept, D_iTooMany.b⟩, ⟨C13ga, C13gg, C13ex, C13hd⟩, ec13⟩
  have T14 : OexY K C14 "IndexError" "IndexError.__new__" "IndexError.__init__" _ [.type "IndexError", .type "LookupError", .type "Exception", .type "BaseException", .type "object"] := ⟨F.excBase_IndexError, ⟨rfl, rfl, rfl⟩, fun _ => rfl, rfl, ⟨_, _, _, _, _, _, _, _, _, _, _, _, _, _, C14l⟩, C14sa, C14k⟩
  have E14 : EcK l.prog w K mg base C14 (spInit C14 "many") := ⟨⟨_, _, _, _, _, _, _, _, T14, C14i, C14it, okm_iNothingToUndo D_iNothingToUndo T14 C14fmany C_kept, D_iNothingToUndo.b⟩, ⟨C14ga, C14gg, C14ex, C14hd⟩, ec14⟩
  have T15 : OexY K C15 "ArithmeticError" "ArithmeticError.__new__" "ArithmeticError.__init__" _ [.type "ArithmeticError", .type "Exception", .type "BaseException", .type "object"] := ⟨F.excBase_ArithmeticError, ⟨rfl, rfl, rfl⟩, fun _ => rfl, rfl, ⟨_, _, _, _, _, _, _, _, _, _, _, _, _, _, C15l⟩, C15sa, C15k⟩
  have E15 : EcK l.prog w K mg base C15 (spBroken C15) := ⟨⟨_, _, _, _, _, _, _, _, T15, C15i, C15it, okm_iBroken D_iBroken T15 C15fname C15freason C_kept, D_iBroken.b⟩, ⟨C15ga, C15gg, C15ex, C15hd⟩, ec15⟩
  have C_roll := D_roll.cl (P := l.prog) (w := w) (base := base) (ok_roll Z D_roll)
  have C_one := D_one_of.cl (P := l.prog) (w := w) (base := base) (ok_oneL Z D_one_of C_roll)
  have C_kinds := D_kinds.cl (P := l.prog) (w := w) (base := base) (ok_kinds Z Y D_kinds)
  have C_right : Cg l.prog w K mg base "_law_right" 5 f_right spRight := ⟨ok_right Z Y D_right C_kinds E10 C10fline C10q E11 C11fname C11q E12 C12fvalue C12q E13 C13flimit C13q E14 C14fmany C14q E15 C15fname C15q C15freason, D_right.g, D_right.kp⟩
  exact ok_law Z Y D_law (D_dice.cl (ok_dice Z D_dice)) C_roll C_one C_kinds C_right (fun j hj => match j, hj with | 0, _ => C0x | 1, _ => C1x | 2, _ => C2x | 3, _ => C3x | 4, _ => C4x | 5, _ => C5x | 6, _ => C6x | 7, _ => C7x | 8, _ => C8x | 9, _ => C9x) (fun j hj => match j, hj with | 0, _ => C0k | 1, _ => C1k | 2, _ => C2k | 3, _ => C3k | 4, _ => C4k | 5, _ => C5k | 6, _ => C6k | 7, _ => C7k | 8, _ => C8k | 9, _ => C9k) (fun j hj => match j, hj with | 0, _ => ec0 | 1, _ => ec1 | 2, _ => ec2 | 3, _ => ec3 | 4, _ => ec4 | 5, _ => ec5 | 6, _ => ec6 | 7, _ => ec7 | 8, _ => ec8 | 9, _ => ec9) (fun j hj => match j, hj with | 0, _ => C0q | 1, _ => C1q | 2, _ => C2q | 3, _ => C3q | 4, _ => C4q | 5, _ => C5q | 6, _ => C6q | 7, _ => C7q | 8, _ => C8q | 9, _ => C9q)
end K00
open PySem PySem.W PyProof.Rows
set_option maxHeartbeats 0 in
theorem PySem.Challenge.cw_namedabove_k00_errors_and_what_they_keep_holds : PySem.Challenge.rw_namedabove_k00_errors_and_what_they_keep.Holds := by
  w_on; o_law; k_head; (case hw => w_witness2)
  k_fill
  refine Ly.walk_ofG (l := PySem.Challenge.rw_namedabove_k00_errors_and_what_they_keep) (n := 63) (k := 6) (sp := fun w => K00.spLaw _) rfl (by decide) rfl ⟨rfl, by decide, by decide⟩ (fun w h Y => PySem.W.kIn_of Y) ?F (fun _ _ a ns hl _ hS => ⟨a, ns, rfl, hS, hl, fun _ => rfl⟩)
  case F =>
    intro w mg fa h KX G hmg
    refine' K00.all_mk KX G hmg ?a_ekept ?l_ekept ?c_ekept ?k_ekept ?a_dice ?l_dice ?c_dice ?k_dice ?a_roll ?l_roll ?c_roll ?k_roll ?a_one_of ?l_one_of ?c_one_of ?k_one_of ?a_kinds ?l_kinds ?c_kinds ?k_kinds ?a_right ?l_right ?c_right ?k_right ?a_law ?l_law ?c_law ?k_law ?aC0 ?C0x ?C0k ?C0ex ?C0ga ?C0gg ?C0hd ?C0c ?C0m ?aC1 ?C1x ?C1k ?C1ex ?C1ga ?C1gg ?C1hd ?C1c ?C1m ?aC2 ?C2x ?C2k ?C2ex ?C2ga ?C2gg ?C2hd ?C2c ?C2m ?aC3 ?C3x ?C3k ?C3ex ?C3ga ?C3gg ?C3hd ?C3c ?C3m ?aC4 ?C4x ?C4k ?C4ex ?C4ga ?C4gg ?C4hd ?C4c ?C4m ?aC5 ?C5x ?C5k ?C5ex ?C5ga ?C5gg ?C5hd ?C5c ?C5m ?aC6 ?C6x ?C6k ?C6ex ?C6ga ?C6gg ?C6hd ?C6c ?C6m ?aC7 ?C7x ?C7k ?C7ex ?C7ga ?C7gg ?C7hd ?C7c ?C7m ?aC8 ?C8x ?C8k ?C8ex ?C8ga ?C8gg ?C8hd ?C8c ?C8m ?aC9 ?C9x ?C9k ?C9ex ?C9ga ?C9gg ?C9hd ?C9c ?C9m ?aC10 ?C10l ?C10sa ?C10ex ?C10ty ?C10k ?C10ga ?C10gg ?C10hd ?C10ic ?C10ss ?C10fline ?C10i ?C10it ?l_iParseError ?c_iParseError ?k_iParseError ?C10c ?C10m ?aC11 ?C11l ?C11sa ?C11ex ?C11ty ?C11k ?C11ga ?C11gg ?C11hd ?C11ic ?C11ss ?C11fname ?C11i ?C11it ?l_iUnknownName ?c_iUnknownName ?k_iUnknownName ?C11c ?C11m ?aC12 ?C12l ?C12sa ?C12ex ?C12ty ?C12k ?C12ga ?C12gg ?C12hd ?C12ic ?C12ss ?C12fvalue ?C12i ?C12it ?l_iInvalidNumber ?c_iInvalidNumber ?k_iInvalidNumber ?C12c ?C12m ?aC13 ?C13l ?C13sa ?C13ex ?C13ty ?C13k ?C13ga ?C13gg ?C13hd ?C13ic ?C13ss ?C13flimit ?C13i ?C13it ?l_iTooMany ?c_iTooMany ?k_iTooMany ?C13c ?C13m ?aC14 ?C14l ?C14sa ?C14ex ?C14ty ?C14k ?C14ga ?C14gg ?C14hd ?C14ic ?C14ss ?C14fmany ?C14i ?C14it ?l_iNothingToUndo ?c_iNothingToUndo ?k_iNothingToUndo ?C14c ?C14m ?aC15 ?C15l ?C15sa ?C15ex ?C15ty ?C15k ?C15ga ?C15gg ?C15hd ?C15ic ?C15ss ?C15fname ?C15freason ?C15i ?C15it ?l_iBroken ?c_iBroken ?k_iBroken ?C15c ?C15m ?oc1 ?oc2 ?C0q ?C1q ?C2q ?C3q ?C4q ?C5q ?C6q ?C7q ?C8q ?C9q ?C10q ?C11q ?C12q ?C13q ?C14q ?C15q ?z_len ?z_int ?z_abs ?z_max ?z_min ?z_range ?z_isinstance ?z_str ?z_repr ?z_list ?z_tuple ?z_dict ?z_enumerate ?z_ValueError ?z_KeyError ?z_RuntimeError ?z_OverflowError ?z_IndexError ?z_ArithmeticError ?z_LookupError
    (case a_ekept => k_is); (case l_ekept => k_is); (case c_ekept => k_is); (case k_ekept => k_is); (case a_dice => k_is); (case l_dice => k_is); (case c_dice => k_is); (case k_dice => k_is); (case a_roll => k_is); (case l_roll => k_is); (case c_roll => k_is); (case k_roll => k_is); (case a_one_of => k_is); (case l_one_of => k_is); (case c_one_of => k_is); (case k_one_of => k_is); (case a_kinds => k_is); (case l_kinds => k_is); (case c_kinds => k_is); (case k_kinds => k_is); (case a_right => k_is); (case l_right => k_is); (case c_right => k_is); (case k_right => k_is); (case a_law => k_is); (case l_law => k_is); (case c_law => k_is); (case k_law => k_is); (case aC0 => k_is); (case C0x => k_exc); (case C0k => k_is); (case C0ex => k_is); (case C0ga => k_is); (case C0gg => k_is); (case C0hd => k_is); (case C0c => k_is); (case C0m => k_is); (case aC1 => k_is); (case C1x => k_exc); (case C1k => k_is); (case C1ex => k_is); (case C1ga => k_is); (case C1gg => k_is); (case C1hd => k_is); (case C1c => k_is); (case C1m => k_is); (case aC2 => k_is); (case C2x => k_exc); (case C2k => k_is); (case C2ex => k_is); (case C2ga => k_is); (case C2gg => k_is); (case C2hd => k_is); (case C2c => k_is); (case C2m => k_is); (case aC3 => k_is); (case C3x => k_exc); (case C3k => k_is); (case C3ex => k_is); (case C3ga => k_is); (case C3gg => k_is); (case C3hd => k_is); (case C3c => k_is); (case C3m => k_is); (case aC4 => k_is); (case C4x => k_exc); (case C4k => k_is); (case C4ex => k_is); (case C4ga => k_is); (case C4gg => k_is); (case C4hd => k_is); (case C4c => k_is); (case C4m => k_is); (case aC5 => k_is); (case C5x => k_exc); (case C5k => k_is); (case C5ex => k_is); (case C5ga => k_is); (case C5gg => k_is); (case C5hd => k_is); (case C5c => k_is); (case C5m => k_is); (case aC6 => k_is); (case C6x => k_exc); (case C6k => k_is); (case C6ex => k_is); (case C6ga => k_is); (case C6gg => k_is); (case C6hd => k_is); (case C6c => k_is); (case C6m => k_is); (case aC7 => k_is); (case C7x => k_exc); (case C7k => k_is); (case C7ex => k_is); (case C7ga => k_is); (case C7gg => k_is); (case C7hd => k_is); (case C7c => k_is); (case C7m => k_is); (case aC8 => k_is); (case C8x => k_exc); (case C8k => k_is); (case C8ex => k_is); (case C8ga => k_is); (case C8gg => k_is); (case C8hd => k_is); (case C8c => k_is); (case C8m => k_is); (case aC9 => k_is); (case C9x => k_exc); (case C9k => k_is); (case C9ex => k_is); (case C9ga => k_is); (case C9gg => k_is); (case C9hd => k_is); (case C9c => k_is); (case C9m => k_is); (case aC10 => k_is); (case C10l => k_is); (case C10sa => k_is); (case C10ex => k_is); (case C10ty => k_is); (case C10k => k_is); (case C10ga => k_is); (case C10gg => k_is); (case C10hd => k_is); (case C10ic => k_is); (case C10ss => k_is); (case C10fline => k_is); (case C10i => k_is); (case C10it => k_is); (case l_iParseError => k_is); (case c_iParseError => k_is); (case k_iParseError => k_is); (case C10c => k_is); (case C10m => k_is); (case aC11 => k_is); (case C11l => k_is); (case C11sa => k_is); (case C11ex => k_is); (case C11ty => k_is); (case C11k => k_is); (case C11ga => k_is); (case C11gg => k_is); (case C11hd => k_is); (case C11ic => k_is); (case C11ss => k_is); (case C11fname => k_is); (case C11i => k_is); (case C11it => k_is); (case l_iUnknownName => k_is); (case c_iUnknownName => k_is); (case k_iUnknownName => k_is); (case C11c => k_is); (case C11m => k_is); (case aC12 => k_is); (case C12l => k_is); (case C12sa => k_is); (case C12ex => k_is); (case C12ty => k_is); (case C12k => k_is); (case C12ga => k_is); (case C12gg => k_is); (case C12hd => k_is); (case C12ic => k_is); (case C12ss => k_is); (case C12fvalue => k_is); (case C12i => k_is); (case C12it => k_is); (case l_iInvalidNumber => k_is); (case c_iInvalidNumber => k_is); (case k_iInvalidNumber => k_is); (case C12c => k_is); (case C12m => k_is); (case aC13 => k_is); (case C13l => k_is); (case C13sa => k_is); (case C13ex => k_is); (case C13ty => k_is); (case C13k => k_is); (case C13ga => k_is); (case C13gg => k_is); (case C13hd => k_is); (case C13ic => k_is); (case C13ss => k_is); (case C13flimit => k_is); (case C13i => k_is); (case C13it => k_is); (case l_iTooMany => k_is); (case c_iTooMany => k_is); (case k_iTooMany => k_is); (case C13c => k_is); (case C13m => k_is); (case aC14 => k_is); (case C14l => k_is); (case C14sa => k_is); (case C14ex => k_is); (case C14ty => k_is); (case C14k => k_is); (case C14ga => k_is); (case C14gg => k_is); (case C14hd => k_is); (case C14ic => k_is); (case C14ss => k_is); (case C14fmany => k_is); (case C14i => k_is); (case C14it => k_is); (case l_iNothingToUndo => k_is); (case c_iNothingToUndo => k_is); (case k_iNothingToUndo => k_is); (case C14c => k_is); (case C14m => k_is); (case aC15 => k_is); (case C15l => k_is); (case C15sa => k_is); (case C15ex => k_is); (case C15ty => k_is); (case C15k => k_is); (case C15ga => k_is); (case C15gg => k_is); (case C15hd => k_is); (case C15ic => k_is); (case C15ss => k_is); (case C15fname => k_is); (case C15freason => k_is); (case C15i => k_is); (case C15it => k_is); (case l_iBroken => k_is); (case c_iBroken => k_is); (case k_iBroken => k_is); (case C15c => k_is); (case C15m => k_is); (case oc1 => k_is); (case oc2 => k_is); (case C0q => kernel_rfl); (case C1q => kernel_rfl); (case C2q => kernel_rfl); (case C3q => kernel_rfl); (case C4q => kernel_rfl); (case C5q => kernel_rfl); (case C6q => kernel_rfl); (case C7q => kernel_rfl); (case C8q => kernel_rfl); (case C9q => kernel_rfl); (case C10q => kernel_rfl); (case C11q => kernel_rfl); (case C12q => kernel_rfl); (case C13q => kernel_rfl); (case C14q => kernel_rfl); (case C15q => kernel_rfl); (case z_len => k_is); (case z_int => k_is); (case z_abs => k_is); (case z_max => k_is); (case z_min => k_is); (case z_range => k_is); (case z_isinstance => k_is); (case z_str => k_is); (case z_repr => k_is); (case z_list => k_is); (case z_tuple => k_is); (case z_dict => k_is); (case z_enumerate => k_is); (case z_ValueError => k_is); (case z_KeyError => k_is); (case z_RuntimeError => k_is); (case z_OverflowError => k_is); (case z_IndexError => k_is); (case z_ArithmeticError => k_is); (case z_LookupError => k_is)
