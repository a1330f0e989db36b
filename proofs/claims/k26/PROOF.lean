import PyProof.Rows.All
import Wide.All
import OpenK.AllK
import Wide.FinOn
import HandS.ForMost
import HandS.IsInst
import HandS.Zip
import HandS.TupAny
import HandS.Style
import HandS.More
import HandS.Defaults
import HandS.Walk
import KE.GoesMore
import HandS.Deep
import HandS.TupSets
import HandS.Conv
import HandS.DeepEq
import KE.KDictCopyH
import KE.KDictWalk
import HandS.ExcInit
import HandS.Gcd
import HandS.Wide
import HandS.WordsExc
import HandS.HeadHook4
import HandS.HeadWalk
import HandS.Head2
import HandS.Head3
import HandS.Lambda
import PySem.Challenge.RW_lookingnets_k26_expression_units_bear
set_option Elab.async false
set_option linter.all false
set_option maxRecDepth 100000
namespace LK
open PySem PySem.Spec PyProof.Rows L2
/-! ### heaps but for one object -/
def hb (H : Hp) (b : Addr) : Hp := fun a => if a = b then none else H a
theorem hb_ne {H : Hp} {a b : Addr} (h : a ≠ b) : hb H b a = H a := if_neg h
theorem hb_same {H : Hp} {b : Addr} : hb H b b = none := if_pos rfl
theorem hb_some {H : Hp} {a b : Addr} {o : HO} (h : hb H b a = some o) : a ≠ b ∧ H a = some o := by
  unfold hb at h
  split at h
  · cases h
  · exact ⟨by assumption, h⟩
theorem hb_le (H : Hp) (b : Addr) : Same (hb H b) H := fun _ _ h => (hb_some h).2
/-- all but b stays -/
abbrev Kp (b : Addr) (H H' : Hp) : Prop := Same (hb H b) (hb H' b)
theorem Kp.of {b : Addr} {H H' : Hp} (s : Same H H') : Kp b H H' := fun a o h => by
  obtain ⟨h1, h2⟩ := hb_some h
  rw [hb_ne h1]
  exact s _ _ h2
theorem Kp.refl (b : Addr) (H : Hp) : Kp b H H := Same.refl _
theorem Kp.upd {b : Addr} {H : Hp} {o : HO} : Kp b H (upd H b o) := fun a u h => by
  obtain ⟨h1, h2⟩ := hb_some h
  rw [hb_ne h1, upd_ne h1]
  exact h2
theorem Kp.hd {b a : Addr} {H H' : Hp} {o : HO} (k : Kp b H H') (h : H a = some o) (n : a ≠ b) : H' a = some o := (hb_some (k a o (by rw [hb_ne n]; exact h))).2
/-- a new object -/
theorem al {H : Hp} {R : Addr → Hp → Prop} {o : HO} (h : ∀ p H1, Same H H1 → H1 p = some o → H p = none → R p H1) : ∀ p, H p = none → R p (upd H p o) := fun p hp =>
  h p _ (fun a u e => by rw [upd_ne (ne_of_none e hp)]; exact e) upd_same hp
theorem same_upd {H : Hp} {p : Addr} {o : HO} (hp : H p = none) : Same H (upd H p o) := fun a u e => by rw [upd_ne (ne_of_none e hp)]; exact e
theorem at_ofN {α : Type} {xs : List α} {z : Int} {j : Nat} {v : α} (e : z = (j : Int)) (h : xs[j]? = some v) : atI xs z = some v := by
  subst e
  exact atI_nat h
/-! ### the bag of a law -/
def Bag (N : Nat) (H : Hp) (b c : Addr) : Prop := ∃ (cells : List Int) (i g m n : Int), H b = some (.lst [.ref c, .int i, .int g, .int m, .int n]) ∧ H c = some (.lst (cells.map V.int)) ∧ c ≠ b ∧ 0 ≤ i ∧ 0 ≤ m ∧ m < 2147483579
theorem Bag.to {N M : Nat} {H : Hp} {b c : Addr} (B : Bag N H b c) : Bag M H b c := B
theorem Bag.le {N M : Nat} {H : Hp} {b c : Addr} (B : Bag N H b c) (h : M ≤ N) : Bag M H b c := B
theorem Bag.same {N : Nat} {H H' : Hp} {b c : Addr} (B : Bag N H b c) (s : Same H H') : Bag N H' b c := by
  obtain ⟨cells, i, g, m, n, h1, h2, h3⟩ := B
  exact ⟨cells, i, g, m, n, s _ _ h1, s _ _ h2, h3⟩
theorem Bag.at {N : Nat} {H : Hp} {b c : Addr} (B : Bag N H b c) : ∃ xs, H b = some (.lst xs) := by
  obtain ⟨cells, i, g, m, n, h1, _⟩ := B
  exact ⟨_, h1⟩
theorem Bag.at2 {N : Nat} {H : Hp} {b c : Addr} (B : Bag N H b c) : ∃ xs, H c = some (.lst xs) := by
  obtain ⟨cells, i, g, m, n, h1, h2, _⟩ := B
  exact ⟨_, h2⟩
/-- another object is stored -/
theorem Bag.upd {N : Nat} {H : Hp} {b c p : Addr} {o : HO} (B : Bag N H b c) (n1 : b ≠ p) (n2 : c ≠ p) : Bag N (upd H p o) b c := by
  obtain ⟨cells, i, g, m, n, h1, h2, h3⟩ := B
  exact ⟨cells, i, g, m, n, by rw [upd_ne n1]; exact h1, by rw [upd_ne n2]; exact h2, h3⟩
/-- a new object beside a bag -/
theorem alB {N : Nat} {H : Hp} {R : Addr → Hp → Prop} {o : HO} {b c : Addr} (B : Bag N H b c) (h : ∀ p H1, Kp b H H1 → Bag N H1 b c → hb H1 b p = some o → Same H H1 → H p = none → R p H1) : ∀ p, H p = none → R p (upd H p o) :=
  al fun p H1 s h1 h0 => h p H1 (Kp.of s) (B.same s) (by
    have n : p ≠ b := fun e => by
      obtain ⟨xs, q⟩ := B.at
      rw [e, q] at h0; cases h0
    rw [hb_ne n]; exact h1) s h0
/-! ### data -/
theorem Same.seqT {K : PySem.W.Frag} {H H' : Hp} {a : Addr} {xs : List V} (e : Same H H') (h : SqT K H a xs) : SqT K H' a xs := by
  rcases h with (h | ⟨o, h⟩) | h
  · exact .inl (.inl (e _ _ h))
  · exact .inl (.inr ⟨o, e _ _ h⟩)
  · exact .inr h
mutual
theorem dp_same {K : PySem.W.Frag} {H H' : Hp} (e : Same H H') : ∀ {d : PyData} {v : V}, Dp K H v d → Dp K H' v d
  | .none, _, h => by cases h; exact .non
  | .bool _, _, h => by cases h; exact .bl _
  | .int _, _, h => by cases h; exact .int _
  | .str _, _, h => by cases h; exact .str _
  | .list ds, _, h => by cases h with | lst a b => exact .lst (L2.Same.seq e a) (dpa_same e b)
  | .tuple ds, _, h => by cases h with | tup a b => exact .tup (Same.seqT e a) (dpa_same e b)
  | .dict _, _, h => by cases h
theorem dpa_same {K : PySem.W.Frag} {H H' : Hp} (e : Same H H') : ∀ {ds : List PyData} {vs : List V}, DpAll K H vs ds → DpAll K H' vs ds
  | [], _, h => by cases h; exact .nil
  | _ :: _, _, h => by cases h with | cons a b => exact .cons (dp_same e a) (dpa_same e b)
end
end LK
namespace LK
open PySem PySem.Spec PyProof.Rows L2
section
variable {CX : CXT} {P : Program} {w : World} {K : PySem.W.Frag} {mg : Str → Option Value} {base : Heap} {N : List Str} {q : Str} {sc : Scope} {f : Addr} {cd : Value} {A : Around} {outer : List Env} {s : Shared} {H : Hp} {E : XK}
theorem cxK : (cxOf CX P w K mg base N q sc f cd A outer s H E).K = K := rfl
theorem cxNK : (cxOf CX P w K mg base N q sc f cd A outer s H E).nox.K = K := rfl
theorem cxW : (cxOf CX P w K mg base N q sc f cd A outer s H E).w = w := rfl
end
theorem cut_seq {t u : TS} {D : Ends} {σ : L2.St} {H : Hp} (Mid : L2.St → Hp → Prop) (h1 : ∀ N : L2.St → Hp → Prop, (∀ σ' H', Mid σ' H' → N σ' H') → t { D with nx := N } σ H) (h2 : ∀ σ' H', Mid σ' H' → u D σ' H') : tSeq t u D σ H := h1 _ h2
end LK
namespace LK
open PySem PySem.Spec PyProof.Rows L2
theorem seq_op {t u : TS} {D : Ends} {σ : L2.St} {H : Hp} (h : ∀ N : L2.St → Hp → Prop, (∀ σ' H', u D σ' H' → N σ' H') → t { D with nx := N } σ H) : tSeq t u D σ H := h _ fun _ _ z => z
end LK
namespace LK
open PySem PySem.Spec PyProof.Rows L2
section
variable {X : Cx}
theorem opr_imp {f : Value → Value → Sem Value} {r r' : R2} (h : OpR X f r) (i : ∀ x y H Q, r' x y H Q → r x y H Q) : OpR X f r' := fun pins s σ H x y v u Q I rx ry q => h pins s σ H x y v u Q I rx ry (i _ _ _ _ q)
theorem cr_imp {f : Value} {r r' : List V → Hp → VK → Prop} (h : CallR X f r) (i : ∀ x H Q, r' x H Q → r x H Q) : CallR X f r' := fun pins s σ H xs us Q I rx q => h pins s σ H xs us Q I rx (i _ _ _ q)
theorem op_eqI : OpR X (compareOp .Eq) (rI0 fun i j => .bl (decide (i = j))) := opr_imp op_eq fun x y H Q h => by
  obtain ⟨i, j, rfl, rfl, q⟩ := h
  refine ⟨rfl, ?_⟩
  rw [L2.dec_int, Bool.beq_eq_decide_eq]; exact q
theorem op_neI : OpR X (compareOp .NotEq) (rI0 fun i j => .bl (!decide (i = j))) := opr_imp op_ne fun x y H Q h => by
  obtain ⟨i, j, rfl, rfl, q⟩ := h
  refine ⟨rfl, ?_⟩
  rw [L2.dec_int, Bool.beq_eq_decide_eq]; exact q
def rS0 (g : Str → Str → V) : R2 := fun x y H Q => ∃ i j, x = .str i ∧ y = .str j ∧ Q (g i j) H
theorem op_eqS : OpR X (compareOp .Eq) (rS0 fun i j => .bl (decide (i = j))) := opr_imp op_eq fun x y H Q h => by
  obtain ⟨i, j, rfl, rfl, q⟩ := h
  refine ⟨rfl, ?_⟩
  have e : decide (V.str i = V.str j) = decide (i = j) := by
    by_cases c : i = j
    · subst c; simp
    · rw [decide_eq_false c, decide_eq_false (fun z => c (V.str.inj z))]
  rw [e]; exact q
theorem op_neS : OpR X (compareOp .NotEq) (rS0 fun i j => .bl (!decide (i = j))) := opr_imp op_ne fun x y H Q h => by
  obtain ⟨i, j, rfl, rfl, q⟩ := h
  refine ⟨rfl, ?_⟩
  have e : decide (V.str i = V.str j) = decide (i = j) := by
    by_cases c : i = j
    · subst c; simp
    · rw [decide_eq_false c, decide_eq_false (fun z => c (V.str.inj z))]
  rw [e]; exact q
def rB0 (g : Bool → Bool → V) : R2 := fun x y H Q => ∃ i j, x = .bl i ∧ y = .bl j ∧ Q (g i j) H
theorem op_eqB : OpR X (compareOp .Eq) (rB0 fun i j => .bl (i == j)) := opr_imp op_eq fun x y H Q h => by
  obtain ⟨i, j, rfl, rfl, q⟩ := h
  refine ⟨rfl, ?_⟩
  rw [L2.dec_bl]; exact q
theorem op_neB : OpR X (compareOp .NotEq) (rB0 fun i j => .bl (!(i == j))) := opr_imp op_ne fun x y H Q h => by
  obtain ⟨i, j, rfl, rfl, q⟩ := h
  refine ⟨rfl, ?_⟩
  rw [L2.dec_bl]; exact q
/-- int(n) of an int -/
theorem call_intI : CallR X (.type "int") (fun xs H Q => ∃ i, xs = [.int i] ∧ Q (.int i) H) := cr_imp call_int1 fun xs H Q h => .inl h
end
end LK
namespace LK
open PySem PySem.Spec PyProof.Rows L2
/-! ### isinstance of data -/
def tyN : PyData → String
  | .none => "NoneType" | .bool _ => "bool" | .int _ => "int" | .str _ => "str" | .list _ => "list" | .tuple _ => "tuple" | .dict _ => "dict"
def isTy (T : String) : PyData → Bool
  | .none => false | .bool _ => T == "bool" || T == "int" | .int _ => T == "int" | .str _ => T == "str" | .list _ => T == "list" | .tuple _ => T == "tuple" | .dict _ => false
theorem dp_ty {K : PySem.W.Frag} {H : Hp} {v : V} {d : PyData} (h : Dp K H v d) : TyX K H v (.type (tyN d)) := by
  cases h with
  | non => exact .base .non
  | bl b => exact .base (.bl b)
  | int i => exact .base (.int i)
  | str x => exact .base (.str x)
  | lst hs _ =>
    rcases hs with (h | ⟨o, h⟩) | ⟨o, its, n, h1, h2, _⟩
    · exact .base (.lst h)
    · exact .base (.frz h)
    · exact .kList h1 h2
  | tup hs _ =>
    rcases hs with (h | ⟨o, h⟩) | ⟨o, its, n, h1, h2, _⟩
    · exact .base (.tup h)
    · exact .fTuple h
    · exact .kTuple h1 h2
theorem dp_kit {K : PySem.W.Frag} {H : Hp} {v : V} {d : PyData} (h : Dp K H v d) {T : String} (hT : T ∈ ["str", "int", "bool", "list", "tuple"]) : PySem.W.kitOne K (.type (tyN d)) (.type T) = some (isTy T d) := by
  refine kit_ty ?_
  simp only [List.mem_cons, List.mem_nil_iff, or_false] at hT
  cases h <;> rcases hT with rfl | rfl | rfl | rfl | rfl <;> (simp only [tyN, isTy]; decide +kernel)
section
variable {X : Cx}
theorem call_isiD : CallR X (.builtin "isinstance") (fun xs H Q => ∃ x T d, xs = [x, .ty T] ∧ Dp X.K H x d ∧ T ∈ ["str", "int", "bool", "list", "tuple"] ∧ Q (.bl (isTy T d)) H) := cr_imp call_isi fun xs H Q h => by
  obtain ⟨x, T, d, rfl, hd, hT, q⟩ := h
  exact ⟨x, .ty T, _, _, _, rfl, .ty T, dp_ty hd, dp_kit hd hT, q⟩
theorem call_isiDT : CallR X (.builtin "isinstance") (fun xs H Q => ∃ x tp d, xs = [x, .ref tp] ∧ H tp = some (.tup [.ty "list", .ty "tuple"]) ∧ Dp X.K H x d ∧ Q (.bl (isTy "list" d || isTy "tuple" d)) H) := cr_imp call_isiT fun xs H Q h => by
  obtain ⟨x, tp, d, rfl, ht, hd, q⟩ := h
  refine ⟨x, tp, _, .type (tyN d), [.type "list", .type "tuple"], _, rfl, ht, .cons (.ty _) (.cons (.ty _) .nil), dp_ty hd, ?_, q⟩
  have h1 := dp_kit hd (T := "list") (by simp)
  have h2 := dp_kit hd (T := "tuple") (by simp)
  unfold PySem.W.kitAny PySem.W.kitAny PySem.W.kitAny
  rw [h1, h2]
  cases isTy "list" d <;> cases isTy "tuple" d <;> rfl
/-- len of data -/
theorem call_lenD : CallR X (.builtin "len") (fun xs H Q => ∃ x d, xs = [x] ∧ Dp X.K H x d ∧ ((∃ ds, (d = .list ds ∨ d = .tuple ds) ∧ Q (.int ds.length) H) ∨ ∃ z, d = .str z ∧ z.length ≤ sizeLine ∧ Q (.int z.length) H)) := cr_imp call_len fun xs H Q h => by
  obtain ⟨x, d, rfl, hd, ⟨ds, e, q⟩ | ⟨z, rfl, hz, q⟩⟩ := h
  · have ln : ∀ {vs : List V} {es : List PyData}, DpAll X.K H vs es → vs.length = es.length := by
      intro vs es h
      induction es generalizing vs with
      | nil => cases h; rfl
      | cons a r ih => cases h with | cons _ h2 => simp [ih h2]
    rcases e with rfl | rfl
    · cases hd with
      | lst hs ha => exact ⟨_, ds.length, rfl, .inl ⟨_, hs, (ln ha).symm⟩, q⟩
    · cases hd with
      | tup hs ha => exact ⟨_, ds.length, rfl, .inr ⟨_, hs, (ln ha).symm⟩, q⟩
  · cases hd
    exact ⟨_, z.length, rfl, ⟨hz, rfl⟩, q⟩
/-- t[lo:hi] of a tuple: some tuple of that content -/
def rSlU (K : PySem.W.Frag) : V → Option Int → Option Int → Hp → VK → Prop := fun x lo hi H Q => ∃ a xs, x = .ref a ∧ SqT K H a xs ∧ ∀ q H', Same H H' → SqT K H' q (cutV xs lo hi) → Q (.ref q) H'
theorem sl_tupU : SlR X (rSlU X.K) := by
  intro pins s σ H x v vl vu lo hi sl Q I rx hs pl pu h
  obtain ⟨a, xs, rfl, hx, q⟩ := h
  refine sl_tupA pins s σ H _ v vl vu lo hi sl Q I rx hs pl pu ⟨a, xs, rfl, hx, fun hw => q a H (Same.refl H) ?_, fun hw p hp => q p _ (fun b o e => ?_) (.inl (.inl upd_same))⟩
  · have e : cutV xs lo hi = xs := by
      unfold cutV
      rw [hw.1, hw.2]
      simp
    rw [e]; exact hx
  · rw [upd_ne (ne_of_none e hp)]; exact e
def rCatU (K : PySem.W.Frag) : R2 := fun x y H Q => ∃ a b xs ys, x = .ref a ∧ y = .ref b ∧ SqT K H a xs ∧ SqT K H b ys ∧ xs.length + ys.length ≤ sizeLine ∧ ∀ q H', Same H H' → SqT K H' q (xs ++ ys) → Q (.ref q) H'
theorem op_catU : OpR X (binaryOp .Add) (rCatU X.K) := opr_imp op_catA fun x y H Q h => by
  obtain ⟨a, b, xs, ys, rfl, rfl, ha, hb, hz, q⟩ := h
  refine ⟨a, b, xs, ys, rfl, rfl, ha, hb, hz, fun e => q b H (Same.refl H) ?_, fun _ e => q a H (Same.refl H) ?_, fun _ _ p hp => q p _ (fun c o e => ?_) (.inl (.inl upd_same))⟩
  · subst e; exact hb
  · subst e; rw [List.append_nil]; exact ha
  · rw [upd_ne (ne_of_none e hp)]; exact e
/-- tuple(x) of a list or tuple -/
theorem call_tupleU : CallR X (.type "tuple") (fun xs H Q => ∃ p ys, xs = [.ref p] ∧ (SqL X.K H p ys ∨ SqT X.K H p ys) ∧ ∀ q H', Same H H' → SqT X.K H' q ys → Q (.ref q) H') := cr_imp call_tuple_of fun xs H Q h => by
  obtain ⟨p, ys, rfl, h, q⟩ := h
  refine ⟨p, ys, rfl, ?_⟩
  rcases h with h | h
  · exact .inl ⟨h, fun l hl => q l _ (fun c o e => by rw [upd_ne (ne_of_none e hl)]; exact e) (.inl (.inl upd_same))⟩
  · exact .inr ⟨h, q p H (Same.refl H) h⟩
end
/-! ### calls by keywords alone -/
def tCallZ (m : Nat) (sp : Sp) (gV : List V → List V) (E : XK) (tk : TA) : TE := fun σ H Q => tk σ H fun zs H2 => zs.length = m ∧ sp (gV zs) H2 Q E
section
variable {X : Cx} {CX : CXT} {k : Nat} {f : Addr} {fd : FuncData} {ps ks : List Str} {sp : Sp} {E : XK} {x : Str} {p pos : Pos} {kws : List Keyword} {tk : TA} {g : List Value → List Value} {gV : List V → List V}
/-- f(k = v, ..) -/
theorem pe_callZ (F : FnOk X.prog X.w X.K X.mg X.base CX k f fd ps sp) (hr : Room k X.A) (hg : Gl X x) (hm : X.mg x = some (.ref f)) (hk : PySem.W.keepIn X.K (.ref f) = true) (hb : KBn X.K fd ps 0 ks (fun _ ws => g ws) (fun _ zs => gV zs)) (hx : Passes CX X E)
    (hkw : PK X kws tk) (hall : (backToKw pos (keywordEach kws X.env)).all (·.1.isSome) = true := by rfl) (hks : (backToKw pos (keywordEach kws X.env)).filterMap (·.1) = ks := by rfl)
    (hdb : (x == ("__debug__" : Str)) = false := by decide)
    (hpl : ((backTo pos (starEach [] X.env)).any (·.1) || (backToKw pos (keywordEach kws X.env)).any (·.1.isNone)) = false := by rfl) :
    PE X (.Call (.Name x p) [] kws pos) (tCallZ ks.length sp gV E tk) := by
  refine ⟨fun pins s σ H Q I h => ?_⟩
  refine wpAny_Call_Name_kw (ld_glob I hg hm ?_ hdb)
  refine PySem.W.callWith_KW0 (h₀ := X.base) I.ok.mod.kin hk hall (thn (hkw.run pos pins s σ H _ I h) fun ws s2 ⟨zs, H2, I2, rz, l2, q2⟩ => ⟨I2.kIn, ?_⟩) hpl
  rw [hks]
  exact run_fnN F hr hb hx I2 .nil rz rfl l2 q2
end
theorem kb_of {K : PySem.W.Frag} {x qual : Str} {st : Stmt} {f : Addr} {fd : FuncData} {ps : List Str} (F : Fun K x qual st f fd) {n : Nat} {ks : List Str} (g : {α : Type} → List α → List α → List α)
    (hrel : ∀ {vs zs : List V} {us ws : List Value}, Vals vs us → Vals zs ws → Vals (g vs zs) (g us ws))
    (h : ∀ (kV doc pm : Value) (an : Option Addr) (cdv ct : Value) (us ws : List Value), us.length = n → ws.length = ks.length → bindArgs (PySem.W.fnOf x qual (defArgs st) (defBody st) (defScope st) .none kV doc pm an cdv ct) ⟨us, ks.zip ws⟩ = pure (ps.zip (g us ws))) : KBn K fd ps n ks (fun us ws => g us ws) (fun vs zs => g vs zs) := by
  obtain ⟨oc, od, kV, doc, pm, an, cdv, ct, osl, rfl, lk, hcd⟩ := F.ex
  exact ⟨fun s us ws _ l1 l2 => .of_eq (h kV doc pm an cdv ct us ws l1 l2), hrel⟩
end LK

namespace LK
open PySem PySem.Spec PyProof.Rows L2
/-! ### t[::-1] of a tuple -/
theorem fm_map {α β : Type} {f : α → Option β} {g : α → β} : ∀ {l : List α}, (∀ m ∈ l, f m = some (g m)) → l.filterMap f = l.map g
  | [], _ => rfl
  | a :: l, h => by
    rw [List.filterMap_cons, h a List.mem_cons_self]
    exact congrArg (g a :: ·) (fm_map fun m hm => h m (List.mem_cons_of_mem _ hm))
theorem rev_pick (xs : Array Value) : ((List.range xs.size).filterMap fun (m : Nat) => xs[(((xs.size : Int) - 1) + (m : Int) * (-1)).toNat]?).toArray = xs.toList.reverse.toArray := by
  have e : ((List.range xs.size).filterMap fun (m : Nat) => xs[(((xs.size : Int) - 1) + (m : Int) * (-1)).toNat]?) = xs.toList.reverse := by
    have h : ∀ m ∈ List.range xs.size, (xs[(((xs.size : Int) - 1) + (m : Int) * (-1)).toNat]?) = some (xs.toList.reverse.getD m .none) := by
      intro m hm
      have hm := List.mem_range.mp hm
      have e1 : (((xs.size : Int) - 1) + (m : Int) * (-1)).toNat = xs.size - 1 - m := by omega
      rw [e1, List.getD_eq_getElem?_getD, List.getElem?_reverse (by simpa using hm)]
      rw [Array.getElem?_eq_getElem (by omega), Array.length_toList, List.getElem?_eq_getElem (by rw [Array.length_toList]; omega)]
      rfl
    rw [fm_map h]
    refine List.ext_getElem? fun i => ?_
    rw [List.getElem?_map]
    by_cases hi : i < xs.size
    · rw [List.getElem?_range hi, List.getElem?_eq_getElem (by simpa using hi)]
      simp [List.getElem?_eq_getElem, hi]
    · rw [List.getElem?_eq_none (by simpa using hi), List.getElem?_eq_none (by simpa using hi)]
      rfl
  rw [e]
section
variable {prog : Program} {w : World} {A : Around} {E : Value → Shared → Prop} {s : Shared}
theorem sliceApplied_rev {sl : Addr} {vl vu vs : Value} {n : Nat} {Q : Int × Int × Nat → Shared → Prop} (hs : s.heap.IsSliceOf sl vl vu vs) (pl : IsPart vl none) (pu : IsPart vu none) (ps : IsPart vs (some (-1)))
    (h : Q ((n : Int) - 1, -1, n) s) : wpAny (model prog w) A (Builtin.Slice.sliceApplied (.ref sl) (pure (n : Int))) Q E s := by
  obtain ⟨os, hos, hcs, hds⟩ := id hs
  unfold Builtin.Slice.sliceApplied Builtin.Slice.sliceFields
  refine wpAny_bind (wpAny_bind (wpAny_field hos hds (x := vl) rfl (wpAny_bind (wpAny_field hos hds (x := vu) rfl (wpAny_bind (wpAny_field hos hds (x := vs) rfl (wpAny_pure ?_)))))))
  refine wpAny_bind (HT.slicePart_ ps ?_)
  show wpAny _ _ (if ((-1 : Int) == 0) = true then _ else _) _ _ s
  rw [if_neg (by decide)]
  refine wpAny_bind (HT.slicePart_ pl (wpAny_bind (HT.slicePart_ pu (wpAny_bind (wpAny_pure ?_)))))
  show wpAny _ _ (match Builtin.Slice.sliceAdjust none none (-1) (n : Int) with | (lo, hi) => pure (lo, (-1 : Int), Builtin.Slice.slicePlaces lo hi (-1))) _ _ s
  have e1 : Builtin.Slice.sliceAdjust none none (-1) (n : Int) = ((n : Int) - 1, -1) := rfl
  rw [e1]
  show wpAny _ _ (pure ((n : Int) - 1, (-1 : Int), Builtin.Slice.slicePlaces ((n : Int) - 1) (-1) (-1))) _ _ s
  have e2 : Builtin.Slice.slicePlaces ((n : Int) - 1) (-1) (-1) = n := by
    unfold Builtin.Slice.slicePlaces
    rw [if_neg (by decide)]
    by_cases c : n = 0
    · subst c; rfl
    · rw [if_pos (by omega)]
      show (((n : Int) - 1 - -1 - 1) / 1 + 1).toNat = n
      rw [Int.ediv_one]; omega
  rw [e2]
  exact wpAny_pure h
theorem getItem_tuple_rev {t sl : Addr} {items : Array Value} {vl vu vs : Value} {Q : Value → Shared → Prop} (ht : IsTup s.heap t items) (hs : s.heap.IsSliceOf sl vl vu vs) (pl : IsPart vl none) (pu : IsPart vu none) (ps : IsPart vs (some (-1)))
    (h : Q (.ref s.heap.objs.size) { s with heap := s.heap.push { cls := .type "tuple", data := .seq items.toList.reverse.toArray } })
    (hsz : items.size ≤ sizeLine) : wpAny (model prog w) A (getItem (.ref t) (.ref sl)) Q E s := by
  have htake : sizeOk (.seq items.toList.reverse.toArray) := by
    show items.toList.reverse.toArray.size ≤ sizeLine
    simpa using hsz
  obtain ⟨os, hos, hcs, hds⟩ := id hs
  have hTs : s.TypeIs (.ref sl) "slice" := ⟨os, hos, hcs⟩
  unfold getItem
  try with_reducible refine wpAny_holding ?_
  first | refine wpAny_bind (wpAny_pure ?_) | skip
  refine wpAny_bind (wpAny_sequenceKey ht.typeIs (by decide) ?_)
  refine wpAny_bind (wpAny_callSpecial?_slot (name := Str.ofString "__getitem__") ht.typeIs PyProof.Rows.slot_tuple_getitem
    (wpAny_call_entry PyProof.Rows.slot_tuple_getitem ht.typeIs PyProof.Rows.entry_tuple_getitem ?_ (PyProof.Rows.args_tuple_getitem _ _)))
  show wpAny _ _ (Builtin.Tuple.tupleItemsOf (.ref t) >>= _) _ _ s
  refine wpAny_bind (PyProof.Rows.tupleItemsOf_ ht ?_)
  refine wpAny_bind (wpAny_typeOf hTs ?_)
  rw [if_pos (by decide)]
  refine wpAny_bind (sliceApplied_rev hs pl pu ps ?_)
  have hno : ¬ ((((items.size : Int) - 1) == 0 && (-1 : Int) == 1 && items.size == items.size) = true) := by
    intro q
    rw [Bool.and_eq_true, Bool.and_eq_true] at q
    exact absurd (eq_of_beq q.1.2) (by decide)
  show wpAny _ _ (if (((items.size : Int) - 1) == 0 && (-1 : Int) == 1 && items.size == items.size) = true then _ else _) _ _ s
  rw [if_neg hno, rev_pick]
  first
    | exact wpAny_bind (m := Builtin.Tuple.tupleExact _) (wpAny_newObj_type (wpAny_pure ⟨_, rfl, wpAny_pure h⟩) htake)
    | exact wpAny_bind (m := Builtin.Tuple.tupleExact _) (wpAny_newObj_type (wpAny_bind (wpAny_pure (wpAny_pure ⟨_, rfl, wpAny_pure h⟩))) htake)
    | exact wpAny_bind (wpAny_bind (m := Builtin.Tuple.tupleExact _) (wpAny_newObj_type (wpAny_pure (wpAny_pure ⟨_, rfl, wpAny_pure h⟩)) htake))
    | exact wpAny_bind (wpAny_bind (m := Builtin.Tuple.tupleExact _) (wpAny_newObj_type (wpAny_pure ⟨_, rfl, wpAny_pure h⟩) htake))
end
section
variable {X : Cx}
def tRevT (K : PySem.W.Frag) (te : TE) : TE := fun σ H Q => te σ H fun x H1 => ∃ a xs, x = .ref a ∧ SqT K H1 a xs ∧ ∀ p H2, Same H1 H2 → H1 p = none → H2 p = some (.tup xs.reverse) → Q (.ref p) H2
theorem pe_revT {e : Expr} {te : TE} {k : Nat} {p1 p2 p3 pos : Pos} (he : PE X e te) : PE X (.Subscript e (.Slice none none (some (.UnaryOp .USub (.Constant (.int 1) k p1) p2)) p3) pos) (tRevT X.K te) := by
  refine ⟨fun pins s σ H Q I h => ?_⟩
  refine Subscript_ (thn (he.run pins s σ H _ I h) fun v s1 ⟨x, H1, I1, r1, q1⟩ => ?_)
  obtain ⟨a, xs, ex, hx, q⟩ := q1
  subst ex
  cases r1
  have hst : PO X (some (.UnaryOp .USub (.Constant (.int 1) k p1) p2)) (tPart (tUn (rU fun i => .int (-i)) (tC (.int 1)))) := po_some (pe_un un_neg pe_int)
  refine wpAny_Slice (thn (po_none.run pins s1 σ H1 (fun o H2 => o = none ∧ H2 = H1) I1 ⟨rfl, rfl⟩) fun vl s2 ⟨l, H2, I2, pl, el, e2⟩ => ?_)
  subst el e2
  refine thn (po_none.run pins s2 σ H2 (fun o H3 => o = none ∧ H3 = H2) I2 ⟨rfl, rfl⟩) fun vu s3 ⟨u, H3, I3, pu, eu, e3⟩ => ?_
  subst eu e3
  refine thn (hst.run pins s3 σ H3 (fun o H4 => o = some (-1) ∧ H4 = H3) I3 ⟨1, rfl, -1, rfl, rfl, rfl⟩) fun vs s4 ⟨o, H4, I4, ps, eo, e4⟩ => ?_
  subst eo e4
  have I5 : Inv X pins σ H4 { s4 with heap := s4.heap.push { cls := .type "slice", data := .fields #[vl, vu, vs] } } := I4.kept (t' := s4.toks) fun b ob q => Heap.get?_push_of_some _ q
  obtain ⟨its, r, ht, hz⟩ := I5.tuple hx
  have hlen := r.length
  show wpAny (model X.prog X.w) X.A (subscriptTail e (.Slice none none (some (.UnaryOp .USub (.Constant (.int 1) k p1) p2)) p3) (.ref a) (.ref s4.heap.objs.size)) (EP X pins σ Q) X.xe { s4 with heap := s4.heap.push { cls := .type "slice", data := .fields #[vl, vu, vs] } }
  refine tail_any (ops := [.ref a, .ref s4.heap.objs.size]) ht.typeIs (PyProof.Rows.slot_tuple_getitem.lookup) ?_ (by with_unfolding_all rfl)
  refine getItem_tuple_rev ht (Heap.IsSliceOf.new _ vl vu vs) pl pu ps ?_ (by rw [List.size_toArray]; omega)
  refine ⟨.ref _, _, I5.laid (t' := s4.toks) (o := .tup xs.reverse) (fun b ob q => Heap.get?_push_of_some _ q) (Nat.le_refl _) ?_, rfl, q _ _ (same_upd (I5.hok.fresh (Nat.le_refl _))) (I5.hok.fresh (Nat.le_refl _)) upd_same⟩
  exact ⟨by rw [List.length_reverse]; exact hz, _, r.reverse, IsTup.new _ _⟩
end
end LK
namespace LK
open PySem PySem.Spec PyProof.Rows L2
/-! ### d.get(k) of a written dict with text keys -/
section
variable {X : Cx} {d : Addr} {es : Array DictEntry} {n : Nat} {o e : Expr} {apos cpos : Pos} {td ty : TE}
def tWget (K : PySem.W.Frag) (d : Addr) (td ty : TE) : TE := fun σ H Q => td σ H fun x H1 => x = .ref d ∧ ty σ H1 fun y H2 => ∃ (z : Str) (r : Option Value) (v : V), y = .str z ∧ PySem.W.nsIn K d z = some r ∧ RelV v (r.getD .none) ∧ Q v H2
theorem pe_wget (D : KDict X.K X.w d es n) (ho : PE X o td) (he : PE X e ty) (hbase : attributeBase o "get" X.env (eval o X.env) = eval o X.env := by rfl)
    (hfew : ((backTo cpos (starEach [e] X.env)).all (fun x => !x.1) && (backToKw cpos (keywordEach [] X.env)).all (fun x => x.1.isSome)
    && decide (([e] : List Expr).length + ([] : List Keyword).length + (if ([] : List Keyword).isEmpty then 0 else 1) < 30)) = true := by rfl)
    (hline : (apos.endLine == cpos.line) = true := by rfl) (htr : backTo cpos (starEach [e] X.env) = [(false, eval e X.env)] := by rfl) : PE X (.Call (.Attribute o "get" apos) [e] [] cpos) (tWget X.K d td ty) := by
  refine ⟨fun pins s σ H Q I h => ?_⟩
  refine wpAny_Call_method hbase hfew hline PySem.F.plainAttrs_dict PySem.F.slot_dict_get PySem.F.type_dict_get (thn (ho.run pins s σ H _ I h) fun u s1 ⟨x, H1, I1, rx, ex, q1⟩ => ?_)
  subst ex
  obtain rfl : u = Value.ref d := rx
  have ob := I1.kIn _ _ D.at_
  refine ⟨kd_type D I1, fun b q => ?_, ?_⟩
  · cases q
    exact ⟨_, ob, rfl⟩
  rw [htr]
  refine Calls.callWith_builtin rfl (Calls.evalArgs_plain (Calls.spliced_cons (thn (he.run pins s1 σ H1 _ I1 q1) fun iv s2 ⟨y, H2, I2, ry, z, r, v, ey, hn, rv, q2⟩ => Calls.spliced_nil ?_)))
  subst ey
  obtain ⟨t, rfl⟩ := ry
  refine call_meetsIn PySem.F.slot_dict_get (kd_type D I2) PySem.F.entry_dict_get (PySem.F.args_dict_get_2 _ _) (meets_dict_get (strKind X.prog X.w) d (PySem.strKind_is X.prog X.w z t) D.low)
    ⟨_, PySem.W.mapOf_K (prog := X.prog) I2.kIn D.at_ D.lit, v, H2, I2.tok _, ?_, q2⟩
  rw [PySem.W.find_K D.at_ hn]
  exact rv
end
end LK
namespace LK
open PySem PySem.Spec PyProof.Rows L2
/-! ### comprehensions without tests -/
/-- what is new since H -/
def nw (H H' : Hp) : Hp := fun a => if H a = none then H' a else none
theorem nw_some {H H' : Hp} {a : Addr} {o : HO} (h : nw H H' a = some o) : H a = none ∧ H' a = some o := by
  unfold nw at h
  split at h
  · exact ⟨by assumption, h⟩
  · cases h
theorem nw_of {H H' : Hp} {a : Addr} {o : HO} (h0 : H a = none) (h : H' a = some o) : nw H H' a = some o := by
  unfold nw
  rw [if_pos h0]; exact h
theorem nw_le (H H' : Hp) : Same (nw H H') H' := fun _ _ h => (nw_some h).2
theorem nw_hb {H H' : Hp} {b : Addr} {o : HO} (h : H b = some o) : Same (nw H H') (hb H' b) := fun a u e => by
  obtain ⟨h1, h2⟩ := nw_some e
  have n : a ≠ b := fun q => by rw [q, h] at h1; cases h1
  rw [hb_ne n]; exact h2
/-- new since a later heap is new since an earlier one -/
theorem nw_anti {H0 H H' : Hp} (d : ∀ a, H a = none → H0 a = none) : Same (nw H H') (nw H0 H') := fun a u e => by
  obtain ⟨h1, h2⟩ := nw_some e
  exact nw_of (d a h1) h2
theorem nw_same {H H' H'' : Hp} (s : ∀ a o, H a = none → H' a = some o → H'' a = some o) : Same (nw H H') (nw H H'') := fun a u e => by
  obtain ⟨h1, h2⟩ := nw_some e
  exact nw_of h1 (s _ _ h1 h2)
theorem Kp.dom {b : Addr} {H H' : Hp} {o : HO} (k : Kp b H H') (hb' : H' b = some o) : ∀ a, H' a = none → H a = none := fun a h => by
  cases q : H a with
  | none => rfl
  | some u =>
    by_cases e : a = b
    · subst e; rw [hb'] at h; cases h
    · rw [k.hd q e] at h; cases h
theorem Same.dom {H H' : Hp} (k : Same H H') : ∀ a, H' a = none → H a = none := fun a h => k.free h

/-- a pure one -/
theorem lc_pure {J : It} {n : Nat} {G : Hp → Prop} {Y : Nat → Hp → V → Hp → Prop} (w : Walk J n G Y) {g : TG} {te : TE} {vs : List Nat} {σ : L2.St} {H1 : Hp} {D : Addr} {Qd : Hp → Prop} (hD : H1 D = none) (hn : n ≤ 1000000) (y : Nat → V)
    (hG : ∀ H, Same H1 H → G H)
    (hs : ∀ i x H H', i < n → Same H1 H → Y i H x H' → g x (wipe σ vs) H' fun σ2 H2 => Same H H2 ∧ wipe σ2 vs = wipe σ vs ∧ ∀ Q2 : V → Hp → Prop, (∀ H3, Same H2 H3 → Q2 (y i) H3) → te σ2 H2 Q2)
    (gm : ∀ x σ0 H0 Q0 Q1, (∀ σ2 H2, Q0 σ2 H2 → Q1 σ2 H2) → g x σ0 H0 Q0 → g x σ0 H0 Q1)
    (hq : ∀ H', Same H1 H' → H' D = some (.lst ((List.range n).map y)) → Qd H') :
    ∃ W : Nat → Nat → Hp → Prop, (∃ m, W 0 m (upd H1 D (.lst []))) ∧ ∀ i m H, W i m H →
      (J.stop i H ∧ Qd H) ∨ (J.go i H ∧ ∃ Nx : Hp → Prop, (∀ H', Nx H' → ∃ m', m' < m ∧ W (i + 1) m' H') ∧ ∀ x H', J.yld i H x H' → g x (wipe σ vs) H' fun σ2 H2 => wipe σ2 vs = wipe σ vs ∧ tYes σ2 H2 fun b H3 =>
        if b = true then te σ2 H3 fun y H4 => ∃ acc, H4 D = some (.lst acc) ∧ acc.length < sizeLine ∧ Nx (upd H4 D (.lst (acc ++ [y]))) else Nx H3) := by
  have up : ∀ {H : Hp} {o : HO}, Same H1 H → Same H1 (upd H D o) := fun s a u e => by
    rw [upd_ne (ne_of_none e hD)]; exact s _ _ e
  refine lc_it w (fun i H => Same H1 H ∧ H D = some (.lst ((List.range i).map y))) ⟨up (Same.refl _), upd_same⟩ (fun i H _ h => hG H h.1) (fun i x H H' hi ⟨s1, h1⟩ hY => ?_) (fun H h => hq H h.1 h.2)
  refine gm _ _ _ _ _ (fun σ2 H2 ⟨s2, e2, k⟩ => ⟨e2, ?_⟩) (hs i x H H' hi s1 hY)
  simp only [tYes, eq_self, ite_true]
  refine k _ fun H3 s3 => ⟨_, s3 _ _ (s2 _ _ h1), ?_, up (Same.trans (Same.trans s1 s2) s3), ?_⟩
  · rw [List.length_map, List.length_range]
    exact Nat.lt_of_lt_of_le (Nat.lt_of_lt_of_le hi hn) (by decide)
  · rw [upd_same, List.range_succ, List.map_append]
    rfl
/-- one that draws from a bag -/
theorem lc_bag {J : It} {n k N : Nat} {G : Hp → Prop} {Y : Nat → Hp → V → Hp → Prop} (w : Walk J n G Y) {g : TG} {te : TE} {vs : List Nat} {σ : L2.St} {H1 : Hp} {D b c : Addr} {Qd : Hp → Prop} (hD : H1 D = none) (hB : Bag (N + n * k) H1 b c) (hn : n ≤ 1000000) (Φ : Hp → V → Prop) (mono : ∀ G G' v, Same G G' → Φ G v → Φ G' v)
    (hG : ∀ H, Kp b H1 H → G H)
    (hs : ∀ i x H H' M, i < n → Kp b H1 H → Bag (M + k) H b c → Y i H x H' → g x (wipe σ vs) H' fun σ2 H2 => Same H H2 ∧ wipe σ2 vs = wipe σ vs ∧ ∀ Q2 : V → Hp → Prop, (∀ v H3, Bag M H3 b c → Kp b H2 H3 → Φ (nw H2 H3) v → Q2 v H3) → te σ2 H2 Q2)
    (gm : ∀ x σ0 H0 Q0 Q1, (∀ σ2 H2, Q0 σ2 H2 → Q1 σ2 H2) → g x σ0 H0 Q0 → g x σ0 H0 Q1)
    (hq : ∀ H' ys, Bag N H' b c → Kp b H1 H' → H' D = some (.lst ys) → ys.length = n → (∀ v ∈ ys, Φ (nw (upd H1 D (.lst [])) H') v) → Qd H') :
    ∃ W : Nat → Nat → Hp → Prop, (∃ m, W 0 m (upd H1 D (.lst []))) ∧ ∀ i m H, W i m H →
      (J.stop i H ∧ Qd H) ∨ (J.go i H ∧ ∃ Nx : Hp → Prop, (∀ H', Nx H' → ∃ m', m' < m ∧ W (i + 1) m' H') ∧ ∀ x H', J.yld i H x H' → g x (wipe σ vs) H' fun σ2 H2 => wipe σ2 vs = wipe σ vs ∧ tYes σ2 H2 fun b H3 =>
        if b = true then te σ2 H3 fun y H4 => ∃ acc, H4 D = some (.lst acc) ∧ acc.length < sizeLine ∧ Nx (upd H4 D (.lst (acc ++ [y]))) else Nx H3) := by
  obtain ⟨xb, eb⟩ := hB.at
  obtain ⟨xc, ec⟩ := hB.at2
  have nbD : b ≠ D := fun e => by rw [← e, eb] at hD; cases hD
  have ncD : c ≠ D := fun e => by rw [← e, ec] at hD; cases hD
  have up : ∀ {H : Hp} {o : HO}, Kp b H1 H → Kp b H1 (upd H D o) := fun s a u e => by
    obtain ⟨h1, h2⟩ := hb_some e
    rw [hb_ne h1, upd_ne (ne_of_none h2 hD)]
    exact s.hd h2 h1
  refine lc_it w (fun i H => Kp b H1 H ∧ Bag (N + (n - i) * k) H b c ∧ ∃ ys, H D = some (.lst ys) ∧ ys.length = i ∧ ∀ v ∈ ys, Φ (nw (upd H1 D (.lst [])) H) v) ⟨up (Kp.refl _ _), hB.upd nbD ncD, [], upd_same, rfl, fun v hv => absurd hv (by simp)⟩ (fun i H _ h => hG H h.1) (fun i x H H' hi ⟨s1, B1, ys, h1, hl, hp⟩ hY => ?_) (fun H ⟨s1, B1, ys, h1, hl, hp⟩ => hq H ys (B1.le (Nat.le_add_right _ _)) s1 h1 hl hp)
  refine gm _ _ _ _ _ (fun σ2 H2 ⟨s2, e2, kq⟩ => ⟨e2, ?_⟩) (hs i x H H' (N + (n - (i + 1)) * k) hi s1 (B1.le (by
    have e : n - i = (n - (i + 1)) + 1 := by omega
    rw [e, Nat.add_mul, Nat.one_mul, Nat.add_assoc]; exact Nat.le_refl _)) hY)
  simp only [tYes, eq_self, ite_true]
  have B2 := B1.same s2
  refine kq _ fun v H3 B3 k3 hv => ⟨ys, k3.hd (s2 _ _ h1) nbD.symm, ?_, up (Same.trans (Same.trans s1 (Kp.of s2)) k3), B3.upd nbD ncD, ys ++ [v], upd_same, by rw [List.length_append, hl]; rfl, fun u hu => ?_⟩
  · rw [hl]
    exact Nat.lt_of_lt_of_le (Nat.lt_of_lt_of_le hi hn) (by decide)
  · have kk : ∀ a o, upd H1 D (.lst []) a = none → H3 a = some o → upd H3 D (.lst (ys ++ [v])) a = some o := fun a o q e => by
      have n : a ≠ D := fun z => by rw [z, upd_same] at q; cases q
      rw [upd_ne n]; exact e
    rcases List.mem_append.mp hu with hu | hu
    · refine mono _ _ _ (fun a o e => ?_) (hp u hu)
      obtain ⟨q1, q2⟩ := nw_some e
      have n : a ≠ b := fun z => by rw [z, upd_ne nbD, eb] at q1; cases q1
      exact nw_of q1 (kk _ _ q1 (k3.hd (s2 _ _ q2) n))
    · obtain rfl : u = v := by simpa using hu
      refine mono _ _ _ (fun a o e => ?_) hv
      obtain ⟨q1, q2⟩ := nw_some e
      have d1 : upd H1 D (.lst []) a = none := by
        by_cases n : a = D
        · rw [n, s2 _ _ h1] at q1; cases q1
        · rw [upd_ne n]
          exact Kp.dom (Same.trans s1 (Kp.of s2)) (B2.at.choose_spec) a q1
      exact nw_of d1 (kk _ _ d1 q2)
end LK
namespace LK
open PySem PySem.Spec PyProof.Rows L2
theorem cutV_take (xs : List V) (k : Nat) : cutV xs none (some (k : Int)) = xs.take k := by
  unfold cutV HT.sIx
  simp only [List.drop_zero, Nat.sub_zero]
  by_cases h : (k : Int) < 0
  · omega
  · rw [if_neg h]
    have e : ((k : Int)).toNat = k := Int.toNat_natCast k
    by_cases c : k ≤ xs.length
    · congr 1
      omega
    · rw [List.take_of_length_le (by omega), List.take_of_length_le (by omega)]
theorem cutV_drop (xs : List V) (k : Nat) : cutV xs (some (k : Int)) none = xs.drop k := by
  unfold cutV
  rw [HT.sIx_nat, HT.sIx_none]
  by_cases c : k ≤ xs.length
  · rw [Nat.min_eq_left c, List.take_of_length_le (by simp)]
  · rw [Nat.min_eq_right (by omega), List.drop_eq_nil_of_le (by omega), List.drop_eq_nil_of_le (by omega)]
    simp
end LK
namespace LK
open PySem PySem.Spec PyProof.Rows L2
/-! ### new objects, the heap behind them by a name -/
section
variable {X : Cx} {es : List Expr} {t : TA} {pos : Pos}
def tTupU (t : TA) : TE := fun σ H Q => t σ H fun xs H1 => xs.length ≤ sizeLine ∧ ∀ p H2, Same H1 H2 → H1 p = none → H2 p = some (.tup xs) → Q (.ref p) H2
def tLstU (t : TA) : TE := fun σ H Q => t σ H fun xs H1 => xs.length ≤ sizeLine ∧ ∀ p H2, Same H1 H2 → H1 p = none → H2 p = some (.lst xs) → Q (.ref p) H2
theorem pe_tupU {x1} (h : PA X es t) : PE X (.Tuple es x1 pos) (tTupU t) := by
  refine ⟨fun pins s σ H Q I hq => ?_⟩
  refine wpAny_Tuple_spliced (thn (h.run pos pins s σ H _ I hq) fun us s1 ⟨xs, H1, I1, r, z, q⟩ => ⟨by rw [← r.length]; exact z, ?_⟩)
  have hf : H1 s1.heap.objs.size = none := I1.hok.fresh (Nat.le_refl _)
  refine ⟨.ref s1.heap.objs.size, L2.upd H1 s1.heap.objs.size (.tup xs), I1.laid (t' := s1.toks) (fun b u e => Heap.get?_push_of_some _ e) (Nat.le_refl _) ?_, rfl, q _ _ (same_upd hf) hf upd_same⟩
  exact ⟨z, us, r, ⟨_, Heap.get?_push_size _ rfl, rfl, _, rfl⟩⟩
theorem pe_lstU (h : PA X es t) : PE X (.List es pos) (tLstU t) := by
  refine ⟨fun pins s σ H Q I hq => ?_⟩
  refine wpAny_List_spliced (thn (h.run pos pins s σ H _ I hq) fun us s1 ⟨xs, H1, I1, r, z, q⟩ => ⟨by rw [← r.length]; exact z, ?_⟩)
  have hf : H1 s1.heap.objs.size = none := I1.hok.fresh (Nat.le_refl _)
  refine ⟨.ref s1.heap.objs.size, L2.upd H1 s1.heap.objs.size (.lst xs), I1.laid (t' := s1.toks) (fun b u e => Heap.get?_push_of_some _ e) (Nat.le_refl _) ?_, rfl, q _ _ (same_upd hf) hf upd_same⟩
  exact ⟨z, us, 0, r, Heap.get?_push_size _ rfl⟩
def rSlLU (K : PySem.W.Frag) : V → Option Int → Option Int → Hp → VK → Prop := fun x lo hi H Q => ∃ a xs, x = .ref a ∧ SqL K H a xs ∧ ∀ p H2, Same H H2 → H p = none → H2 p = some (.lst (cutV xs lo hi)) → Q (.ref p) H2
theorem sl_listU : SlR X (rSlLU X.K) := by
  intro pins s σ H x v vl vu lo hi sl Q I rx hs pl pu h
  obtain ⟨a, xs, rfl, hx, q⟩ := h
  exact sl_list pins s σ H _ v vl vu lo hi sl Q I rx hs pl pu ⟨a, xs, rfl, hx, fun p hp => q p _ (same_upd hp) hp upd_same⟩
theorem call_listU : CallR X (.type "list") (fun xs H Q => ∃ p ys, xs = [.ref p] ∧ (SqL X.K H p ys ∨ SqT X.K H p ys) ∧ ∀ l H2, Same H H2 → H l = none → H2 l = some (.lst ys) → Q (.ref l) H2) := cr_imp call_list_of fun xs H Q h => by
  obtain ⟨p, ys, rfl, h, q⟩ := h
  exact ⟨p, ys, rfl, h, fun l hl => q l _ (same_upd hl) hl upd_same⟩
def rCatL : R2 := fun x y H Q => ∃ l b xs zs, x = .ref l ∧ y = .ref b ∧ H l = some (.lst xs) ∧ H b = some (.lst zs) ∧ xs.length + zs.length ≤ sizeLine ∧ ∀ p H2, Same H H2 → H p = none → H2 p = some (.lst (xs ++ zs)) → Q (.ref p) H2
theorem op_catL : OpR X (binaryOp .Add) rCatL := opr_imp op_cat fun x y H Q h => by
  obtain ⟨l, b, xs, zs, rfl, rfl, h1, h2, hz, q⟩ := h
  exact ⟨l, b, xs, zs, rfl, rfl, h1, h2, hz, fun p hp => q p _ (same_upd hp) hp upd_same⟩
def rRepL : R2 := fun x y H Q => ∃ l k xs, x = .ref l ∧ y = .int k ∧ H l = some (.lst xs) ∧ -(2 ^ 63) ≤ k ∧ k < 2 ^ 63 ∧ xs.length * k.toNat ≤ sizeLine ∧ ∀ p H2, Same H H2 → H p = none → H2 p = some (.lst (List.replicate k.toNat xs).flatten) → Q (.ref p) H2
theorem op_repL : OpR X (binaryOp .Mult) rRepL := opr_imp op_rep fun x y H Q h => by
  obtain ⟨l, k, xs, rfl, rfl, h1, h2, h3, hz, q⟩ := h
  exact ⟨l, k, xs, rfl, rfl, h1, h2, h3, hz, fun p hp => q p _ (same_upd hp) hp upd_same⟩
end
end LK
namespace LK
open PySem PySem.Spec PyProof.Rows L2
/-- [f(x) for x in ..], the items known -/
theorem lc_map {J : It} {n : Nat} {G : Hp → Prop} {Y : Nat → Hp → V → Hp → Prop} (w : Walk J n G Y) {te : TE} {i : Nat} {σ : L2.St} {H1 : Hp} {D : Addr} {Qd : Hp → Prop} (xs : List V) (f : V → V) (hD : H1 D = none) (hn : n ≤ 1000000) (hx : xs.length = n)
    (hY : ∀ k H x H', k < n → Y k H x H' → H' = H ∧ xs[k]? = some x) (hG : ∀ H, Same H1 H → G H)
    (hs : ∀ x H, x ∈ xs → Same H1 H → ∀ Q2 : V → Hp → Prop, (∀ H3, Same H H3 → Q2 (f x) H3) → te ((wipe σ [i]).set i (some x)) H Q2)
    (hq : ∀ H', Same H1 H' → H' D = some (.lst (xs.map f)) → Qd H') :
    ∃ W : Nat → Nat → Hp → Prop, (∃ m, W 0 m (L2.upd H1 D (.lst []))) ∧ ∀ i' m H, W i' m H →
      (J.stop i' H ∧ Qd H) ∨ (J.go i' H ∧ ∃ Nx : Hp → Prop, (∀ H', Nx H' → ∃ m', m' < m ∧ W (i' + 1) m' H') ∧ ∀ x H', J.yld i' H x H' → gName i x (wipe σ [i]) H' fun σ2 H2 => wipe σ2 [i] = wipe σ [i] ∧ tYes σ2 H2 fun b H3 =>
        if b = true then te σ2 H3 fun y H4 => ∃ acc, H4 D = some (.lst acc) ∧ acc.length < sizeLine ∧ Nx (L2.upd H4 D (.lst (acc ++ [y]))) else Nx H3) := by
  have e : (List.range n).map (fun k => f (xs.getD k .non)) = xs.map f := by
    refine List.ext_getElem? fun k => ?_
    rw [List.getElem?_map, List.getElem?_map]
    by_cases hk : k < n
    · rw [List.getElem?_range hk, List.getElem?_eq_getElem (by omega)]
      simp [List.getD_eq_getElem?_getD, List.getElem?_eq_getElem (show k < xs.length by omega)]
    · rw [List.getElem?_eq_none (by simpa using hk), List.getElem?_eq_none (by omega)]
      rfl
  refine lc_pure w hD hn (fun k => f (xs.getD k .non)) hG (fun k x H H' hk s1 y => ?_) (fun x σ0 H0 Q0 Q1 h q => h _ _ q) (fun H' s h => hq H' s (by rw [← e]; exact h))
  obtain ⟨rfl, hx2⟩ := hY _ _ _ _ hk y
  refine ⟨Same.refl _, ?_, fun Q2 h2 => hs x H' (List.mem_of_getElem? hx2) s1 Q2 fun H3 s3 => ?_⟩
  · show ((σ.set i none).set i (some x)).set i none = σ.set i none
    rw [List.set_set, List.set_set]
  · have e2 : xs.getD k .non = x := by rw [List.getD_eq_getElem?_getD, hx2]; rfl
    have := h2 H3 s3
    rw [e2] at this
    exact this
/-- the same, drawing from a bag -/
theorem lc_draw {J : It} {n k N : Nat} {G : Hp → Prop} {Y : Nat → Hp → V → Hp → Prop} (w : Walk J n G Y) {te : TE} {i : Nat} {σ : L2.St} {H1 : Hp} {D b c : Addr} {Qd : Hp → Prop} (Φ : Hp → V → Prop) (mono : ∀ G G' v, Same G G' → Φ G v → Φ G' v) (hD : H1 D = none) (hB : Bag (N + n * k) H1 b c) (hn : n ≤ 1000000)
    (hY : ∀ k H x H', Y k H x H' → H' = H) (hG : ∀ H, Kp b H1 H → G H)
    (hs : ∀ x H M, Kp b H1 H → Bag (M + k) H b c → ∀ Q2 : V → Hp → Prop, (∀ v H3, Bag M H3 b c → Kp b H H3 → Φ (nw H H3) v → Q2 v H3) → te ((wipe σ [i]).set i (some x)) H Q2)
    (hq : ∀ H' ys, Bag N H' b c → Kp b H1 H' → H' D = some (.lst ys) → ys.length = n → (∀ v ∈ ys, Φ (nw (L2.upd H1 D (.lst [])) H') v) → Qd H') :
    ∃ W : Nat → Nat → Hp → Prop, (∃ m, W 0 m (L2.upd H1 D (.lst []))) ∧ ∀ i' m H, W i' m H →
      (J.stop i' H ∧ Qd H) ∨ (J.go i' H ∧ ∃ Nx : Hp → Prop, (∀ H', Nx H' → ∃ m', m' < m ∧ W (i' + 1) m' H') ∧ ∀ x H', J.yld i' H x H' → gName i x (wipe σ [i]) H' fun σ2 H2 => wipe σ2 [i] = wipe σ [i] ∧ tYes σ2 H2 fun b H3 =>
        if b = true then te σ2 H3 fun y H4 => ∃ acc, H4 D = some (.lst acc) ∧ acc.length < sizeLine ∧ Nx (L2.upd H4 D (.lst (acc ++ [y]))) else Nx H3) := by
  refine lc_bag w hD hB hn Φ mono hG (fun j x H H' M hk s1 B1 y => ?_) (fun x σ0 H0 Q0 Q1 h q => h _ _ q) hq
  have e := hY _ _ _ _ y
  subst e
  refine ⟨Same.refl _, ?_, fun Q2 h2 => hs x H' M s1 B1 Q2 h2⟩
  show ((σ.set i none).set i (some x)).set i none = σ.set i none
  rw [List.set_set, List.set_set]
def signsV (z : Str) : List V := z.cps.toList.map fun c => V.str ⟨#[c]⟩
theorem signsV_at {z : Str} : ∀ (k : Nat) (H : Hp) (x : V) (H' : Hp), (H' = H ∧ ∃ c, z.cps[k]? = some c ∧ x = V.str ⟨#[c]⟩) → H' = H ∧ (signsV z)[k]? = some x := by
  rintro k H x H' ⟨rfl, c, h, rfl⟩
  refine ⟨rfl, ?_⟩
  unfold signsV
  rw [List.getElem?_map, Array.getElem?_toList, h]
  rfl
theorem signsV_length (z : Str) : (signsV z).length = z.cps.size := by simp [signsV]
theorem all_map_id {α : Type} (p : α → Bool) (l : List α) : (l.map p).all id = l.all p := by
  rw [List.all_map]; rfl
end LK
namespace LK
open PySem PySem.Spec PyProof.Rows L2
/-- [p(c) for c in z], z a text -/
theorem lc_signs {z : Str} {te : TE} {i : Nat} {σ : L2.St} {H1 : Hp} {D : Addr} {Qd : Hp → Prop} (p : Nat → Bool) (hD : H1 D = none) (hz : z.length ≤ 1000000)
    (hs : ∀ c H, c ∈ z.cps.toList → Same H1 H → ∀ Q2 : V → Hp → Prop, (∀ H3, Same H H3 → Q2 (.bl (p c)) H3) → te ((wipe σ [i]).set i (some (.str ⟨#[c]⟩))) H Q2)
    (hq : ∀ H', Same H1 H' → H' D = some (.lst ((z.cps.toList.map p).map V.bl)) → Qd H') :
    ∃ W : Nat → Nat → Hp → Prop, (∃ m, W 0 m (L2.upd H1 D (.lst []))) ∧ ∀ i' m H, W i' m H →
      ((Its z).stop i' H ∧ Qd H) ∨ ((Its z).go i' H ∧ ∃ Nx : Hp → Prop, (∀ H', Nx H' → ∃ m', m' < m ∧ W (i' + 1) m' H') ∧ ∀ x H', (Its z).yld i' H x H' → gName i x (wipe σ [i]) H' fun σ2 H2 => wipe σ2 [i] = wipe σ [i] ∧ tYes σ2 H2 fun b H3 =>
        if b = true then te σ2 H3 fun y H4 => ∃ acc, H4 D = some (.lst acc) ∧ acc.length < sizeLine ∧ Nx (L2.upd H4 D (.lst (acc ++ [y]))) else Nx H3) := by
  refine lc_map walk_str (signsV z) (fun v => match v with | .str y => .bl (p (y.cps.toList.headD 0)) | _ => .non) hD hz (signsV_length z) (fun k H x H' _ y => signsV_at k H x H' y) (fun _ _ => trivial) (fun x H hx s1 Q2 h2 => ?_) (fun H' s h => hq H' s ?_)
  · obtain ⟨c, hc, rfl⟩ := List.mem_map.mp hx
    exact hs c H hc s1 Q2 h2
  · rw [h]
    unfold signsV
    rw [List.map_map, List.map_map]
    rfl
theorem starts_minus {z : Str} (h : Txt.startswith z "-" = true) : ∃ r, z.cps.toList = 45 :: r := by
  have h2 : PySem.StrLaws.At z "-" z.length 0 := by
    unfold Txt.startswith at h
    rw [Bool.and_eq_true] at h
    exact ⟨of_decide_eq_true h.1, h.2⟩
  have e : TL.tl "-" = [45] := by decide +kernel
  have q := (TL.at_iff (by rw [e]; simp) 0).mp h2
  rw [e, List.drop_zero] at q
  unfold TL.pre at q
  have q2 : z.cps.toList.take 1 = [45] := eq_of_beq q
  cases hz : z.cps.toList with
  | nil => rw [hz] at q2; simp at q2
  | cons c r => rw [hz] at q2; simp at q2; rw [q2]; exact ⟨r, rfl⟩
theorem cutS_tail (z : Str) : (cutS z (some 1) none).cps.toList = z.cps.toList.drop 1 := by
  unfold cutS
  have e1 := HT.sIx_nat z.length 0 1
  have l : z.length = z.cps.toList.length := by rw [Array.length_toList]; rfl
  show ((z.cps.toList.drop (HT.sIx z.length 0 (some ((1 : Nat) : Int)))).take (HT.sIx z.length z.length none - HT.sIx z.length 0 (some ((1 : Nat) : Int)))) = _
  rw [e1, HT.sIx_none]
  by_cases c : 1 ≤ z.length
  · rw [Nat.min_eq_left c, List.take_of_length_le (by rw [List.length_drop]; omega)]
  · rw [List.drop_eq_nil_of_le (by omega), List.drop_eq_nil_of_le (by omega)]
    simp
theorem len_cps (z : Str) : z.cps.toList.length = z.length := by rw [Array.length_toList]; rfl
end LK
namespace LK
theorem iteTT {c A B : Prop} [Decidable c] (hc : c) (h : A) : if c then A else B := by rw [if_pos hc]; exact h
theorem iteFF {c A B : Prop} [Decidable c] (hc : ¬ c) (h : B) : if c then A else B := by rw [if_neg hc]; exact h
end LK
namespace LK
open PySem PySem.Spec PyProof.Rows L2
theorem str_append (a b : Str) : (a ++ b).cps.toList = a.cps.toList ++ b.cps.toList := by
  show (a.cps ++ b.cps).toList = _
  exact Array.toList_append
theorem str_append_len (a b : Str) : (a ++ b).length = a.length + b.length := by
  rw [← len_cps, str_append, List.length_append, len_cps, len_cps]
theorem cutS_tail_len (z : Str) : (cutS z (some 1) none).length = z.length - 1 := by
  rw [← len_cps, cutS_tail, List.length_drop, len_cps]
theorem cutS_len (z : Str) (lo hi : Option Int) : (cutS z lo hi).length ≤ z.length := by
  rw [← len_cps, ← len_cps z]
  unfold cutS
  show (List.take _ (List.drop _ _)).length ≤ _
  rw [List.length_take, List.length_drop]
  omega
end LK
namespace LK
open PySem PySem.Spec PyProof.Rows L2
/-- [f(k) for k in range(n)] -/
theorem lc_rng {lo : Int} {n : Nat} {te : TE} {i : Nat} {σ : L2.St} {H1 : Hp} {D : Addr} {Qd : Hp → Prop} (f : Int → V) (hD : H1 D = none) (hn : n ≤ 1000000)
    (hs : ∀ (k : Nat) H, k < n → Same H1 H → ∀ Q2 : V → Hp → Prop, (∀ H3, Same H H3 → Q2 (f (lo + (k : Int))) H3) → te ((wipe σ [i]).set i (some (.int (lo + (k : Int))))) H Q2)
    (hq : ∀ H', Same H1 H' → H' D = some (.lst ((List.range n).map fun (k : Nat) => f (lo + (k : Int)))) → Qd H') :
    ∃ W : Nat → Nat → Hp → Prop, (∃ m, W 0 m (L2.upd H1 D (.lst []))) ∧ ∀ i' m H, W i' m H →
      ((Itr lo n).stop i' H ∧ Qd H) ∨ ((Itr lo n).go i' H ∧ ∃ Nx : Hp → Prop, (∀ H', Nx H' → ∃ m', m' < m ∧ W (i' + 1) m' H') ∧ ∀ x H', (Itr lo n).yld i' H x H' → gName i x (wipe σ [i]) H' fun σ2 H2 => wipe σ2 [i] = wipe σ [i] ∧ tYes σ2 H2 fun b H3 =>
        if b = true then te σ2 H3 fun y H4 => ∃ acc, H4 D = some (.lst acc) ∧ acc.length < sizeLine ∧ Nx (L2.upd H4 D (.lst (acc ++ [y]))) else Nx H3) := by
  refine lc_map walk_range ((List.range n).map fun (k : Nat) => V.int (lo + (k : Int))) (fun v => match v with | .int j => f j | _ => .non) hD hn (by rw [List.length_map, List.length_range]) (fun k H x H' hk y => ?_) (fun _ _ => trivial) (fun x H hx s1 Q2 h2 => ?_) (fun H' s h => hq H' s ?_)
  · refine ⟨y.1, ?_⟩
    rw [List.getElem?_map, List.getElem?_range hk, y.2]
    rfl
  · obtain ⟨k, hk, rfl⟩ := List.mem_map.mp hx
    exact hs k H (List.mem_range.mp hk) s1 Q2 h2
  · rw [h, List.map_map]
    rfl
end LK
namespace LK
open PySem PySem.Spec PyProof.Rows L2
section
variable {X : Cx} {K : PySem.W.Frag}
theorem call_isiDK (hK : X.K = K) : CallR X (.builtin "isinstance") (fun xs H Q => ∃ x T d, xs = [x, .ty T] ∧ Dp K H x d ∧ T ∈ ["str", "int", "bool", "list", "tuple"] ∧ Q (.bl (isTy T d)) H) := by
  subst hK
  exact call_isiD
end
end LK
namespace LK
open PySem PySem.Spec PyProof.Rows L2
section
variable {X : Cx}
/-- tuple(x) of a list: a new tuple -/
theorem call_tupleN : CallR X (.type "tuple") (fun xs H Q => ∃ p ys, xs = [.ref p] ∧ SqL X.K H p ys ∧ ∀ q H', Same H H' → H q = none → H' q = some (.tup ys) → Q (.ref q) H') := cr_imp call_tuple_of fun xs H Q h => by
  obtain ⟨p, ys, rfl, h, q⟩ := h
  exact ⟨p, ys, rfl, .inl ⟨h, fun l hl => q l _ (same_upd hl) hl upd_same⟩⟩
end
theorem strs_of {m : Nat} : ∀ {l : List V}, (∀ v ∈ l, ∃ z, v = V.str z ∧ z.length ≤ m) → ∃ zs : List Str, l = zs.map V.str ∧ ∀ z ∈ zs, z.length ≤ m
  | [], _ => ⟨[], rfl, fun z h => absurd h (by simp)⟩
  | v :: l, h => by
    obtain ⟨z, rfl, hz⟩ := h v List.mem_cons_self
    obtain ⟨zs, rfl, hzs⟩ := strs_of (l := l) fun v hv => h v (List.mem_cons_of_mem _ hv)
    refine ⟨z :: zs, rfl, fun y hy => ?_⟩
    rcases List.mem_cons.mp hy with rfl | hy
    · exact hz
    · exact hzs y hy
theorem sum_le {m : Nat} : ∀ {zs : List Str}, (∀ z ∈ zs, z.length ≤ m) → (zs.map (·.length)).sum ≤ zs.length * m
  | [], _ => by simp
  | z :: zs, h => by
    rw [List.map_cons, List.sum_cons, List.length_cons, Nat.succ_mul]
    have h1 := h z List.mem_cons_self
    have h2 := sum_le (zs := zs) fun y hy => h y (List.mem_cons_of_mem _ hy)
    omega
end LK
namespace LK
open PySem PySem.Spec PyProof.Rows L2
theorem joinL_len (S : List Nat) : ∀ ps : List (List Nat), (TL.joinL S ps).length ≤ (ps.map List.length).sum + ps.length * S.length
  | [] => by simp [TL.joinL]
  | [p] => by simp [TL.joinL]
  | p :: q :: r => by
    have ih := joinL_len S (q :: r)
    show (p ++ (S ++ TL.joinL S (q :: r))).length ≤ _
    rw [List.length_append, List.length_append, List.map_cons, List.sum_cons, List.length_cons, Nat.succ_mul]
    omega
theorem join_len (y : Str) (zs : List Str) : (Txt.join y zs).length ≤ (zs.map (·.length)).sum + zs.length * y.length := by
  rw [TL.join_eq, ← len_cps]
  have e := TL.tl_join y zs
  show (TL.tl (Str.join y zs)).length ≤ _
  rw [e]
  refine Nat.le_trans (joinL_len _ _) ?_
  rw [List.map_map, List.length_map]
  have e1 : ((zs.map (List.length ∘ TL.tl))) = zs.map (·.length) := List.map_congr_left fun z _ => len_cps z
  rw [e1]
  show _ + zs.length * (y.cps.toList).length ≤ _
  rw [len_cps]
  exact Nat.le_refl _
/-- the list that lc_draw has made, as texts -/
theorem kp_new {N : Nat} {b c : Addr} {H H1 : Hp} (B : Bag N H b c) (s : Same H H1) : Kp b H H1 ∧ Bag N H1 b c := ⟨Kp.of s, B.same s⟩
theorem hb_new {N : Nat} {b c p : Addr} {H H1 : Hp} {o : HO} (B : Bag N H b c) (h0 : H p = none) (h1 : H1 p = some o) : hb H1 b p = some o := by
  have n : p ≠ b := fun e => by
    obtain ⟨xs, q⟩ := B.at
    rw [e, q] at h0; cases h0
  rw [hb_ne n]; exact h1
end LK
namespace LK
open PySem PySem.Spec PyProof.Rows L2
def isIntV : V → Bool
  | .int _ => true
  | _ => false
theorem ints_of {l : List V} (h : l.all isIntV = true) : ∀ y ∈ l, ∃ i, y = V.int i := fun y hy => by
  have q := List.all_eq_true.mp h y hy
  cases y <;> first | exact ⟨_, rfl⟩ | simp [isIntV] at q
end LK
namespace LK
open PySem PySem.Spec PyProof.Rows L2
theorem nx_op {t : TS} {D : Ends} {σ : L2.St} {H : Hp} (h : ∀ N : L2.St → Hp → Prop, (∀ σ' H', D.nx σ' H' → N σ' H') → t { D with nx := N } σ H) : t D σ H := h D.nx fun _ _ z => z
/-- a test that changes nothing and whose answer does not matter -/
theorem if_any {c : TT} {t u : TS} {D : Ends} {σ : L2.St} {H : Hp} (hc : ∀ K : Bool → Hp → Prop, (∀ b, K b H) → c σ H K) (hA : t D σ H) (hB : u D σ H) : tIfS c t u D σ H := hc _ fun b => by
  cases b
  · exact iteFF (by decide) hB
  · exact iteTT rfl hA
end LK
namespace LK
open PySem PySem.Spec PyProof.Rows L2
theorem if_anyS {c : TT} {t u : TS} {D : Ends} {σ : L2.St} {H : Hp} (hc : ∀ K : Bool → Hp → Prop, (∀ b H1, Same H H1 → K b H1) → c σ H K) (hA : ∀ H1, Same H H1 → t D σ H1) (hB : ∀ H1, Same H H1 → u D σ H1) : tIfS c t u D σ H := hc _ fun b H1 s => by
  cases b
  · exact iteFF (by decide) (hB H1 s)
  · exact iteTT rfl (hA H1 s)
end LK
namespace LK
open PySem PySem.Spec PyProof.Rows L2
theorem if_of {c : TT} {t u : TS} {D : Ends} {σ : L2.St} {H : Hp} (R : Bool → Prop) (hc : ∀ K : Bool → Hp → Prop, (∀ b H1, R b → Same H H1 → K b H1) → c σ H K) (hA : ∀ H1, R true → Same H H1 → t D σ H1) (hB : ∀ H1, R false → Same H H1 → u D σ H1) : tIfS c t u D σ H := hc _ fun b H1 r s => by
  cases b
  · exact iteFF (by decide) (hB H1 r s)
  · exact iteTT rfl (hA H1 r s)
end LK

set_option Elab.async false
set_option linter.all false
set_option maxRecDepth 100000
namespace PySem
open Sem (wp)
open AutoSeq1 (wpAny_loadPart')
/-! ### enumerate of a tuple -/
theorem meets_enumerate_newT (l : Addr) (items : Array Value) (n : Nat) (dct : Option Addr) (sl : Array (Option Value)) :
    Meets (Builtin.«enumerate.__new__» ⟨[.type "enumerate", .ref l], []⟩) (fun _ R s => s.heap.get? l = some { cls := .type "tuple", dict := dct, data := .seq items n, slots := sl } ∧
      R (.ok (.ret (.ref (s.heap.push { cls := .type "tuple_iterator", data := .fields #[.ref l, .int 0 0] }).objs.size)))
        { s with heap := (s.heap.push { cls := .type "tuple_iterator", data := .fields #[.ref l, .int 0 0] }).push { cls := .type "enumerate", data := .fields #[.none, .bool false, .ref s.heap.objs.size, rawInt 0, .none, .none] } }) :=
  .of_wp fun prog w A R s h => by
    obtain ⟨hp, g, d, tk, os⟩ := s; obtain ⟨hl, h⟩ := h
    have hsub := sub_enumerate
    have hL : Heap.IsTuple (Shared.heap ⟨hp, g, d, tk, os⟩) l items := ⟨_, hl, rfl, n, rfl⟩
    wp_walk using wpAny_loadPart' hl
    refine wpAny_stack_any fun st => wpAny_pure ?_
    split
    · rename_i c _ _ _ _ _
      cases (c == Value.type "enumerate")
      · wp_walk using wpAny_loadPart' hl, wpAny_pyIter_tuple hL
        exact ⟨_, rfl, h⟩
      · wp_walk using wpAny_loadPart' hl, wpAny_pyIter_tuple hL
        exact ⟨_, rfl, h⟩
    · wp_walk using wpAny_loadPart' hl, wpAny_pyIter_tuple hL
      exact ⟨_, rfl, h⟩
theorem call_enumerate_tuple {prog : Program} {w : World} {A : Around} {E : Value → Shared → Prop} {s : Shared} {l : Addr} {items : Array Value} {Q : Value → Shared → Prop} (hL : s.heap.IsTuple l items)
    (h : ∀ h', IsEnum h' (s.heap.objs.size + 1) s.heap.objs.size 0 .none → h'.IsTupleIter s.heap.objs.size l 0 → h'.objs.size = s.heap.objs.size + 2 →
      (∀ b o, s.heap.get? b = some o → h'.get? b = some o) → Q (.ref (s.heap.objs.size + 1)) { s with heap := h' }) :
    wpAny (model prog w) A (call (.type "enumerate") [.ref l]) Q E s := by
  obtain ⟨⟨c, dct, dt, sl⟩, hl, hc, n, hd⟩ := hL
  replace hc : c = .type "tuple" := hc
  replace hd : dt = .seq items n := hd
  subst hc hd
  refine callType_new F.called_enumerate (by decide) (F.typeCall_enumerate_1 _) (F.newCall_enumerate_1 _) (fun obj => F.args_object_init_2 obj _) F.entry_enumerate_new
    (meets_enumerate_newT l items n dct sl) ⟨hl, ?_⟩
  have hz : (s.heap.push { cls := .type "tuple_iterator", data := .fields #[.ref l, .int 0 0] }).objs.size = s.heap.objs.size + 1 := Heap.size_push ..
  show _ ∧ _
  rw [hz]
  have he : IsEnum ((s.heap.push { cls := .type "tuple_iterator", data := .fields #[.ref l, .int 0 0] }).push
      { cls := .type "enumerate", data := .fields #[.none, .bool false, .ref s.heap.objs.size, rawInt 0, .none, .none] }) (s.heap.objs.size + 1) s.heap.objs.size 0 .none := by
    have := Heap.get?_push_size (s.heap.push { cls := .type "tuple_iterator", data := .fields #[.ref l, .int 0 0] })
      (o := { cls := .type "enumerate", data := .fields #[.none, .bool false, .ref s.heap.objs.size, rawInt 0, .none, .none] }) rfl
    rw [hz] at this; exact this
  refine ⟨⟨_, he, rfl⟩, h _ he ⟨_, Heap.get?_push_of_some _ (Heap.get?_push_size _ rfl), rfl, rfl⟩ (by rw [Heap.size_push, hz]) fun b o x => Heap.get?_push_of_some _ (Heap.get?_push_of_some _ x)⟩
end PySem
namespace LK
open PySem PySem.Spec PyProof.Rows L2
def Itet (K : PySem.W.Frag) (a : Addr) : It :=
  ⟨fun i H => ∃ (xs : List V) (x : V), SqT K H a xs ∧ xs[i]? = some x, fun i H v H' => ∃ T x, v = .ref T ∧ H T = none ∧ H' = L2.upd H T (.tup [.int (i : Nat), x]) ∧ ∀ xs, SqT K H a xs → xs[i]? = some x, fun i H => ∃ xs : List V, SqT K H a xs ∧ xs.length ≤ i⟩
theorem turn_enumT {P : Program} {w : World} {K : PySem.W.Frag} {elts : List Expr} {kk : Nat} {tpos : Pos} (a e it : Addr) :
    Turn P w K (.Tuple elts kk tpos) (Itet K a) [e, it] e (fun i h => (∃ old, IsEnum h e it ((i : Nat) : Int) old) ∧ h.IsTupleIter it a i ∧ e ≠ it ∧ a ≠ it ∧ a ≠ e) where
  mem := by simp
  obj := fun i h st b hb => by
    obtain ⟨⟨old, he⟩, ⟨o, ho, hc, hd⟩, _⟩ := st
    have e' : b = e ∨ b = it := by simpa using hb
    rcases e' with z | z
    · rw [z]; exact ⟨_, he, fun v q => nomatch q⟩
    · rw [z]; exact ⟨o, ho, fun v q => by rw [hd] at q; cases q⟩
  keep := fun i h h' st k => let ⟨⟨old, he⟩, hi, hne⟩ := st; ⟨⟨old, k e (by simp) _ he⟩, hi.at fun o q => k it (by simp) o q, hne⟩
  item := by
    intro X hP hw hK hc i pins s σ H E I hf st hg
    subst hP hw hK
    obtain ⟨⟨old, he⟩, hit, hne, hai, hae⟩ := st
    obtain ⟨xs, x, hq, hx⟩ := hg
    obtain ⟨its, rv, p, hz⟩ := I.tuple hq
    obtain ⟨u, hu, ru⟩ := rv.get hx
    have hel : e < s.heap.objs.size := Heap.lt_size he
    have hil : it < s.heap.objs.size := by obtain ⟨_, q, _⟩ := hit; exact Heap.lt_size q
    have hil2 : i < its.toArray.size := by
      have := (List.getElem?_eq_some_iff.mp hu).1
      simpa using this
    refine wpAny_pyNext_enum_itemD (Draws.tuple (A := X.A.in1) (I.ok.hd hc) it a hai its.toArray) he ⟨hit, p⟩ hil2 hne (by simp [hne, hae.symm]) fun y h' tk hy ho hit' hT hsz hk => ?_
    have hy : its.toArray[i]? = some y := hy
    rw [show its.toArray[i]? = some u by simpa using hu] at hy
    cases hy
    obtain ⟨hit1, _⟩ := hit'
    refine ⟨_, rfl, wpAny_letOwnedTupleGo_enum (s := { s with heap := h', toks := tk + 1 }) ho fun h'' he' sb => ?_⟩
    have hT2 : h''.get? s.heap.objs.size = some { cls := .type "tuple", data := .seq #[.int i tk, u] } := (sb.2 _ (Nat.ne_of_gt hel)).trans hT
    have new : ObjOk X.prog X.w (L2.upd H s.heap.objs.size (.tup [.int (i : Nat), x])) h'' s.heap.objs.size (.tup [.int (i : Nat), x]) :=
      ⟨by show 2 ≤ sizeLine; decide, [.int i tk, u], .cons ⟨_, rfl⟩ (.cons ru .nil), ⟨_, hT2, rfl, _, rfl⟩⟩
    have I1 : Inv X pins σ (L2.upd H s.heap.objs.size (.tup [.int (i : Nat), x])) { s with heap := h'', toks := tk + 1 } :=
      I.turnedNew (ch := [e, it]) (fun b ob hb q => (sb.2 b (fun z => hb (by simp [z]))).trans (hk b ob (fun z => hb (by simp [z])) (fun z => hb (by simp [z])) q)) hf (Nat.le_refl _) new
    refine ⟨.ref s.heap.objs.size, _, I1, rfl, ⟨_, x, rfl, I.hok.fresh (Nat.le_refl _), rfl, fun ys hy => by rw [I.tuple_inj hy hq]; exact hx⟩, ⟨⟨u, ?_⟩, hit1.at fun o q => (sb.2 it (Ne.symm hne)).trans q, hne, hai, hae⟩, fun b hb => ?_⟩
    · have e1 : ((i + 1 : Nat) : Int) = (i : Int) + 1 := by omega
      rw [e1]; exact he'
    · have hb' : b < s.heap.objs.size := by
        have e' : b = e ∨ b = it := by simpa using hb
        rcases e' with z | z
        · rw [z]; exact hel
        · rw [z]; exact hil
      rw [upd_ne (Nat.ne_of_lt hb')]
      exact (hf b hb).1
  done := by
    intro X hP hw hK hc i pins s σ H E I hf st hg
    subst hP hw hK
    obtain ⟨⟨old, he⟩, hit, hne, hai, hae⟩ := st
    obtain ⟨xs, hq, hx⟩ := hg
    obtain ⟨its, rv, p, hz⟩ := I.tuple hq
    obtain ⟨f0, f1, f2, f3, f4, f5⟩ := hf it (by simp)
    have hl := rv.length
    have hn : its.toArray[i]? = none := by simp; omega
    have hT : s.TypeIs (.ref e) "enumerate" := ⟨_, he, rfl⟩
    unfold pyNext
    refine wpAny_bind (wpAny_attempt (wpAny_callSpecial?_slot (name := Str.ofString "__next__") hT PySem.F.slot_enumerate_next
      (wpAny_call_entry PySem.F.slot_enumerate_next hT PySem.F.entry_enumerate_next ?_ (PySem.F.args_enumerate_next_1 _))))
    show wpAny _ _ (field (.ref e) 2 >>= _) _ _ _
    refine wpAny_bind (wpAny_field he rfl (x := .ref it) rfl ?_)
    refine wpAny_bind (RZ.nextOf_tuple_end (I.ok.hd hc) hit p hn fun h' x eb hx' => ?_)
    obtain ⟨o, ho, hc'⟩ := hx'
    refine wpAny_bind (wpAny_isInstance (T := "StopIteration") (b := true) ⟨o, ho, hc'⟩ isSubtype_stop ?_)
    exact wpAny_pure ⟨rfl, I.turned (t' := s.toks) (fun b o hb q => eb b o hb q) f0 f1 f3 f4 f5⟩
  self := fun A i s Q E st h => let ⟨⟨_, he⟩, _⟩ := st; wpAny_pyIter_enum he h
def iEnumT (K : PySem.W.Frag) (ta : TA) : TI := fun σ H R => ta σ H fun vs H1 => ∃ a xs, vs = [.ref a] ∧ SqT K H1 a xs ∧ R (Itet K a) H1
theorem pi_enumT {X : Cx} {e : Expr} {ta : TA} {p pos tpos : Pos} {elts : List Expr} {kk : Nat} (hg : Gl X "enumerate") (hm : X.mg "enumerate" = none) (ha : PA X [e] ta) (hs : starEach [e] X.env = [(false, eval e X.env)] := by rfl) :
    PI X (.Tuple elts kk tpos) (.Call (.Name "enumerate" p) [e] [] pos) (iEnumT X.K ta) := by
  refine ⟨fun pins s σ H R I h => ?_⟩
  refine Call_ (ld_blt I hg hm boot_enumerate (PyProof.Rows.callWith_type1 (thn (ha.run pos pins s σ H _ I h) fun us s1 ⟨vs, H1, I1, r1, q1⟩ => ?_) hs rfl))
  obtain ⟨a, xs, ex, hq, q⟩ := q1
  subst ex
  cases r1 with
  | cons r rr =>
    cases rr
    cases r
    obtain ⟨its, rv, p', hz⟩ := I1.tuple hq
    have al : a < s1.heap.objs.size := by obtain ⟨_, q, _⟩ := id p'; exact Heap.lt_size q
    refine call_enumerate_tuple p' fun h' he hit hsz hk => wpAny_pyIter_enum he ?_
    have I2 : Inv X pins σ H1 { s1 with heap := h' } := I1.kept (t' := s1.toks) hk
    refine ⟨s1.heap.objs.size + 1, [s1.heap.objs.size + 1, s1.heap.objs.size], _, _, H1, rfl, I2, turn_enumT a (s1.heap.objs.size + 1) s1.heap.objs.size, ⟨⟨.none, he⟩, hit, Nat.succ_ne_self _, Nat.ne_of_lt al, Nat.ne_of_lt (Nat.lt_succ_of_lt al)⟩, fun b hb => ?_, q⟩
    have e' : b = s1.heap.objs.size + 1 ∨ b = s1.heap.objs.size := by simpa using hb
    have hle : s1.heap.objs.size ≤ b := by
      rcases e' with z | z
      · rw [z]; exact Nat.le_add_right _ _
      · rw [z]; exact Nat.le_refl _
    exact I1.fpOk hle (I1.hok.fresh hle)
/-- of a list or a tuple -/
def iEnumLT (K : PySem.W.Frag) (ta : TA) : TI := fun σ H R => iEnum K ta σ H R ∨ iEnumT K ta σ H R
theorem pi_enumLT {X : Cx} {e : Expr} {ta : TA} {p pos tpos : Pos} {elts : List Expr} {kk : Nat} (hg : Gl X "enumerate") (hm : X.mg "enumerate" = none) (ha : PA X [e] ta) (hs : starEach [e] X.env = [(false, eval e X.env)] := by rfl) :
    PI X (.Tuple elts kk tpos) (.Call (.Name "enumerate" p) [e] [] pos) (iEnumLT X.K ta) :=
  ⟨fun pins s σ H R I h => h.elim ((pi_enum hg hm ha hs).run pins s σ H R I) ((pi_enumT hg hm ha hs).run pins s σ H R I)⟩
theorem pi_enumK {X : Cx} {K : PySem.W.Frag} (hK : X.K = K) {e : Expr} {ta : TA} {p pos tpos : Pos} {elts : List Expr} {kk : Nat} (hg : Gl X "enumerate") (hm : X.mg "enumerate" = none) (ha : PA X [e] ta) (hs : starEach [e] X.env = [(false, eval e X.env)] := by rfl) :
    PI X (.Tuple elts kk tpos) (.Call (.Name "enumerate" p) [e] [] pos) (iEnum K ta) := by subst hK; exact pi_enum hg hm ha hs
theorem walk_enumT {K : PySem.W.Frag} {a : Addr} {xs : List V} : Walk (Itet K a) xs.length (fun H => SqT K H a xs) (YPair (fun i => some (.int (i : Nat))) (fun i => xs[i]?)) := by
  refine ⟨fun i _ hi q => ⟨xs, xs[i], q, by simp [hi]⟩, fun _ q => ⟨xs, q, Nat.le_refl _⟩, fun i H v H' _ q y => ?_⟩
  obtain ⟨T, x, h1, h2, h3, h4⟩ := y
  exact ⟨T, _, x, h1, h2, h3, rfl, h4 xs q⟩
end LK

set_option Elab.async false
set_option linter.all false
set_option maxRecDepth 100000
namespace LK
open PySem PySem.Spec PyProof.Rows L2
/-! ### zip of a tuple and a list: two sources of any kind -/
structure Src (p : Program) (w : World) (it l : Addr) (It : Nat → Heap → Prop) (Con : Array Value → Heap → Prop) : Prop where
  mvI : ∀ {i : Nat} {h g : Heap}, It i h → (∀ o, h.get? it = some o → g.get? it = some o) → It i g
  mvC : ∀ {xs : Array Value} {h g : Heap}, Con xs h → (∀ o, h.get? l = some o → g.get? l = some o) → Con xs g
  fld : ∀ {i : Nat} {h : Heap}, It i h → ∃ o fs, h.get? it = some o ∧ o.data = .fields fs
  more : ∀ {A : Around} {E : Value → Shared → Prop} {s : Shared} {i : Nat} {xs : Array Value} {x : Value} {Q : Value → Shared → Prop}, It i s.heap → Con xs s.heap → xs[i]? = some x →
    (∀ g, It (i + 1) g → Heap.SameBut it s.heap g → Q x { s with heap := g }) → wpAny (model p w) A (Builtin.SmallTypes.nextOf (.ref it)) Q E s
  over : ∀ {A : Around} {E : Value → Shared → Prop} {s : Shared} {i : Nat} {xs : Array Value} {Q : Value → Shared → Prop}, A.handled = none → It i s.heap → Con xs s.heap → xs[i]? = none →
    (∀ g e, Heap.ExtBut it s.heap g → (∃ o, g.get? e = some o ∧ o.cls = .type "StopIteration") → E (.ref e) { s with heap := g }) → wpAny (model p w) A (Builtin.SmallTypes.nextOf (.ref it)) Q E s
theorem src_tup (p : Program) (w : World) (it l : Addr) : Src p w it l (fun i h => h.IsTupleIter it l i) (fun xs h => h.IsTuple l xs) where
  mvI := fun a b => a.at b
  mvC := fun a b => a.at b
  fld := fun ⟨o, e, _, d⟩ => ⟨o, _, e, d⟩
  more := fun a b c k => RZ.nextOf_tuple_item a b c k
  over := fun a b c d k => RZ.nextOf_tuple_end a b c d k
theorem src_lst (p : Program) (w : World) (it l : Addr) : Src p w it l (fun i h => h.IsListIter it l i) (fun xs h => h.IsList l xs) where
  mvI := fun a b => a.at b
  mvC := fun a b => a.at b
  fld := fun ⟨o, e, _, d⟩ => ⟨o, _, e, d⟩
  more := fun a b c k => wpAny_nextOf_list_item a b c k
  over := fun a b c d k => wpAny_nextOf_list_end a b c d k
/-- all that a zip holds, at one point of time -/
structure ZS (z TI TO i1 i2 : Addr) (I1 I2 : Nat → Heap → Prop) (C1 C2 : Array Value → Heap → Prop) (xs ys : Array Value) (h : Heap) (f a b : Value) (k1 k2 : Nat) : Prop where
  oz : IsZip h z TI TO f
  ti : IsPair h TI (.ref i1) (.ref i2)
  tt : IsPair h TO a b
  j1 : I1 k1 h
  j2 : I2 k2 h
  c1 : C1 xs h
  c2 : C2 ys h
section
variable {prog : Program} {w : World} {A : Around} {E : Value → Shared → Prop} {s : Shared} {z TI TO i1 i2 l1 l2 : Addr} {I1 I2 : Nat → Heap → Prop} {C1 C2 : Array Value → Heap → Prop} {xs ys : Array Value} {f a b : Value} {k1 k2 : Nat} {h g : Heap}
theorem ZS.atZ (D : ZipApart z TI TO i1 i2 l1 l2) (S1 : Src prog w i1 l1 I1 C1) (S2 : Src prog w i2 l2 I2 C2) (q : ZS z TI TO i1 i2 I1 I2 C1 C2 xs ys h f a b k1 k2) (e : Heap.ExtBut z h g) {f' : Value} (n : IsZip g z TI TO f') : ZS z TI TO i1 i2 I1 I2 C1 C2 xs ys g f' a b k1 k2 :=
  ⟨n, e _ _ D.TIz q.ti, e _ _ D.TOz q.tt, S1.mvI q.j1 fun o => e _ o D.i1z, S2.mvI q.j2 fun o => e _ o D.i2z, S1.mvC q.c1 fun o => e _ o D.l1z, S2.mvC q.c2 fun o => e _ o D.l2z⟩
theorem ZS.atO (D : ZipApart z TI TO i1 i2 l1 l2) (S1 : Src prog w i1 l1 I1 C1) (S2 : Src prog w i2 l2 I2 C2) (q : ZS z TI TO i1 i2 I1 I2 C1 C2 xs ys h f a b k1 k2) (e : Heap.ExtBut TO h g) {a' b' : Value} (n : IsPair g TO a' b') : ZS z TI TO i1 i2 I1 I2 C1 C2 xs ys g f a' b' k1 k2 :=
  ⟨e _ _ D.TOz.symm q.oz, e _ _ D.TITO q.ti, n, S1.mvI q.j1 fun o => e _ o D.TOi1.symm, S2.mvI q.j2 fun o => e _ o D.TOi2.symm, S1.mvC q.c1 fun o => e _ o D.l1TO, S2.mvC q.c2 fun o => e _ o D.l2TO⟩
theorem ZS.at1 (D : ZipApart z TI TO i1 i2 l1 l2) (S1 : Src prog w i1 l1 I1 C1) (S2 : Src prog w i2 l2 I2 C2) (q : ZS z TI TO i1 i2 I1 I2 C1 C2 xs ys h f a b k1 k2) (e : Heap.ExtBut i1 h g) {k : Nat} (n : I1 k g) : ZS z TI TO i1 i2 I1 I2 C1 C2 xs ys g f a b k k2 :=
  ⟨e _ _ D.i1z.symm q.oz, e _ _ D.TIi1 q.ti, e _ _ D.TOi1 q.tt, n, S2.mvI q.j2 fun o => e _ o D.i12.symm, S1.mvC q.c1 fun o => e _ o D.l1i1, S2.mvC q.c2 fun o => e _ o D.l2i1⟩
theorem ZS.at2 (D : ZipApart z TI TO i1 i2 l1 l2) (S1 : Src prog w i1 l1 I1 C1) (S2 : Src prog w i2 l2 I2 C2) (q : ZS z TI TO i1 i2 I1 I2 C1 C2 xs ys h f a b k1 k2) (e : Heap.ExtBut i2 h g) {k : Nat} (n : I2 k g) : ZS z TI TO i1 i2 I1 I2 C1 C2 xs ys g f a b k1 k :=
  ⟨e _ _ D.i2z.symm q.oz, e _ _ D.TIi2 q.ti, e _ _ D.TOi2 q.tt, S1.mvI q.j1 fun o => e _ o D.i12, n, S1.mvC q.c1 fun o => e _ o D.l1i2, S2.mvC q.c2 fun o => e _ o D.l2i2⟩
/-- what lies beside the zip stays -/
def Stay (z TO i1 i2 : Addr) (h g : Heap) : Prop := ∀ c o, c ≠ z → c ≠ TO → c ≠ i1 → c ≠ i2 → h.get? c = some o → g.get? c = some o
theorem Stay.tr {h1 h2 h3 : Heap} (p : Stay z TO i1 i2 h1 h2) (q : Stay z TO i1 i2 h2 h3) : Stay z TO i1 i2 h1 h3 := fun c o n1 n2 n3 n4 e => q c o n1 n2 n3 n4 (p c o n1 n2 n3 n4 e)
theorem Stay.zz (e : Heap.ExtBut z h g) : Stay z TO i1 i2 h g := fun c o n1 _ _ _ => e c o n1
theorem Stay.o (e : Heap.ExtBut TO h g) : Stay z TO i1 i2 h g := fun c o _ n2 _ _ => e c o n2
theorem Stay.i (e : Heap.ExtBut i1 h g) : Stay z TO i1 i2 h g := fun c o _ _ n3 _ => e c o n3
theorem Stay.j (e : Heap.ExtBut i2 h g) : Stay z TO i1 i2 h g := fun c o _ _ _ n4 => e c o n4
theorem zm_item {x y : Value} {Q : Value → Shared → Prop} (D : ZipApart z TI TO i1 i2 l1 l2) (S1 : Src prog w i1 l1 I1 C1) (S2 : Src prog w i2 l2 I2 C2) (q0 : ZS z TI TO i1 i2 I1 I2 C1 C2 xs ys s.heap .none a b k1 k2) (hx : xs[k1]? = some x) (hy : ys[k2]? = some y)
    (k : ∀ g, ZS z TI TO i1 i2 I1 I2 C1 C2 xs ys g (rawInt s.heap.objs.size) x y (k1 + 1) (k2 + 1) → IsPair g s.heap.objs.size x y → g.objs.size = s.heap.objs.size + 1 → Stay z TO i1 i2 s.heap g → Q (.ref s.heap.objs.size) { s with heap := g }) :
    wpAny (model prog w) A (Builtin.«zip.__next__» ⟨[.ref z], []⟩) (fun r s' => ∃ v, r = .done (.ret v) ∧ Q v s') E s := by
  have oz := q0.oz
  show wpAny (model prog w) _ (field (.ref z) 2 >>= _) _ E _
  refine wpAny_bind (wpAny_field oz rfl (x := .bool false) rfl ?_)
  show wpAny (model prog w) _ (field (.ref z) 3 >>= _) _ E _
  refine wpAny_bind (wpAny_field oz rfl (x := .ref TI) rfl (wpAny_bind (wpAny_seqItems q0.ti rfl ?_)))
  show wpAny (model prog w) _ (Builtin.SmallTypes.ownedTupleIsFree (.ref z) >>= _) _ E _; unfold Builtin.SmallTypes.ownedTupleIsFree
  refine wpAny_bind (wpAny_bind (wpAny_field oz rfl (x := .none) rfl (wpAny_pure ?_)))
  simp only [if_true]
  refine wpAny_bind (wpAny_rule (wpAny_bind (wpAny_field oz rfl (x := .ref TO) rfl (wpAny_bind (wpAny_setField_rec oz (by simp) fun g1 z1 e1 => ?_)))))
  have q1 := q0.atZ D S1 S2 e1.extBut (f' := .ellipsis) z1
  have t1 : Stay z TO i1 i2 s.heap g1 := .zz e1.extBut
  simp only [List.forIn_cons, List.forIn_nil, List.zipIdx_cons, List.zipIdx_nil]
  refine wpAny_bind (wpAny_bind (wpAny_bind (wpAny_onRaise ?_)))
  show wpAny (model prog w) _ (Builtin.SmallTypes.nextOf (.ref i1) >>= _) _ _ _
  refine wpAny_bind (S1.more q1.j1 q1.c1 hx fun g2 n2 e2 => wpAny_pure ?_)
  have q2 := q1.at1 D S1 S2 e2.extBut n2
  have t2 := t1.tr (.i e2.extBut)
  refine wpAny_bind (wpAny_seqItems q2.tt rfl (wpAny_bind (wpAny_updateSeq_pair q2.tt fun g3 n3 e3 => ?_)))
  have q3 := q2.atO D S1 S2 e3.extBut (a' := x) (b' := b) n3
  have t3 := t2.tr (.o e3.extBut)
  refine wpAny_bind (wpAny_letGo (wpAny_pure (wpAny_bind (wpAny_bind (wpAny_onRaise ?_)))))
  show wpAny (model prog w) _ (Builtin.SmallTypes.nextOf (.ref i2) >>= _) _ _ _
  refine wpAny_bind (S2.more q3.j2 q3.c2 hy fun g4 n4 e4 => wpAny_pure ?_)
  have q4 := q3.at2 D S1 S2 e4.extBut n4
  have t4 := t3.tr (.j e4.extBut)
  refine wpAny_bind (wpAny_seqItems q4.tt rfl (wpAny_bind (wpAny_updateSeq_pair q4.tt fun g5 n5 e5 => ?_)))
  have q5 := q4.atO D S1 S2 e5.extBut (a' := x) (b' := y) n5
  have t5 := t4.tr (.o e5.extBut)
  have sz : g5.objs.size = s.heap.objs.size := by rw [e5.1, e4.1, e3.1, e2.1, e1.1]
  refine wpAny_bind (wpAny_letGo (wpAny_pure (wpAny_pure (wpAny_bind (wpAny_seqItems q5.tt rfl (wpAny_bind (wpAny_newTuple ?_)))))))
  show wpAny (model prog w) _ (Builtin.SmallTypes.ownedTupleHandOut (.ref z) (.ref g5.objs.size) >>= _) _ E _; unfold Builtin.SmallTypes.ownedTupleHandOut
  have pz : IsZip (g5.push { cls := .type "tuple", data := .seq #[x, y] }) z TI TO .ellipsis := Heap.get?_push_of_some _ q5.oz
  refine wpAny_bind (wpAny_bind (wpAny_setField_rec pz (by simp) fun g7 z7 e7 => ?_))
  have z7' : IsZip g7 z TI TO (rawInt g5.objs.size) := z7
  refine wpAny_setField_rec z7' (by simp) fun g8 z8 e8 => ?_
  have z8' : IsZip g8 z TI TO (rawInt g5.objs.size) := z8
  have e58 : Heap.ExtBut z g5 g8 := fun c o n e => e8.extBut _ _ n (e7.extBut _ _ n (Heap.get?_push_of_some _ e))
  have q8 := q5.atZ D S1 S2 e58 z8'
  have nz : g5.objs.size ≠ z := Nat.ne_of_gt (Heap.lt_size q5.oz)
  have p8 : IsPair g8 g5.objs.size x y := e8.extBut _ _ nz (e7.extBut _ _ nz (Heap.get?_push_size _ rfl))
  have s8 : g8.objs.size = g5.objs.size + 1 := by rw [e8.1, e7.1, Heap.size_push]
  refine wpAny_pure ⟨.ref g5.objs.size, rfl, ?_⟩
  rw [sz] at q8 p8 s8 ⊢
  exact k g8 q8 p8 s8 (t5.tr (.zz e58))
/-- the last turn: one of the two has no more -/
theorem zm_end {Q : Fin → Shared → Prop} (hh : A.handled = none) (D : ZipApart z TI TO i1 i2 l1 l2) (S1 : Src prog w i1 l1 I1 C1) (S2 : Src prog w i2 l2 I2 C2) (q0 : ZS z TI TO i1 i2 I1 I2 C1 C2 xs ys s.heap .none a b k1 k2) (he : xs[k1]? = none ∨ ys[k2]? = none)
    (k : ∀ g e, Stay z TO i1 i2 s.heap g → (∃ o, g.get? e = some o ∧ o.cls = .type "StopIteration") → E (.ref e) { s with heap := g }) : wpAny (model prog w) A (Builtin.«zip.__next__» ⟨[.ref z], []⟩) Q E s := by
  have oz := q0.oz
  show wpAny (model prog w) _ (field (.ref z) 2 >>= _) _ E _
  refine wpAny_bind (wpAny_field oz rfl (x := .bool false) rfl ?_)
  show wpAny (model prog w) _ (field (.ref z) 3 >>= _) _ E _
  refine wpAny_bind (wpAny_field oz rfl (x := .ref TI) rfl (wpAny_bind (wpAny_seqItems q0.ti rfl ?_)))
  show wpAny (model prog w) _ (Builtin.SmallTypes.ownedTupleIsFree (.ref z) >>= _) _ E _; unfold Builtin.SmallTypes.ownedTupleIsFree
  refine wpAny_bind (wpAny_bind (wpAny_field oz rfl (x := .none) rfl (wpAny_pure ?_)))
  simp only [if_true]
  refine wpAny_bind (wpAny_rule (wpAny_bind (wpAny_field oz rfl (x := .ref TO) rfl (wpAny_bind (wpAny_setField_rec oz (by simp) fun g1 z1 e1 => ?_)))))
  have q1 := q0.atZ D S1 S2 e1.extBut (f' := .ellipsis) z1
  have t1 : Stay z TO i1 i2 s.heap g1 := .zz e1.extBut
  have fin : ∀ {g2 : Heap} {e : Addr}, IsZip g2 z TI TO .ellipsis → Stay z TO i1 i2 s.heap g2 → (∃ o, g2.get? e = some o ∧ o.cls = .type "StopIteration") → ∀ g3, Heap.SameBut z g2 g3 → E (.ref e) { s with heap := g3 } := fun z2 t2 ⟨o, h1, h2⟩ g3 e3 =>
    k _ _ (t2.tr (.zz e3.extBut)) ⟨o, e3.extBut _ _ (fun n => by subst n; rw [z2] at h1; cases h1; simp at h2) h1, h2⟩
  simp only [List.forIn_cons, List.forIn_nil, List.zipIdx_cons, List.zipIdx_nil]
  refine wpAny_bind (wpAny_bind (wpAny_bind (wpAny_onRaise ?_)))
  show wpAny (model prog w) _ (Builtin.SmallTypes.nextOf (.ref i1) >>= _) _ _ _
  by_cases hx : xs[k1]? = none
  · refine wpAny_bind (S1.over hh q1.j1 q1.c1 hx fun g2 e e2 so => ?_)
    have z2 := e2 _ _ D.i1z.symm q1.oz
    exact wpAny_setField_rec z2 (by simp) fun g3 _ e3 => fin z2 (t1.tr (.i e2)) so g3 e3
  · obtain ⟨x, hx1⟩ := Option.ne_none_iff_exists'.mp hx
    have hy := he.resolve_left hx
    refine wpAny_bind (S1.more q1.j1 q1.c1 hx1 fun g2 n2 e2 => wpAny_pure ?_)
    have q2 := q1.at1 D S1 S2 e2.extBut n2
    refine wpAny_bind (wpAny_seqItems q2.tt rfl (wpAny_bind (wpAny_updateSeq_pair q2.tt fun g3 n3 e3 => ?_)))
    have q3 := q2.atO D S1 S2 e3.extBut (a' := x) (b' := b) n3
    refine wpAny_bind (wpAny_letGo (wpAny_pure (wpAny_bind (wpAny_bind (wpAny_onRaise ?_)))))
    show wpAny (model prog w) _ (Builtin.SmallTypes.nextOf (.ref i2) >>= _) _ _ _
    refine wpAny_bind (S2.over hh q3.j2 q3.c2 hy fun g4 e e4 so => ?_)
    have z4 := e4 _ _ D.i2z.symm q3.oz
    exact wpAny_setField_rec z4 (by simp) fun g5 _ e5 => fin z4 (((t1.tr (.i e2.extBut)).tr (.o e3.extBut)).tr (.j e4)) so g5 e5
theorem zm_next {x y : Value} {Q : Option Value → Shared → Prop} (D : ZipApart z TI TO i1 i2 l1 l2) (S1 : Src prog w i1 l1 I1 C1) (S2 : Src prog w i2 l2 I2 C2) (q0 : ZS z TI TO i1 i2 I1 I2 C1 C2 xs ys s.heap .none a b k1 k2) (hx : xs[k1]? = some x) (hy : ys[k2]? = some y)
    (k : ∀ g, ZS z TI TO i1 i2 I1 I2 C1 C2 xs ys g (rawInt s.heap.objs.size) x y (k1 + 1) (k2 + 1) → IsPair g s.heap.objs.size x y → g.objs.size = s.heap.objs.size + 1 → Stay z TO i1 i2 s.heap g → Q (some (.ref s.heap.objs.size)) { s with heap := g }) : wpAny (model prog w) A (pyNext (.ref z)) Q E s := by
  have ty : s.TypeIs (.ref z) "zip" := ⟨_, q0.oz, rfl⟩
  unfold pyNext
  exact wpAny_bind (wpAny_attempt (wpAny_callSpecial?_slot (name := Str.ofString "__next__") ty F.slot_zip_next (wpAny_call_entry F.slot_zip_next ty F.entry_zip_next (zm_item D S1 S2 q0 hx hy fun g p1 p2 p3 p4 => wpAny_pure (k g p1 p2 p3 p4)) (F.args_zip_next_1 _))))
theorem zm_stop {Q : Option Value → Shared → Prop} (hh : A.handled = none) (D : ZipApart z TI TO i1 i2 l1 l2) (S1 : Src prog w i1 l1 I1 C1) (S2 : Src prog w i2 l2 I2 C2) (q0 : ZS z TI TO i1 i2 I1 I2 C1 C2 xs ys s.heap .none a b k1 k2) (he : xs[k1]? = none ∨ ys[k2]? = none)
    (k : ∀ g, Stay z TO i1 i2 s.heap g → Q none { s with heap := g }) : wpAny (model prog w) A (pyNext (.ref z)) Q E s := by
  have ty : s.TypeIs (.ref z) "zip" := ⟨_, q0.oz, rfl⟩
  unfold pyNext
  refine wpAny_bind (wpAny_attempt (wpAny_callSpecial?_slot (name := Str.ofString "__next__") ty F.slot_zip_next (wpAny_call_entry F.slot_zip_next ty F.entry_zip_next (zm_end hh D S1 S2 q0 he fun g e st so => ?_) (F.args_zip_next_1 _))))
  obtain ⟨o, h1, h2⟩ := so
  exact wpAny_bind (wpAny_isInstance (T := "StopIteration") (b := true) ⟨o, h1, h2⟩ isSubtype_stop (wpAny_pure (k _ st)))
end
/-- the five new objects of zip(tuple, list) -/
def zp1 (h : Heap) (l1 : Addr) : Heap := h.push { cls := .type "tuple_iterator", data := .fields #[.ref l1, .int 0 0] }
def zp2 (h : Heap) (l1 l2 : Addr) : Heap := (zp1 h l1).push { cls := .type "list_iterator", data := .fields #[.ref l2, .int 0 0] }
def zp3 (h : Heap) (l1 l2 : Addr) : Heap := (zp2 h l1 l2).push { cls := .type "tuple", data := .seq #[.ref h.objs.size, .ref (zp1 h l1).objs.size] }
def zp4 (h : Heap) (l1 l2 : Addr) : Heap := (zp3 h l1 l2).push { cls := .type "tuple", data := .seq #[.none, .none] }
def zp5 (h : Heap) (l1 l2 : Addr) : Heap := (zp4 h l1 l2).push { cls := .type "zip", data := .fields #[.none, .bool false, .bool false, .ref (zp2 h l1 l2).objs.size, .ref (zp3 h l1 l2).objs.size] }
theorem zp_new (l1 l2 : Addr) (xs ys : Array Value) : Meets (Builtin.«zip.__new__» ⟨[.type "zip", .ref l1, .ref l2], []⟩) fun _ R s => s.heap.IsTuple l1 xs ∧ s.heap.IsList l2 ys ∧ R (.ok (.ret (.ref (zp4 s.heap l1 l2).objs.size))) { s with heap := zp5 s.heap l1 l2 } :=
  .of_wp fun pr wd ar R s h => by
    obtain ⟨hp, gl, dd, tk, os⟩ := s
    obtain ⟨h1, h2, h⟩ := h
    have hsub := sub_zip
    have t1 : Heap.IsTuple (Shared.heap ⟨hp, gl, dd, tk, os⟩) l1 xs := h1
    have t2 : Heap.IsList (Shared.heap ⟨hp.push { cls := .type "tuple_iterator", data := .fields #[.ref l1, .int 0 0] }, gl, dd, tk, os⟩) l2 ys := Heap.IsList.push h2 _
    wp_walk using wpAny_pyIter_tuple t1, wpAny_pyIter_list t2
    exact ⟨_, rfl, h⟩
section
variable {prog : Program} {w : World} {s : Shared} {A : Around} {E : Value → Shared → Prop}
theorem call_zipM {l1 l2 : Addr} {xs ys : Array Value} {Q : Value → Shared → Prop} (h1 : s.heap.IsTuple l1 xs) (h2 : s.heap.IsList l2 ys)
    (k : ∀ g, IsZip g (s.heap.objs.size + 4) (s.heap.objs.size + 2) (s.heap.objs.size + 3) .none → IsPair g (s.heap.objs.size + 2) (.ref s.heap.objs.size) (.ref (s.heap.objs.size + 1)) → IsPair g (s.heap.objs.size + 3) .none .none →
      g.IsTupleIter s.heap.objs.size l1 0 → g.IsListIter (s.heap.objs.size + 1) l2 0 → (∀ c o, s.heap.get? c = some o → g.get? c = some o) → Q (.ref (s.heap.objs.size + 4)) { s with heap := g }) : wpAny (model prog w) A (call (.type "zip") [.ref l1, .ref l2]) Q E s := by
  refine callType_new F.called_zip (by decide) (F.typeCall_zip_2 _ _) (F.newCall_zip_2 _ _) (fun obj => F.args_object_init_3 obj _ _) F.entry_zip_new (zp_new l1 l2 xs ys) ⟨h1, h2, ?_⟩
  have n1 : (zp1 s.heap l1).objs.size = s.heap.objs.size + 1 := Heap.size_push _ _
  have n2 : (zp2 s.heap l1 l2).objs.size = s.heap.objs.size + 2 := (Heap.size_push _ _).trans (by rw [n1])
  have n3 : (zp3 s.heap l1 l2).objs.size = s.heap.objs.size + 3 := (Heap.size_push _ _).trans (by rw [n2])
  have n4 : (zp4 s.heap l1 l2).objs.size = s.heap.objs.size + 4 := (Heap.size_push _ _).trans (by rw [n3])
  have m5 : IsZip (zp5 s.heap l1 l2) (zp4 s.heap l1 l2).objs.size (zp2 s.heap l1 l2).objs.size (zp3 s.heap l1 l2).objs.size .none := Heap.get?_push_size _ rfl
  have m4 : IsPair (zp5 s.heap l1 l2) (zp3 s.heap l1 l2).objs.size .none .none := Heap.get?_push_of_some _ (Heap.get?_push_size _ rfl)
  have m3 : IsPair (zp5 s.heap l1 l2) (zp2 s.heap l1 l2).objs.size (.ref s.heap.objs.size) (.ref (zp1 s.heap l1).objs.size) := Heap.get?_push_of_some _ (Heap.get?_push_of_some _ (Heap.get?_push_size _ rfl))
  have m2 : (zp5 s.heap l1 l2).IsListIter (zp1 s.heap l1).objs.size l2 0 := ⟨_, Heap.get?_push_of_some _ (Heap.get?_push_of_some _ (Heap.get?_push_of_some _ (Heap.get?_push_size _ rfl))), rfl, rfl⟩
  have m1 : (zp5 s.heap l1 l2).IsTupleIter s.heap.objs.size l1 0 := ⟨_, Heap.get?_push_of_some _ (Heap.get?_push_of_some _ (Heap.get?_push_of_some _ (Heap.get?_push_of_some _ (Heap.get?_push_size _ rfl)))), rfl, rfl⟩
  have m0 : ∀ c o, s.heap.get? c = some o → (zp5 s.heap l1 l2).get? c = some o := fun c o e => Heap.get?_push_of_some _ (Heap.get?_push_of_some _ (Heap.get?_push_of_some _ (Heap.get?_push_of_some _ (Heap.get?_push_of_some _ e))))
  rw [n2, n3, n4] at m5
  rw [n3] at m4
  rw [n2, n1] at m3
  rw [n1] at m2
  show _ ∧ _
  rw [n4]
  exact ⟨⟨_, m5, rfl⟩, k _ m5 m3 m4 m1 m2 m0⟩
end
def ItzM (K : PySem.W.Frag) (a b : Addr) : It where
  go := fun i H => ∃ (xs ys : List V) (x y : V), SqT K H a xs ∧ SqL K H b ys ∧ xs[i]? = some x ∧ ys[i]? = some y
  yld := fun i H v H' => ∃ T x y, v = .ref T ∧ H T = none ∧ H' = L2.upd H T (.tup [x, y]) ∧ (∀ xs, SqT K H a xs → xs[i]? = some x) ∧ ∀ ys, SqL K H b ys → ys[i]? = some y
  stop := fun i H => ∃ xs ys : List V, SqT K H a xs ∧ SqL K H b ys ∧ (xs.length ≤ i ∨ ys.length ≤ i)
def tnM (z TI TO i1 i2 a b : Addr) (i : Nat) (h : Heap) : Prop := ∃ x y, IsZip h z TI TO .none ∧ IsPair h TI (.ref i1) (.ref i2) ∧ IsPair h TO x y ∧ h.IsTupleIter i1 a i ∧ h.IsListIter i2 b i
theorem turn_zipM {P : Program} {w : World} {K : PySem.W.Frag} {elts : List Expr} {kk : Nat} {tpos : Pos} {a b z TI TO i1 i2 : Addr} (D : ZipApart z TI TO i1 i2 a b) : Turn P w K (.Tuple elts kk tpos) (ItzM K a b) [z, TI, TO, i1, i2] z (tnM z TI TO i1 i2 a b) where
  mem := List.mem_cons_self
  obj := fun i h ⟨x, y, h1, h2, h3, h4, h5⟩ c hc => by
    obtain ⟨o4, f4, e4, d4⟩ := (src_tup P w i1 a).fld h4
    obtain ⟨o5, f5, e5, d5⟩ := (src_lst P w i2 b).fld h5
    simp only [List.mem_cons, List.not_mem_nil, or_false] at hc
    rcases hc with rfl | rfl | rfl | rfl | rfl
    · exact ⟨_, h1, fun v q => nomatch q⟩
    · exact ⟨_, h2, fun v q => nomatch q⟩
    · exact ⟨_, h3, fun v q => nomatch q⟩
    · exact ⟨o4, e4, fun v q => by rw [d4] at q; cases q⟩
    · exact ⟨o5, e5, fun v q => by rw [d5] at q; cases q⟩
  keep := fun i h g ⟨x, y, h1, h2, h3, h4, h5⟩ k => ⟨x, y, k z (by simp) _ h1, k TI (by simp) _ h2, k TO (by simp) _ h3, (src_tup P w i1 a).mvI h4 fun o => k i1 (by simp) o, (src_lst P w i2 b).mvI h5 fun o => k i2 (by simp) o⟩
  item := by
    rintro X rfl rfl rfl hc i pins s σ H E I hf ⟨x0, y0, h1, h2, h3, h4, h5⟩ ⟨xs, ys, x, y, qx, qy, ex, ey⟩
    obtain ⟨its, rv, p, _⟩ := I.tuple qx
    obtain ⟨jts, rw', p', _⟩ := I.list qy
    obtain ⟨u, eu, ru⟩ := rv.get ex
    obtain ⟨v, ev, rvv⟩ := rw'.get ey
    refine zm_next D (src_tup X.prog X.w i1 a) (src_lst X.prog X.w i2 b) ⟨h1, h2, h3, h4, h5, (show s.heap.IsTuple a its.toArray from p), p'.isList⟩ (x := u) (y := v) (by simpa using eu) (by simpa using ev) fun g q pp sz st => ⟨_, rfl, wpAny_letOwnedTupleGo_zip (s := { s with heap := g }) q.oz fun g2 z2 e2 => ?_⟩
    have q2 := q.atZ D (src_tup X.prog X.w i1 a) (src_lst X.prog X.w i2 b) e2.extBut z2
    have nz : s.heap.objs.size ≠ z := Nat.ne_of_gt (Heap.lt_size h1)
    have pp2 : IsPair g2 s.heap.objs.size u v := e2.extBut _ _ nz pp
    have ok : ObjOk X.prog X.w (L2.upd H s.heap.objs.size (.tup [x, y])) g2 s.heap.objs.size (.tup [x, y]) := ⟨by show 2 ≤ sizeLine; decide, [u, v], .cons ru (.cons rvv .nil), ⟨_, pp2, rfl, _, rfl⟩⟩
    have st2 : Stay z TO i1 i2 s.heap g2 := st.tr (.zz e2.extBut)
    have I2 : Inv X pins σ (L2.upd H s.heap.objs.size (.tup [x, y])) { s with heap := g2 } := I.turnedNew (t' := s.toks) (ch := [z, TI, TO, i1, i2]) (fun c o hb e => st2 c o (fun n => hb (by simp [n])) (fun n => hb (by simp [n])) (fun n => hb (by simp [n])) (fun n => hb (by simp [n])) e) hf (Nat.le_refl _) ok
    refine ⟨.ref s.heap.objs.size, _, I2, rfl, ⟨_, x, y, rfl, I.hok.fresh (Nat.le_refl _), rfl, fun l hl => by rw [I.tuple_inj hl qx]; exact ex, fun l hl => by rw [I.list_inj hl qy]; exact ey⟩, ⟨u, v, q2.oz, q2.ti, q2.tt, q2.j1, q2.j2⟩, fun c hcm => ?_⟩
    have lt : c < s.heap.objs.size := by
      obtain ⟨o4, _, e4, _⟩ := (src_tup X.prog X.w i1 a).fld h4
      obtain ⟨o5, _, e5, _⟩ := (src_lst X.prog X.w i2 b).fld h5
      have m := hcm
      simp only [List.mem_cons, List.not_mem_nil, or_false] at m
      rcases m with rfl | rfl | rfl | rfl | rfl
      · exact Heap.lt_size h1
      · exact Heap.lt_size h2
      · exact Heap.lt_size h3
      · exact Heap.lt_size e4
      · exact Heap.lt_size e5
    rw [upd_ne (Nat.ne_of_lt lt)]
    exact (hf c hcm).1
  done := by
    rintro X rfl rfl rfl hc i pins s σ H E I hf ⟨x0, y0, h1, h2, h3, h4, h5⟩ ⟨xs, ys, qx, qy, he⟩
    obtain ⟨its, rv, p, _⟩ := I.tuple qx
    obtain ⟨jts, rw', p', _⟩ := I.list qy
    have l1 := rv.length
    have l2 := rw'.length
    refine zm_stop (I.ok.hd hc) D (src_tup X.prog X.w i1 a) (src_lst X.prog X.w i2 b) ⟨h1, h2, h3, h4, h5, (show s.heap.IsTuple a its.toArray from p), p'.isList⟩ (he.imp (fun l => by simp; omega) fun l => by simp; omega) fun g st => ⟨rfl, I.turnedL (t' := s.toks) (ch := [z, TI, TO, i1, i2]) (fun c o hb e => st c o (fun n => hb (by simp [n])) (fun n => hb (by simp [n])) (fun n => hb (by simp [n])) (fun n => hb (by simp [n])) e) hf⟩
  self := fun A i s Q E ⟨_, _, h1, _⟩ k => wpAny_pyIter_zip h1 k
def iZipM (K : PySem.W.Frag) (ta : TA) : TI := fun σ H R => ta σ H fun vs H1 => ∃ a b xs ys, vs = [.ref a, .ref b] ∧ SqT K H1 a xs ∧ SqL K H1 b ys ∧ R (ItzM K a b) H1
theorem pi_zipM {X : Cx} {e e2 : Expr} {ta : TA} {p pos tpos : Pos} {elts : List Expr} {kk : Nat} (hg : Gl X "zip") (hm : X.mg "zip" = none) (ha : PA X [e, e2] ta) (hs : starEach [e, e2] X.env = (false, eval e X.env) :: starEach [e2] X.env := by rfl) (hpl : (backTo pos (starEach [e2] X.env)).any (·.1) = false := by rfl) :
    PI X (.Tuple elts kk tpos) (.Call (.Name "zip" p) [e, e2] [] pos) (iZipM X.K ta) := by
  refine ⟨fun pins s σ H R I h => Call_ (ld_blt I hg hm PyProof.Rows.boot_zip (PyProof.Rows.callWith_type1 (thn (ha.run pos pins s σ H _ I h) fun us s1 ⟨vs, H1, I1, r1, a, b, xs, ys, ex, qx, qy, q⟩ => ?_) hs hpl))⟩
  subst ex
  obtain _ | ⟨r, r'⟩ := r1
  obtain _ | ⟨r2, r''⟩ := r'
  cases r''
  cases r
  cases r2
  obtain ⟨its, rv, p1, _⟩ := I1.tuple qx
  obtain ⟨jts, rw', p2, _⟩ := I1.list qy
  obtain ⟨o1, ho1, _⟩ := id p1
  refine call_zipM (show s1.heap.IsTuple a its.toArray from p1) p2.isList fun g z1 z2 z3 z4 z5 k => wpAny_pyIter_zip z1 ?_
  have I2 : Inv X pins σ H1 { s1 with heap := g } := I1.kept (t' := s1.toks) k
  refine ⟨s1.heap.objs.size + 4, [s1.heap.objs.size + 4, s1.heap.objs.size + 2, s1.heap.objs.size + 3, s1.heap.objs.size, s1.heap.objs.size + 1], _, _, H1, rfl, I2, turn_zipM (PySem.W.ktu_apart s1.heap.objs.size a b (Heap.lt_size ho1) p2.lt), ⟨_, _, z1, z2, z3, z4, z5⟩, fun c hc => ?_, q⟩
  have le : s1.heap.objs.size ≤ c := by
    simp only [List.mem_cons, List.not_mem_nil, or_false] at hc
    rcases hc with rfl | rfl | rfl | rfl | rfl
    · exact Nat.le_add_right _ _
    · exact Nat.le_add_right _ _
    · exact Nat.le_add_right _ _
    · exact Nat.le_refl _
    · exact Nat.le_add_right _ _
  exact I1.fpOk le (I1.hok.fresh le)
theorem walk_zipM {K : PySem.W.Frag} {a b : Addr} {xs ys : List V} {n : Nat} (hx : xs.length = n) (hy : ys.length = n) : Walk (ItzM K a b) n (fun H => SqT K H a xs ∧ SqL K H b ys) (YPair (fun i => xs[i]?) fun i => ys[i]?) where
  goes := fun i _ hi q => ⟨xs, ys, xs[i]'(by omega), ys[i]'(by omega), q.1, q.2, List.getElem?_eq_getElem _, List.getElem?_eq_getElem _⟩
  stops := fun _ q => ⟨xs, ys, q.1, q.2, .inl (by omega)⟩
  yields := fun i H v H' _ q ⟨T, x, y, h1, h2, h3, h4, h5⟩ => ⟨T, x, y, h1, h2, h3, h4 xs q.1, h5 ys q.2⟩
end LK

set_option Elab.async false
set_option linter.all false
set_option maxRecDepth 100000
namespace LK
open PySem PySem.Spec PyProof.Rows L2
/-! ### rules with K in the place of X.K -/
section
variable {X : Cx} {K : PySem.W.Frag}
/-- of a list or a tuple -/
def rIxLT (K : PySem.W.Frag) : R2 := fun x y H Q => ∃ p xs i z, x = .ref p ∧ y = .int i ∧ (SqL K H p xs ∨ SqT K H p xs) ∧ atI xs i = some z ∧ Q z H
theorem ix_lt : IxR X (rIxLT X.K) := by
  intro value slice pins s σ H x y v u Q I rx ry h hs
  obtain ⟨p, xs, i, z, e1, e2, hq | hq, he, q⟩ := h
  · exact ix_list value slice pins s σ H x y v u Q I rx ry ⟨p, xs, i, z, e1, e2, hq, he, q⟩ hs
  · exact ix_tup value slice pins s σ H x y v u Q I rx ry ⟨p, xs, i, z, e1, e2, hq, he, q⟩ hs
theorem ix_ltK (hK : X.K = K) : IxR X (rIxLT K) := by subst hK; exact ix_lt
theorem ix_listK (hK : X.K = K) : IxR X (rIxL K) := by subst hK; exact ix_list
theorem ix_tupK (hK : X.K = K) : IxR X (rIxT K) := by subst hK; exact ix_tup
theorem sl_tupUK (hK : X.K = K) : SlR X (rSlU K) := by subst hK; exact sl_tupU
theorem sl_listUK (hK : X.K = K) : SlR X (rSlLU K) := by subst hK; exact sl_listU
theorem op_catUK (hK : X.K = K) : OpR X (binaryOp .Add) (rCatU K) := by subst hK; exact op_catU
theorem op_eqDK (hK : X.K = K) (hu : X.A.units + 64 < cLine) : OpR X (compareOp .Eq) (rEqD K) := by subst hK; exact op_eqD hu
theorem op_neDK (hK : X.K = K) (hu : X.A.units + 64 < cLine) : OpR X (compareOp .NotEq) (rNeD K) := by subst hK; exact op_neD hu
theorem call_tupleNK (hK : X.K = K) : CallR X (.type "tuple") (fun xs H Q => ∃ p ys, xs = [.ref p] ∧ SqL K H p ys ∧ ∀ q H', Same H H' → H q = none → H' q = some (.tup ys) → Q (.ref q) H') := by subst hK; exact call_tupleN
theorem call_tupleUK (hK : X.K = K) : CallR X (.type "tuple") (fun xs H Q => ∃ p ys, xs = [.ref p] ∧ (SqL K H p ys ∨ SqT K H p ys) ∧ ∀ q H', Same H H' → SqT K H' q ys → Q (.ref q) H') := by subst hK; exact call_tupleU
theorem call_listUK (hK : X.K = K) : CallR X (.type "list") (fun xs H Q => ∃ p ys, xs = [.ref p] ∧ (SqL K H p ys ∨ SqT K H p ys) ∧ ∀ l H2, Same H H2 → H l = none → H2 l = some (.lst ys) → Q (.ref l) H2) := by subst hK; exact call_listU
theorem call_len_seqK (hK : X.K = K) : CallR X (.builtin "len") (fun xs H Q => ∃ p ys, xs = [.ref p] ∧ (SqL K H p ys ∨ SqT K H p ys) ∧ Q (.int ys.length) H) := by subst hK; exact call_len_seq
theorem cr_sumK (hK : X.K = K) (hc : X.calm = true) : CallR X (.builtin "sum") (rSum K) := by subst hK; exact cr_sum hc
theorem cr_maxK (hK : X.K = K) (hc : X.calm = true) : CallR X (.builtin "max") (rMax K) := by subst hK; exact cr_max hc
theorem cr_allK (hK : X.K = K) (hc : X.calm = true) : CallR X (.builtin "all") (rAll K) := by subst hK; exact cr_all hc
theorem pi_listK (hK : X.K = K) {tg l : Expr} {tl : TE} (hl : PE X l tl) : PI X tg l (iList K tl) := by subst hK; exact pi_list hl
theorem pi_tupK (hK : X.K = K) {tg l : Expr} {tl : TE} (hl : PE X l tl) : PI X tg l (iTup K tl) := by subst hK; exact pi_tup hl
def iLT (K : PySem.W.Frag) (tl : TE) : TI := fun σ H R => iList K tl σ H R ∨ iTup K tl σ H R
theorem pi_lt {tg l : Expr} {tl : TE} (hl : PE X l tl) : PI X tg l (iLT X.K tl) :=
  ⟨fun pins s σ H R I h => h.elim ((pi_list hl).run pins s σ H R I) ((pi_tup hl).run pins s σ H R I)⟩
theorem pi_ltK (hK : X.K = K) {tg l : Expr} {tl : TE} (hl : PE X l tl) : PI X tg l (iLT K tl) := by subst hK; exact pi_lt hl
end
end LK

set_option Elab.async false
set_option linter.all false
set_option maxRecDepth 100000
namespace LK
open PySem PySem.Spec PyProof.Rows L2
/-! ### sorted(d) of a dict whose keys are tuples of whole numbers -/
theorem perm_lift {α β : Type} {f : α → β} {l m : List β} (h : l.Perm m) : ∀ {L : List α}, m = L.map f → ∃ L' : List α, l = L'.map f ∧ L'.Perm L := by
  induction h with
  | nil =>
    intro L e
    cases L with
    | nil => exact ⟨[], rfl, .nil⟩
    | cons _ _ => cases e
  | cons x _ ih =>
    intro L e
    cases L with
    | nil => cases e
    | cons a L =>
      injection e with e1 e2
      obtain ⟨L', h1, h2⟩ := ih e2
      exact ⟨a :: L', by rw [List.map_cons, ← e1, ← h1], .cons a h2⟩
  | swap x y l =>
    intro L e
    cases L with
    | nil => cases e
    | cons a L =>
      cases L with
      | nil => cases e
      | cons b L =>
        injection e with e1 e2
        injection e2 with e2 e3
        exact ⟨b :: a :: L, by rw [List.map_cons, List.map_cons, ← e1, ← e2, ← e3], .swap a b L⟩
  | trans _ _ ih1 ih2 =>
    intro L e
    obtain ⟨L1, h1, h2⟩ := ih2 e
    obtain ⟨L2, h3, h4⟩ := ih1 h1
    exact ⟨L2, h3, h4.trans h2⟩
section
variable {X : Cx}
theorem call_sortedDT (hcalm : X.calm = true) : CallR X (.builtin "sorted") (fun xs H Q => ∃ (a : Addr) (kvs : List (List L2.Key × V)) (ks : List (List Int)) (d : Nat) (B : Int), xs = [.ref a] ∧ Rd H a (.dT kvs) ∧ kvs.map (·.1) = ks.map (fun k => k.map Sum.inl) ∧ ks.length < 64 ∧ 1 ≤ d ∧ (∀ k ∈ ks, k.length = d ∧ TS.Bd B k) ∧
    ∀ (L' : List (Addr × List Int)) (p : Addr), (L'.map (·.2)).Perm ks → (∀ q ∈ L', H q.1 = some (.tup (q.2.map V.int))) → L'.Pairwise (fun q r => TS.code B q.2 ≤ TS.code B r.2) → H p = none → Q (.ref p) (upd H p (.lst (L'.map fun q => V.ref q.1)))) := by
  intro pins s σ H xs us Q I r q
  obtain ⟨a, kvs, ks, d, B, ex, hd, hks, h64, hd1, hB, q⟩ := q
  subst ex
  obtain ⟨u, eu, rx⟩ := vals1 r
  subst eu
  cases rx
  obtain ⟨z, hs, ts, pr, o, es, ep, ho, hx, hdt, he, hn⟩ := (show ObjOk X.prog X.w H s.heap a (.dT kvs) from hd.ok I.hok)
  have l1 : es.size = ts.length := size_of_entries he
  have l2 : kvs.length = ts.length := Paired.length pr
  have l3 : kvs.length = ks.length := by
    have e := congrArg List.length hks
    rw [List.length_map, List.length_map] at e
    exact e
  -- the keys with their addresses
  have keys : ∀ {kvs : List (List L2.Key × V)} {ts : List (List L2.Key × Addr × Value)} {ks : List (List Int)}, KT H kvs ts → kvs.map (·.1) = ks.map (fun k => k.map Sum.inl) →
      ∃ L : List (Addr × List Int), (ts.map fun x => x.2.1) = L.map (·.1) ∧ L.map (·.2) = ks ∧ ∀ q ∈ L, H q.1 = some (.tup (q.2.map V.int)) := by
    intro kvs ts ks pr
    induction pr generalizing ks with
    | nil =>
      intro e
      cases ks with
      | nil => exact ⟨[], rfl, rfl, fun q hq => nomatch hq⟩
      | cons _ _ => cases e
    | @cons p x ps xs hp _ ih =>
      intro e
      cases ks with
      | nil => cases e
      | cons k ks =>
        injection e with e1 e2
        obtain ⟨L, h1, h2, h3⟩ := ih e2
        refine ⟨(x.2.1, k) :: L, by rw [List.map_cons, List.map_cons, h1], by rw [List.map_cons, h2], fun q hq => ?_⟩
        rcases List.mem_cons.mp hq with rfl | hq
        · have := hp.2.1
          rw [show p.1 = k.map Sum.inl from e1, List.map_map] at this
          exact this
        · exact h3 q hq
  obtain ⟨L, hL1, hL2, hL3⟩ := keys pr hks
  have lL : L.length = ks.length := by rw [← hL2, List.length_map]
  have h16 : es.size ≤ sizeLine := by rw [l1, ← l2, l3, sizeLine_eq]; omega
  refine Calls.call_function_entry PyProof.Rows.kind_sorted PyProof.Rows.plain_sorted PyProof.Rows.entry_sorted (PyProof.Rows.args_sorted1 _) ?_
  unfold Builtin.«sorted»
  refine wpAny_bind (m := checkCount "sorted" 1 1 _) (wpAny_pure ?_)
  refine wpAny_bind (PySem.W.kdu_collect (A := X.A.in1) (kdl_raw hs hx hdt) (I.ok.hd hcalm) ho h16 fun h' tk acc hk it => ?_)
  have ea : acc.toList = L.map fun q => Value.ref q.1 := by
    have e0 : (L.map fun q => Value.ref q.1) = ts.map fun x => Value.ref x.2.1 := by
      have : (L.map fun q => Value.ref q.1) = (L.map (·.1)).map Value.ref := by rw [List.map_map]; rfl
      rw [this, ← hL1, List.map_map]; rfl
    rw [e0]
    have hl : acc.toList.length = ts.length := by rw [Array.length_toList, it.1]; exact l1
    apply List.ext_getElem?
    intro j
    rw [List.getElem?_map]
    cases hj : acc.toList[j]? with
    | none =>
      have h1 := List.getElem?_eq_none_iff.mp hj
      rw [List.getElem?_eq_none (by omega)]
      rfl
    | some v =>
      obtain ⟨en, hen, hv⟩ := it.2 j v (by rw [← Array.getElem?_toList]; exact hj)
      have qe := entry_at he j
      rw [hen] at qe
      cases hb : ts[j]? with
      | none =>
        rw [hb] at qe
        exact nomatch (show some en = none from qe)
      | some b =>
        rw [hb] at qe
        have e2 : en = entryOfKey (tupleKind (mixKind X.prog X.w)) b := Option.some.inj qe
        rw [hv, e2]
        rfl
  have hal : acc.toList.length = ks.length := by rw [ea, List.length_map, lL]
  have I1 : Inv X pins σ H { s with heap := h', toks := tk } := I.kept hk
  refine wpAny_bind (wpAny_newList ?_ (by rw [hal, sizeLine_eq]; omega))
  have hoL : (h'.push (seqObj "list" acc.toList.toArray 0)).get? h'.objs.size = some (seqObj "list" acc.toList.toArray 0) := Heap.get?_push_size _ rfl
  show wpAny _ _ _ _ _ { s with heap := h'.push (seqObj "list" acc.toList.toArray 0), toks := tk }
  have tk2 : ∀ q ∈ L, TS.TupInts (h'.push (seqObj "list" acc.toList.toArray 0)) (.ref q.1) q.2 := fun q hq => tupInts_of (P := X.prog) (w := X.w) (isT_keep (I.isT (.inl (.inl (hL3 q hq)))) fun b u e => Heap.get?_push_of_some _ (hk b u e))
  have x : TS.TupsOk (h'.push (seqObj "list" acc.toList.toArray 0)) d B acc.toList := fun v hv => by
    rw [ea] at hv
    obtain ⟨q, hq, e⟩ := List.mem_map.mp hv
    rw [← e]
    have := hB q.2 (by rw [← hL2]; exact List.mem_map_of_mem hq)
    exact ⟨q.2, tk2 q hq, this.1, this.2⟩
  refine wpAny_bind (wpAny_holding (TS.call_sort_tups (s := { s with heap := h'.push (seqObj "list" acc.toList.toArray 0), toks := tk }) hoL (by rw [hal]; exact h64) hd1 x fun out a1 a2 => ?_))
  obtain ⟨e', he'⟩ := PyProof.Rows.sortedHeap_at (vs := acc.toList) (out := out) hoL
  obtain ⟨L', hL', pm⟩ := perm_lift a1 ea
  have pw : L'.Pairwise (fun q r => TS.code B q.2 ≤ TS.code B r.2) := by
    rw [hL'] at a2
    refine List.Pairwise.imp_of_mem (fun {q r} hq hr hle => ?_) (List.pairwise_map.mp a2)
    have f1 : TS.intsOf (h'.push (seqObj "list" acc.toList.toArray 0)) (.ref q.1) = q.2 := (tk2 q (pm.mem_iff.mp hq)).ints
    have f2 : TS.intsOf (h'.push (seqObj "list" acc.toList.toArray 0)) (.ref r.1) = r.2 := (tk2 r (pm.mem_iff.mp hr)).ints
    rw [← f1, ← f2]
    exact hle
  have hlen : (L'.map fun q => V.ref q.1).length ≤ sizeLine := by
    rw [List.length_map, pm.length_eq, lL, sizeLine_eq]; omega
  refine wpAny_pure ⟨_, rfl, .ref h'.objs.size, upd H h'.objs.size (.lst (L'.map fun q => V.ref q.1)), I1.laid (t' := tk) (fun b u e => ?_) (Nat.le_refl _)
    (show ObjOk X.prog X.w _ _ _ (.lst (L'.map fun q => V.ref q.1)) from ⟨hlen, out.toList, e', by rw [hL']; exact vals_of_refs L', by rw [Array.toArray_toList]; exact he'⟩), rfl, q L' _ (by rw [← hL2]; exact pm.map _) (fun q hq => hL3 q (pm.mem_iff.mp hq)) pw (I1.hok.fresh (Nat.le_refl _))⟩
  have hb : b < h'.objs.size := Heap.lt_size e
  rw [PyProof.Rows.sortedHeap_old (Nat.ne_of_lt hb) (by rw [size_push']; exact Nat.lt_succ_of_lt hb)]
  exact Heap.get?_push_of_some _ e
end
end LK

set_option Elab.async false
set_option linter.all false
set_option maxRecDepth 100000
namespace LK
open PySem PySem.Spec PyProof.Rows L2
/-! ### set(xs) of a long list of tuples, of which few are distinct -/
theorem pigeon {α : Type} [DecidableEq α] : ∀ {l S : List α}, l.Nodup → (∀ x ∈ l, x ∈ S) → l.length ≤ S.length
  | [], _, _, _ => Nat.zero_le _
  | a :: l, S, h, hs => by
    rw [List.nodup_cons] at h
    have ha := hs a List.mem_cons_self
    have := pigeon (l := l) (S := S.erase a) h.2 fun x hx => by
      have ne : x ≠ a := fun e => h.1 (e ▸ hx)
      exact (List.mem_erase_of_ne ne).mpr (hs x (List.mem_cons_of_mem _ hx))
    rw [List.length_erase_of_mem ha] at this
    have p : 0 < S.length := List.length_pos_of_mem ha
    rw [List.length_cons]
    omega
def Stays (h h' : Heap) : Prop := ∀ b o, h.get? b = some o → h'.get? b = some o
abbrev noSet (w : World) : Obj := { cls := .type "set", dict := none, data := .set #[] 0 (.fresh 0 0 (!w.params.followText "set-order")) }
section
variable {P : Program} {w : World} {A : Around} {E : Value → Shared → Prop} {s : Shared}
def InSet (P : Program) (w : World) (h : Heap) (S : Addr) (ks : List (Addr × List Int)) (i : Nat) : Prop := ∃ L es ep t, SetTR P w h S L es ep t ∧ Got ks i L
section
variable {I S : Addr} {fp wr : List Addr} {G : Array GenState → Array GenState → Prop} {Pv : Nat → Value → Prop} {St : Nat → Shared → Prop} {R : Result → Shared → Prop} {ks : List (Addr × List Int)} {D : List (List Int)} {h0 : Heap}
theorem rounds (W : WalksS P w A.in1 I fp wr G ks.length Pv St) (nS : S ∉ fp) (few : D.length ≤ 62) (mem : ∀ p ∈ ks, p.2 ∈ D) (val : ∀ i v, Pv i v → ∃ p, ks[i]? = some p ∧ v = .ref p.1)
    (tup : ∀ p ∈ ks, IsT P w h0 p.2 p.1) (newS : h0.get? S = none) (newW : ∀ b ∈ wr, h0.get? b = none) (un : A.in1.units < cLine) : ∀ (left i : Nat) (s : Shared), i + left = ks.length → St i s → Stays h0 s.heap → InSet P w s.heap S ks i →
    (∀ s', Moved (S :: wr) G s s' → InSet P w s'.heap S ks ks.length → Stays h0 s'.heap → R (.ok (.ret .none)) s') → codeAny (model P w) A (.builtin "set.update.loop" ⟨[.ref S, .ref I], []⟩) R s := by
  have out : S ∉ wr := fun h => nS (W.sub _ h)
  have wide : ∀ b ∈ wr, b ∈ S :: wr := fun b hb => List.mem_cons_of_mem _ hb
  have hold : ∀ {s s' : Shared}, Moved wr G s s' → Stays h0 s.heap → Stays h0 s'.heap := fun m k b o e => m.heap b o (fun hb => nomatch (newW b hb).symm.trans e) (k b o e)
  have take : ∀ {s s' : Shared} {i : Nat} {L : List (Addr × List Int)} {es : Array (Int × Value)} {ep : Nat} {t : SetTable}, Moved wr G s s' → Stays h0 s.heap → SetTR P w s.heap S L es ep t → Got ks i L → SetTR P w s'.heap S L es ep t := fun m k R g =>
    R.keep (fun o e => m.heap S o out e) fun q hq => isT_keep (tup q (List.mem_of_mem_take (g.sub q hq))) (hold m k)
  intro left
  induction left with
  | zero =>
    intro i s hi st kp inn fin
    obtain rfl : i = ks.length := hi
    obtain ⟨L, es, ep, t, R0, g⟩ := inn
    refine codeAny_builtin F.entry_set_update_loop ?_
    rw [Around.under_plainId F.plain_set_update_loop _]
    change wpAny _ A.in1 (pyNext (.ref I) >>= _) _ _ s
    refine wpAny_bind (W.done s _ _ st fun s' m => ?_)
    change wpAny _ A.in1 (ret Value.none) _ _ s'
    exact wpAny_pure (fin s' (m.mono wide) ⟨L, es, ep, t, take m kp R0 g, g⟩ (hold m kp))
  | succ left ih =>
    intro i s hi st kp inn fin
    obtain ⟨L, es, ep, t, R0, g⟩ := inn
    refine codeAny_builtin F.entry_set_update_loop ?_
    rw [Around.under_plainId F.plain_set_update_loop _]
    change wpAny _ A.in1 (pyNext (.ref I) >>= _) _ _ s
    refine wpAny_bind (W.item i s _ _ (by omega) st fun v s1 pv st1 m => ?_)
    obtain ⟨q, hq, rfl⟩ := val i v pv
    have kp1 := hold m kp
    have R1 := take m kp R0 g
    have isq : IsT P w s1.heap q.2 q.1 := isT_keep (tup q (List.mem_of_getElem? hq)) kp1
    have small : L.length ≤ 62 := by
      have := pigeon R1.nd fun x hx => by
        obtain ⟨y, hy, rfl⟩ := List.mem_map.mp hx
        exact mem y (List.mem_of_mem_take (g.sub y hy))
      rw [List.length_map] at this
      exact Nat.le_trans this few
    change wpAny _ A.in1 (holding [Value.ref q.1] (setAdd S (.ref q.1)) >>= _) _ _ s1
    refine wpAny_bind (wpAny_holding ?_)
    unfold setAdd
    refine wpAny_holding ?_
    refine wpAny_bind (wpAny_pyHash_tuple un isq ?_)
    refine add_at (s := { s1 with toks := s1.toks + (q.2.length + 1) }) R1 isq un (by omega) fun b h2 L2 es2 ep2 t2 same R2 c1 c2 => ?_
    have g2 : Got ks (i + 1) L2 := (Classical.em (q.2 ∈ L.map (·.2))).elim (fun c => by rw [c1 c]; exact g.same hq c) fun c => g.more hq (c2 c)
    have kp2 : Stays h0 h2 := fun b o e => (same.2 b fun z => by subst z; exact nomatch newS.symm.trans e).trans (kp1 b o e)
    refine wpAny_pure ⟨plainId_quiet F.plain_set_update_loop _, ih (i + 1) _ (by omega) (W.frame _ s1 _ _ st1 (Nat.le_add_right _ _) fun b hb o e => ?_) kp2 ⟨L2, es2, ep2, t2, R2, g2⟩ fun s3 m3 in3 kp3 => ?_⟩
    · exact (same.2 b (fun z : b = S => nS (z ▸ hb))).trans e
    · refine fin s3 (Moved.trans W.gtrans ((m.mono wide).then_heap (Nat.le_add_right _ _) fun b o nb e => ?_) m3) in3 kp3
      exact (same.2 b (fun z : b = S => nb (by rw [z]; exact List.mem_cons_self))).trans e
end
set_option maxHeartbeats 3200000 in
theorem call_setW {l : Addr} {items : Array Value} {ks : List (Addr × List Int)} {D : List (List Int)} {Q : Value → Shared → Prop} (hh : A.handled = none) (hl : s.heap.IsList l items) (hit : items.toList = ks.map fun q => Value.ref q.1)
    (tup : ∀ q ∈ ks, IsT P w s.heap q.2 q.1) (few : D.length ≤ 62) (mem : ∀ q ∈ ks, q.2 ∈ D) (un : A.units + 3 < cLine)
    (fin : ∀ (h' : Heap) (tk : Nat), InSet P w h' s.heap.objs.size ks ks.length → Stays s.heap h' → Q (.ref s.heap.objs.size) { s with heap := h', toks := tk }) : wpAny (model P w) A (call (.type "set") [.ref l]) Q E s := by
  have size : items.size = ks.length := by rw [← Array.length_toList, hit, List.length_map]
  obtain ⟨c, tl, hmro⟩ := F.called_set.mro
  have fact1 := F.called_set.made
  have fact2 := F.called_set.sub
  refine wpAny_call (codeAny_of_tree ?_)
  change wpAny _ _ (callAny (.type "set") _) _ _ _
  refine wpAny_pure ⟨Code.quiet_builtin _ (by decide +kernel), codeAny_builtin F.entry_type_call ?_⟩
  rw [Around.under_plain (weight_type_call_type "set" [.ref l] []) rfl]
  have fact3 := F.called_set.notType
  have fact4 := F.called_set.canCreate
  have fact5 := F.typeCall_set_1 (.ref l)
  repeat (any_goals (first | assumption | wp_step))

  refine codeAny_mono (code_set_led1 (.ref l) (E := E) (Q₁ := fun obj s1 => obj = .ref s.heap.objs.size ∧ s1 = { s with heap := s.heap.push (noSet w) }) ⟨rfl, rfl⟩) fun r s1 hr => ?_
  rcases r with e | fl
  · exact hr
  · cases fl with
    | ret obj =>
      obtain ⟨rfl, rfl⟩ := hr
      have atS : (s.heap.push (noSet w)).get? s.heap.objs.size = some (noSet w) := Heap.get?_push_size _ rfl
      have hT : Shared.TypeIs { s with heap := s.heap.push (noSet w) } (.ref s.heap.objs.size) "set" := ⟨_, atS, rfl⟩
      have fact6 := F.called_set.init.lookup
      have fact7 := F.called_set.init.bind (.ref s.heap.objs.size)
      repeat (any_goals (first | assumption | wp_step))

      refine codeAny_mono (codeAny_call_builtin (R := wants (fun r s2 => r = .none ∧ ∃ h' tk, s2 = { s with heap := h', toks := tk } ∧ InSet P w h' s.heap.objs.size ks ks.length ∧ Stays s.heap h') E) F.called_set.init.plain F.entry_set_init (check_set_init_1 hT ?_)) fun r2 s2 hr2 => ?_
      · obtain ⟨⟨_, _, _, _⟩, hol, hcl, nl, hdl⟩ := hl
        simp only at hcl hdl
        subst hcl hdl
        have before : l < s.heap.objs.size := Heap.lt_size hol
        have hol1 := Heap.get?_push_of_some (noSet w) hol
        have fact8 := F.sub_list_set
        have fact9 := F.sub_list_frozenset
        have factA : (Value.type "list" == Value.type "dict") = false := by decide
        have hl1 : (s.heap.push (noSet w)).IsList l items := ⟨_, hol1, rfl, nl, rfl⟩
        unfold Builtin.«set.__init__» noKeywords Builtin.Frozenset.updateFrom
        generalize hPI : pyIter = PI
        wp_walk
        subst hPI

        refine wpAny_pyIter_list hl1 (wpAny_bind (wpAny_runValue ?_))
        have hd3 : A.in1.in1.in1.handled = none := by simp [hh]
        have sz : (s.heap.push (noSet w)).objs.size = s.heap.objs.size + 1 := Heap.size_push ..
        have ne1 : l ≠ (s.heap.push (noSet w)).objs.size := Nat.ne_of_lt (Nat.lt_of_lt_of_eq (Nat.lt_succ_of_lt before) sz.symm)
        have free : ∀ b, s.heap.objs.size ≤ b → s.heap.get? b = none := fun b hb => by
          rcases q : s.heap.get? b with _ | o
          · rfl
          · exact (Nat.lt_irrefl _ (Nat.lt_of_le_of_lt hb (Heap.lt_size q))).elim
        have W0 := (Walks.list (prog := P) (w := w) hd3 _ l ne1 items).toS
        rw [size] at W0
        refine rounds (P := P) (w := w) (h0 := s.heap) (S := s.heap.objs.size) W0 (fun z => by
          rcases List.mem_cons.mp z with z | z
          · exact Nat.ne_of_lt (Nat.lt_of_lt_of_eq (Nat.lt_succ_self _) sz.symm) z
          · exact Nat.ne_of_gt before (List.mem_singleton.mp z)) few mem (fun i v hv => ?_) tup (free _ (Nat.le_refl _)) (fun b hb => free b (by rw [List.mem_singleton.mp hb, sz]; exact Nat.le_succ _)) un ks.length 0 _ (Nat.zero_add _) ⟨⟨_, Heap.get?_push_size _ rfl, rfl, rfl⟩, hl1.push _⟩ (fun b o e => Heap.get?_push_of_some _ (Heap.get?_push_of_some _ e)) ⟨[], #[], 0, _, setTR_fresh (Heap.get?_push_of_some _ atS), Got.zero ks⟩ ?_
        · have q : items.toList[i]? = some v := by rw [Array.getElem?_toList]; exact hv
          rw [hit, List.getElem?_map] at q
          obtain ⟨p, hp, e⟩ := Option.map_eq_some_iff.mp q
          exact ⟨p, hp, e.symm⟩
        · rintro ⟨h', g2, d2, tk, os2⟩ m inn kp
          obtain rfl : g2 = s.gens := m.gens
          obtain rfl : d2 = s.drawn := m.drawn
          obtain rfl : os2 = s.os := m.os
          change wpAny _ _ _ _ _ _
          refine wpAny_pure ?_
          change wpAny _ _ (ret Value.none) _ _ _
          exact wpAny_pure ⟨rfl, h', tk, rfl, inn, kp⟩
      · rcases r2 with e | fl2
        · exact hr2
        · cases fl2 with
          | ret r =>
            obtain ⟨rfl, h', tk, rfl, inn, kp⟩ := hr2
            repeat (any_goals (first | assumption | wp_step))
            exact fin h' tk inn kp
          | _ => exact hr2.elim
    | _ => exact hr.elim
end
section
variable {X : Cx}
def rSetW (K : PySem.W.Frag) (P : Program) (w : World) : List V → Hp → VK → Prop := fun xs H Q => ∃ (l : Addr) (ks : List (Addr × List Int)), xs = [V.ref l] ∧ SqL K H l (ks.map fun q => V.ref q.1) ∧ (∀ q ∈ ks, SqT K H q.1 (q.2.map V.int)) ∧ (∃ D : List (List Int), D.length ≤ 62 ∧ ∀ q ∈ ks, q.2 ∈ D) ∧
  ∀ sa L, H sa = none → (∀ q ∈ L, q ∈ ks) → (∀ q ∈ ks, q.2 ∈ L.map (·.2)) → Q (.ref sa) (upd H sa (SetTO P w sa L))
theorem cr_setW (hc : X.calm = true) (hu : X.A.units + 64 < cLine) : CallR X (.type "set") (rSetW X.K X.prog X.w) := by
  intro pins s σ H xs us Q I r h
  obtain ⟨l, ks, rfl, hl, hk, ⟨D, hD, mD⟩, q⟩ := h
  obtain ⟨its, rv, pl, _⟩ := I.list hl
  rw [Vals.ref1 r]
  refine call_setW (P := X.prog) (w := X.w) (ks := ks) (I.ok.hd hc) pl.isList (by simpa using refs_of_vals rv) (fun q hq => I.isT (hk q hq)) hD mD (by omega) fun h' tk inn kp => ?_
  obtain ⟨L, es, ep, t, R, g⟩ := inn
  refine ⟨.ref s.heap.objs.size, upd H s.heap.objs.size (SetTO X.prog X.w s.heap.objs.size L), I.laid (t' := tk) kp (Nat.le_refl _) (setTO_new R.t0), rfl, q _ L (I.hok.fresh (Nat.le_refl _)) (fun p hp => List.mem_of_mem_take (g.sub p hp)) fun p hp => ?_⟩
  exact g.all p (by rw [List.take_length]; exact hp)
end
end LK

set_option Elab.async false
set_option linter.all false
set_option maxRecDepth 100000
namespace LK
open PySem PySem.Spec PyProof.Rows L2
/-! ### zip of a tuple and two lists -/
abbrev Is3 (h : Heap) (T : Addr) (a b c : Value) : Prop := h.get? T = some { cls := .type "tuple", data := .seq #[a, b, c] }
theorem upd3 {prog : Program} {w : World} {A : Around} {E : Value → Shared → Prop} {s : Shared} {T : Addr} {a b c x : Value} {k : Nat} {Q : Unit → Shared → Prop} (hT : Is3 s.heap T a b c)
    (h : ∀ g, g.get? T = some { cls := .type "tuple", data := .seq ((#[a, b, c] : Array Value).setIfInBounds k x) } → Heap.SameBut T s.heap g → Q () { s with heap := g }) : wpAny (model prog w) A (updateSeq T (·.setIfInBounds k x)) Q E s :=
  wpAny_updateSeq hT rfl (h _ (by rw [Heap.get?_update_self _ hT rfl]; simp [Obj.mapSeq]) (Heap.SameBut.update ..))
structure Far3 (z TI TO i1 i2 i3 l1 l2 l3 : Addr) : Prop where
  fz : ∀ c ∈ [TI, TO, i1, i2, i3, l1, l2, l3], c ≠ z
  fo : ∀ c ∈ [z, TI, i1, i2, i3, l1, l2, l3], c ≠ TO
  f1 : ∀ c ∈ [z, TI, TO, i2, i3, l1, l2, l3], c ≠ i1
  f2 : ∀ c ∈ [z, TI, TO, i1, i3, l1, l2, l3], c ≠ i2
  f3 : ∀ c ∈ [z, TI, TO, i1, i2, l1, l2, l3], c ≠ i3
structure Z3 (z TI TO i1 i2 i3 : Addr) (I1 I2 I3 : Nat → Heap → Prop) (C1 C2 C3 : Array Value → Heap → Prop) (xs ys zs : Array Value) (h : Heap) (f a b c : Value) (k1 k2 k3 : Nat) : Prop where
  oz : IsZip h z TI TO f
  ti : Is3 h TI (.ref i1) (.ref i2) (.ref i3)
  tt : Is3 h TO a b c
  j1 : I1 k1 h
  j2 : I2 k2 h
  j3 : I3 k3 h
  c1 : C1 xs h
  c2 : C2 ys h
  c3 : C3 zs h
section
variable {prog : Program} {w : World} {A : Around} {E : Value → Shared → Prop} {s : Shared} {z TI TO i1 i2 i3 l1 l2 l3 : Addr} {I1 I2 I3 : Nat → Heap → Prop} {C1 C2 C3 : Array Value → Heap → Prop} {xs ys zs : Array Value} {f a b c : Value} {k1 k2 k3 : Nat} {h g : Heap}
theorem Z3.onZ (D : Far3 z TI TO i1 i2 i3 l1 l2 l3) (S1 : Src prog w i1 l1 I1 C1) (S2 : Src prog w i2 l2 I2 C2) (S3 : Src prog w i3 l3 I3 C3) (q : Z3 z TI TO i1 i2 i3 I1 I2 I3 C1 C2 C3 xs ys zs h f a b c k1 k2 k3) (e : Heap.ExtBut z h g) {f' : Value} (n : IsZip g z TI TO f') : Z3 z TI TO i1 i2 i3 I1 I2 I3 C1 C2 C3 xs ys zs g f' a b c k1 k2 k3 :=
  ⟨n, e _ _ (D.fz _ (by simp)) q.ti, e _ _ (D.fz _ (by simp)) q.tt, S1.mvI q.j1 fun o => e _ o (D.fz _ (by simp)), S2.mvI q.j2 fun o => e _ o (D.fz _ (by simp)), S3.mvI q.j3 fun o => e _ o (D.fz _ (by simp)), S1.mvC q.c1 fun o => e _ o (D.fz _ (by simp)), S2.mvC q.c2 fun o => e _ o (D.fz _ (by simp)), S3.mvC q.c3 fun o => e _ o (D.fz _ (by simp))⟩
theorem Z3.onO (D : Far3 z TI TO i1 i2 i3 l1 l2 l3) (S1 : Src prog w i1 l1 I1 C1) (S2 : Src prog w i2 l2 I2 C2) (S3 : Src prog w i3 l3 I3 C3) (q : Z3 z TI TO i1 i2 i3 I1 I2 I3 C1 C2 C3 xs ys zs h f a b c k1 k2 k3) (e : Heap.ExtBut TO h g) {a' b' c' : Value} (n : Is3 g TO a' b' c') : Z3 z TI TO i1 i2 i3 I1 I2 I3 C1 C2 C3 xs ys zs g f a' b' c' k1 k2 k3 :=
  ⟨e _ _ (D.fo _ (by simp)) q.oz, e _ _ (D.fo _ (by simp)) q.ti, n, S1.mvI q.j1 fun o => e _ o (D.fo _ (by simp)), S2.mvI q.j2 fun o => e _ o (D.fo _ (by simp)), S3.mvI q.j3 fun o => e _ o (D.fo _ (by simp)), S1.mvC q.c1 fun o => e _ o (D.fo _ (by simp)), S2.mvC q.c2 fun o => e _ o (D.fo _ (by simp)), S3.mvC q.c3 fun o => e _ o (D.fo _ (by simp))⟩
theorem Z3.on1 (D : Far3 z TI TO i1 i2 i3 l1 l2 l3) (S1 : Src prog w i1 l1 I1 C1) (S2 : Src prog w i2 l2 I2 C2) (S3 : Src prog w i3 l3 I3 C3) (q : Z3 z TI TO i1 i2 i3 I1 I2 I3 C1 C2 C3 xs ys zs h f a b c k1 k2 k3) (e : Heap.ExtBut i1 h g) {k : Nat} (n : I1 k g) : Z3 z TI TO i1 i2 i3 I1 I2 I3 C1 C2 C3 xs ys zs g f a b c k k2 k3 :=
  ⟨e _ _ (D.f1 _ (by simp)) q.oz, e _ _ (D.f1 _ (by simp)) q.ti, e _ _ (D.f1 _ (by simp)) q.tt, n, S2.mvI q.j2 fun o => e _ o (D.f1 _ (by simp)), S3.mvI q.j3 fun o => e _ o (D.f1 _ (by simp)), S1.mvC q.c1 fun o => e _ o (D.f1 _ (by simp)), S2.mvC q.c2 fun o => e _ o (D.f1 _ (by simp)), S3.mvC q.c3 fun o => e _ o (D.f1 _ (by simp))⟩
theorem Z3.on2 (D : Far3 z TI TO i1 i2 i3 l1 l2 l3) (S1 : Src prog w i1 l1 I1 C1) (S2 : Src prog w i2 l2 I2 C2) (S3 : Src prog w i3 l3 I3 C3) (q : Z3 z TI TO i1 i2 i3 I1 I2 I3 C1 C2 C3 xs ys zs h f a b c k1 k2 k3) (e : Heap.ExtBut i2 h g) {k : Nat} (n : I2 k g) : Z3 z TI TO i1 i2 i3 I1 I2 I3 C1 C2 C3 xs ys zs g f a b c k1 k k3 :=
  ⟨e _ _ (D.f2 _ (by simp)) q.oz, e _ _ (D.f2 _ (by simp)) q.ti, e _ _ (D.f2 _ (by simp)) q.tt, S1.mvI q.j1 fun o => e _ o (D.f2 _ (by simp)), n, S3.mvI q.j3 fun o => e _ o (D.f2 _ (by simp)), S1.mvC q.c1 fun o => e _ o (D.f2 _ (by simp)), S2.mvC q.c2 fun o => e _ o (D.f2 _ (by simp)), S3.mvC q.c3 fun o => e _ o (D.f2 _ (by simp))⟩
theorem Z3.on3 (D : Far3 z TI TO i1 i2 i3 l1 l2 l3) (S1 : Src prog w i1 l1 I1 C1) (S2 : Src prog w i2 l2 I2 C2) (S3 : Src prog w i3 l3 I3 C3) (q : Z3 z TI TO i1 i2 i3 I1 I2 I3 C1 C2 C3 xs ys zs h f a b c k1 k2 k3) (e : Heap.ExtBut i3 h g) {k : Nat} (n : I3 k g) : Z3 z TI TO i1 i2 i3 I1 I2 I3 C1 C2 C3 xs ys zs g f a b c k1 k2 k :=
  ⟨e _ _ (D.f3 _ (by simp)) q.oz, e _ _ (D.f3 _ (by simp)) q.ti, e _ _ (D.f3 _ (by simp)) q.tt, S1.mvI q.j1 fun o => e _ o (D.f3 _ (by simp)), S2.mvI q.j2 fun o => e _ o (D.f3 _ (by simp)), n, S1.mvC q.c1 fun o => e _ o (D.f3 _ (by simp)), S2.mvC q.c2 fun o => e _ o (D.f3 _ (by simp)), S3.mvC q.c3 fun o => e _ o (D.f3 _ (by simp))⟩
def Beside (L : List Addr) (h g : Heap) : Prop := ∀ c o, c ∉ L → h.get? c = some o → g.get? c = some o
theorem Beside.tr {L : List Addr} {h1 h2 h3 : Heap} (p : Beside L h1 h2) (q : Beside L h2 h3) : Beside L h1 h3 := fun c o n e => q c o n (p c o n e)
theorem Beside.of {L : List Addr} {m : Addr} (hm : m ∈ L) (e : Heap.ExtBut m h g) : Beside L h g := fun c o n => e c o fun z => n (z ▸ hm)
theorem z3_item {x y v : Value} {Q : Value → Shared → Prop} (D : Far3 z TI TO i1 i2 i3 l1 l2 l3) (S1 : Src prog w i1 l1 I1 C1) (S2 : Src prog w i2 l2 I2 C2) (S3 : Src prog w i3 l3 I3 C3) (q0 : Z3 z TI TO i1 i2 i3 I1 I2 I3 C1 C2 C3 xs ys zs s.heap .none a b c k1 k2 k3) (hx : xs[k1]? = some x) (hy : ys[k2]? = some y) (hv : zs[k3]? = some v)
    (k : ∀ g, Z3 z TI TO i1 i2 i3 I1 I2 I3 C1 C2 C3 xs ys zs g (rawInt s.heap.objs.size) x y v (k1 + 1) (k2 + 1) (k3 + 1) → Is3 g s.heap.objs.size x y v → g.objs.size = s.heap.objs.size + 1 → Beside [z, TO, i1, i2, i3] s.heap g → Q (.ref s.heap.objs.size) { s with heap := g }) :
    wpAny (model prog w) A (Builtin.«zip.__next__» ⟨[.ref z], []⟩) (fun r s' => ∃ v, r = .done (.ret v) ∧ Q v s') E s := by
  have oz := q0.oz
  change wpAny (model prog w) _ (field (.ref z) 2 >>= _) _ E _
  refine wpAny_bind (wpAny_field oz rfl (x := .bool false) rfl ?_)
  change wpAny (model prog w) _ (field (.ref z) 3 >>= _) _ E _
  refine wpAny_bind (wpAny_field oz rfl (x := .ref TI) rfl (wpAny_bind (wpAny_seqItems q0.ti rfl ?_)))
  change wpAny (model prog w) _ (Builtin.SmallTypes.ownedTupleIsFree (.ref z) >>= _) _ E _
  unfold Builtin.SmallTypes.ownedTupleIsFree
  refine wpAny_bind (wpAny_bind (wpAny_field oz rfl (x := .none) rfl (wpAny_pure ?_)))
  simp only [if_true]
  refine wpAny_bind (wpAny_rule (wpAny_bind (wpAny_field oz rfl (x := .ref TO) rfl (wpAny_bind (wpAny_setField_rec oz (by simp) fun g1 z1 e1 => ?_)))))
  have q1 := q0.onZ D S1 S2 S3 e1.extBut (f' := .ellipsis) z1
  have t1 : Beside [z, TO, i1, i2, i3] s.heap g1 := .of (by simp) e1.extBut
  simp only [List.forIn_cons, List.forIn_nil, List.zipIdx_cons, List.zipIdx_nil]
  refine wpAny_bind (wpAny_bind (wpAny_bind (wpAny_onRaise ?_)))
  change wpAny (model prog w) _ (Builtin.SmallTypes.nextOf (.ref i1) >>= _) _ _ _
  refine wpAny_bind (S1.more q1.j1 q1.c1 hx fun g2 n2 e2 => wpAny_pure ?_)
  have q2 := q1.on1 D S1 S2 S3 e2.extBut n2
  have t2 := t1.tr (.of (by simp) e2.extBut)
  refine wpAny_bind (wpAny_seqItems q2.tt rfl (wpAny_bind (upd3 q2.tt fun g3 n3 e3 => ?_)))
  have q3 := q2.onO D S1 S2 S3 e3.extBut (a' := x) (b' := b) (c' := c) n3
  have t3 := t2.tr (.of (by simp) e3.extBut)
  refine wpAny_bind (wpAny_letGo (wpAny_pure (wpAny_bind (wpAny_bind (wpAny_onRaise ?_)))))
  change wpAny (model prog w) _ (Builtin.SmallTypes.nextOf (.ref i2) >>= _) _ _ _
  refine wpAny_bind (S2.more q3.j2 q3.c2 hy fun g4 n4 e4 => wpAny_pure ?_)
  have q4 := q3.on2 D S1 S2 S3 e4.extBut n4
  have t4 := t3.tr (.of (by simp) e4.extBut)
  refine wpAny_bind (wpAny_seqItems q4.tt rfl (wpAny_bind (upd3 q4.tt fun g5 n5 e5 => ?_)))
  have q5 := q4.onO D S1 S2 S3 e5.extBut (a' := x) (b' := y) (c' := c) n5
  have t5 := t4.tr (.of (by simp) e5.extBut)
  refine wpAny_bind (wpAny_letGo (wpAny_pure (wpAny_bind (wpAny_bind (wpAny_onRaise ?_)))))
  change wpAny (model prog w) _ (Builtin.SmallTypes.nextOf (.ref i3) >>= _) _ _ _
  refine wpAny_bind (S3.more q5.j3 q5.c3 hv fun g6 n6 e6 => wpAny_pure ?_)
  have q6 := q5.on3 D S1 S2 S3 e6.extBut n6
  have t6 := t5.tr (.of (by simp) e6.extBut)
  refine wpAny_bind (wpAny_seqItems q6.tt rfl (wpAny_bind (upd3 q6.tt fun g7 n7 e7 => ?_)))
  have q7 := q6.onO D S1 S2 S3 e7.extBut (a' := x) (b' := y) (c' := v) n7
  have t7 := t6.tr (.of (by simp) e7.extBut)
  have sz : g7.objs.size = s.heap.objs.size := by rw [e7.1, e6.1, e5.1, e4.1, e3.1, e2.1, e1.1]
  refine wpAny_bind (wpAny_letGo (wpAny_pure (wpAny_pure (wpAny_bind (wpAny_seqItems q7.tt rfl (wpAny_bind (wpAny_newTuple ?_)))))))
  change wpAny (model prog w) _ (Builtin.SmallTypes.ownedTupleHandOut (.ref z) (.ref g7.objs.size) >>= _) _ E _
  unfold Builtin.SmallTypes.ownedTupleHandOut
  have pz : IsZip (g7.push { cls := .type "tuple", data := .seq #[x, y, v] }) z TI TO .ellipsis := Heap.get?_push_of_some _ q7.oz
  refine wpAny_bind (wpAny_bind (wpAny_setField_rec pz (by simp) fun g8 z8 e8 => ?_))
  have z8' : IsZip g8 z TI TO (rawInt g7.objs.size) := z8
  refine wpAny_setField_rec z8' (by simp) fun g9 z9 e9 => ?_
  have z9' : IsZip g9 z TI TO (rawInt g7.objs.size) := z9
  have e79 : Heap.ExtBut z g7 g9 := fun c o n e => e9.extBut _ _ n (e8.extBut _ _ n (Heap.get?_push_of_some _ e))
  have q9 := q7.onZ D S1 S2 S3 e79 z9'
  have nz : g7.objs.size ≠ z := Nat.ne_of_gt (Heap.lt_size q7.oz)
  have p9 : Is3 g9 g7.objs.size x y v := e9.extBut _ _ nz (e8.extBut _ _ nz (Heap.get?_push_size _ rfl))
  have s9 : g9.objs.size = g7.objs.size + 1 := by rw [e9.1, e8.1, Heap.size_push]
  refine wpAny_pure ⟨.ref g7.objs.size, rfl, ?_⟩
  rw [sz] at q9 p9 s9 ⊢
  exact k g9 q9 p9 s9 (t7.tr (.of (by simp) e79))
/-- the last turn: the first of the three has no more -/
theorem z3_end {Q : Fin → Shared → Prop} (hh : A.handled = none) (D : Far3 z TI TO i1 i2 i3 l1 l2 l3) (S1 : Src prog w i1 l1 I1 C1) (S2 : Src prog w i2 l2 I2 C2) (S3 : Src prog w i3 l3 I3 C3) (q0 : Z3 z TI TO i1 i2 i3 I1 I2 I3 C1 C2 C3 xs ys zs s.heap .none a b c k1 k2 k3) (hx : xs[k1]? = none)
    (k : ∀ g e, Beside [z, TO, i1, i2, i3] s.heap g → (∃ o, g.get? e = some o ∧ o.cls = .type "StopIteration") → E (.ref e) { s with heap := g }) : wpAny (model prog w) A (Builtin.«zip.__next__» ⟨[.ref z], []⟩) Q E s := by
  have oz := q0.oz
  change wpAny (model prog w) _ (field (.ref z) 2 >>= _) _ E _
  refine wpAny_bind (wpAny_field oz rfl (x := .bool false) rfl ?_)
  change wpAny (model prog w) _ (field (.ref z) 3 >>= _) _ E _
  refine wpAny_bind (wpAny_field oz rfl (x := .ref TI) rfl (wpAny_bind (wpAny_seqItems q0.ti rfl ?_)))
  change wpAny (model prog w) _ (Builtin.SmallTypes.ownedTupleIsFree (.ref z) >>= _) _ E _
  unfold Builtin.SmallTypes.ownedTupleIsFree
  refine wpAny_bind (wpAny_bind (wpAny_field oz rfl (x := .none) rfl (wpAny_pure ?_)))
  simp only [if_true]
  refine wpAny_bind (wpAny_rule (wpAny_bind (wpAny_field oz rfl (x := .ref TO) rfl (wpAny_bind (wpAny_setField_rec oz (by simp) fun g1 z1 e1 => ?_)))))
  have q1 := q0.onZ D S1 S2 S3 e1.extBut (f' := .ellipsis) z1
  have t1 : Beside [z, TO, i1, i2, i3] s.heap g1 := .of (by simp) e1.extBut
  simp only [List.forIn_cons, List.forIn_nil, List.zipIdx_cons, List.zipIdx_nil]
  refine wpAny_bind (wpAny_bind (wpAny_bind (wpAny_onRaise ?_)))
  change wpAny (model prog w) _ (Builtin.SmallTypes.nextOf (.ref i1) >>= _) _ _ _
  refine wpAny_bind (S1.over hh q1.j1 q1.c1 hx fun g2 e e2 so => ?_)
  have z2 := e2 _ _ (D.f1 z (by simp)) q1.oz
  refine wpAny_setField_rec z2 (by simp) fun g3 _ e3 => ?_
  obtain ⟨o, h1, h2⟩ := so
  exact k _ _ ((t1.tr (.of (by simp) e2)).tr (.of (by simp) e3.extBut)) ⟨o, e3.extBut _ _ (fun n => by subst n; rw [z2] at h1; cases h1; simp at h2) h1, h2⟩
theorem z3_next {x y v : Value} {Q : Option Value → Shared → Prop} (D : Far3 z TI TO i1 i2 i3 l1 l2 l3) (S1 : Src prog w i1 l1 I1 C1) (S2 : Src prog w i2 l2 I2 C2) (S3 : Src prog w i3 l3 I3 C3) (q0 : Z3 z TI TO i1 i2 i3 I1 I2 I3 C1 C2 C3 xs ys zs s.heap .none a b c k1 k2 k3) (hx : xs[k1]? = some x) (hy : ys[k2]? = some y) (hv : zs[k3]? = some v)
    (k : ∀ g, Z3 z TI TO i1 i2 i3 I1 I2 I3 C1 C2 C3 xs ys zs g (rawInt s.heap.objs.size) x y v (k1 + 1) (k2 + 1) (k3 + 1) → Is3 g s.heap.objs.size x y v → g.objs.size = s.heap.objs.size + 1 → Beside [z, TO, i1, i2, i3] s.heap g → Q (some (.ref s.heap.objs.size)) { s with heap := g }) : wpAny (model prog w) A (pyNext (.ref z)) Q E s := by
  have ty : s.TypeIs (.ref z) "zip" := ⟨_, q0.oz, rfl⟩
  unfold pyNext
  exact wpAny_bind (wpAny_attempt (wpAny_callSpecial?_slot (name := Str.ofString "__next__") ty F.slot_zip_next (wpAny_call_entry F.slot_zip_next ty F.entry_zip_next (z3_item D S1 S2 S3 q0 hx hy hv fun g p1 p2 p3 p4 => wpAny_pure (k g p1 p2 p3 p4)) (F.args_zip_next_1 _))))
theorem z3_stop {Q : Option Value → Shared → Prop} (hh : A.handled = none) (D : Far3 z TI TO i1 i2 i3 l1 l2 l3) (S1 : Src prog w i1 l1 I1 C1) (S2 : Src prog w i2 l2 I2 C2) (S3 : Src prog w i3 l3 I3 C3) (q0 : Z3 z TI TO i1 i2 i3 I1 I2 I3 C1 C2 C3 xs ys zs s.heap .none a b c k1 k2 k3) (hx : xs[k1]? = none)
    (k : ∀ g, Beside [z, TO, i1, i2, i3] s.heap g → Q none { s with heap := g }) : wpAny (model prog w) A (pyNext (.ref z)) Q E s := by
  have ty : s.TypeIs (.ref z) "zip" := ⟨_, q0.oz, rfl⟩
  unfold pyNext
  refine wpAny_bind (wpAny_attempt (wpAny_callSpecial?_slot (name := Str.ofString "__next__") ty F.slot_zip_next (wpAny_call_entry F.slot_zip_next ty F.entry_zip_next (z3_end hh D S1 S2 S3 q0 hx fun g e st so => ?_) (F.args_zip_next_1 _))))
  obtain ⟨o, h1, h2⟩ := so
  exact wpAny_bind (wpAny_isInstance (T := "StopIteration") (b := true) ⟨o, h1, h2⟩ isSubtype_stop (wpAny_pure (k _ st)))
end
def Itz3 (K : PySem.W.Frag) (a b c : Addr) : It where
  go := fun i H => ∃ (xs ys zs : List V) (x y z : V), SqT K H a xs ∧ SqL K H b ys ∧ SqL K H c zs ∧ xs[i]? = some x ∧ ys[i]? = some y ∧ zs[i]? = some z
  yld := fun i H v H' => ∃ T x y z, v = .ref T ∧ H T = none ∧ H' = L2.upd H T (.tup [x, y, z]) ∧ (∀ xs, SqT K H a xs → xs[i]? = some x) ∧ (∀ ys, SqL K H b ys → ys[i]? = some y) ∧ ∀ zs, SqL K H c zs → zs[i]? = some z
  stop := fun i H => ∃ xs ys zs : List V, SqT K H a xs ∧ SqL K H b ys ∧ SqL K H c zs ∧ xs.length ≤ i
def tn3 (z TI TO i1 i2 i3 a b c : Addr) (i : Nat) (h : Heap) : Prop := ∃ x y v, IsZip h z TI TO .none ∧ Is3 h TI (.ref i1) (.ref i2) (.ref i3) ∧ Is3 h TO x y v ∧ h.IsTupleIter i1 a i ∧ h.IsListIter i2 b i ∧ h.IsListIter i3 c i
theorem far3 {I l1 l2 l3 : Nat} (h1 : l1 < I) (h2 : l2 < I) (h3 : l3 < I) : Far3 (I + 5) (I + 3) (I + 4) I (I + 1) (I + 2) l1 l2 l3 := by
  have key : ∀ {L : List Nat} {m : Nat}, (L.all fun c => decide (c ≠ m)) = true → ∀ c ∈ L, c ≠ m := fun h c hc => of_decide_eq_true (List.all_eq_true.mp h c hc)
  constructor <;> (refine key ?_; simp only [List.all_cons, List.all_nil, Bool.and_true, Bool.and_eq_true, decide_eq_true_eq]; omega)
theorem turn_zip3 {P : Program} {w : World} {K : PySem.W.Frag} {elts : List Expr} {kk : Nat} {tpos : Pos} {a b c z TI TO i1 i2 i3 : Addr} (D : Far3 z TI TO i1 i2 i3 a b c) : Turn P w K (.Tuple elts kk tpos) (Itz3 K a b c) [z, TI, TO, i1, i2, i3] z (tn3 z TI TO i1 i2 i3 a b c) where
  mem := List.mem_cons_self
  obj := fun i h ⟨x, y, v, h1, h2, h3, h4, h5, h6⟩ m hm => by
    obtain ⟨o4, f4, e4, d4⟩ := (src_tup P w i1 a).fld h4
    obtain ⟨o5, f5, e5, d5⟩ := (src_lst P w i2 b).fld h5
    obtain ⟨o6, f6, e6, d6⟩ := (src_lst P w i3 c).fld h6
    simp only [List.mem_cons, List.not_mem_nil, or_false] at hm
    rcases hm with rfl | rfl | rfl | rfl | rfl | rfl
    · exact ⟨_, h1, fun v q => nomatch q⟩
    · exact ⟨_, h2, fun v q => nomatch q⟩
    · exact ⟨_, h3, fun v q => nomatch q⟩
    · exact ⟨o4, e4, fun v q => by rw [d4] at q; cases q⟩
    · exact ⟨o5, e5, fun v q => by rw [d5] at q; cases q⟩
    · exact ⟨o6, e6, fun v q => by rw [d6] at q; cases q⟩
  keep := fun i h g ⟨x, y, v, h1, h2, h3, h4, h5, h6⟩ k => ⟨x, y, v, k z (by simp) _ h1, k TI (by simp) _ h2, k TO (by simp) _ h3, (src_tup P w i1 a).mvI h4 fun o => k i1 (by simp) o, (src_lst P w i2 b).mvI h5 fun o => k i2 (by simp) o, (src_lst P w i3 c).mvI h6 fun o => k i3 (by simp) o⟩
  item := by
    rintro X rfl rfl rfl hc i pins s σ H E I hf ⟨x0, y0, v0, h1, h2, h3, h4, h5, h6⟩ ⟨xs, ys, zs, x, y, v, qx, qy, qv, ex, ey, ev⟩
    obtain ⟨its, rx, p, _⟩ := I.tuple qx
    obtain ⟨jts, ry, p', _⟩ := I.list qy
    obtain ⟨kts, rv, p'', _⟩ := I.list qv
    obtain ⟨x1, ex1, rx1⟩ := rx.get ex
    obtain ⟨y1, ey1, ry1⟩ := ry.get ey
    obtain ⟨v1, ev1, rv1⟩ := rv.get ev
    refine z3_next D (src_tup X.prog X.w i1 a) (src_lst X.prog X.w i2 b) (src_lst X.prog X.w i3 c) ⟨h1, h2, h3, h4, h5, h6, (show s.heap.IsTuple a its.toArray from p), p'.isList, p''.isList⟩ (x := x1) (y := y1) (v := v1) (by simpa using ex1) (by simpa using ey1) (by simpa using ev1) fun g q pp sz st => ⟨_, rfl, wpAny_letOwnedTupleGo_zip (s := { s with heap := g }) q.oz fun g2 z2 e2 => ?_⟩
    have q2 := q.onZ D (src_tup X.prog X.w i1 a) (src_lst X.prog X.w i2 b) (src_lst X.prog X.w i3 c) e2.extBut z2
    have nz : s.heap.objs.size ≠ z := Nat.ne_of_gt (Heap.lt_size h1)
    have pp2 : Is3 g2 s.heap.objs.size x1 y1 v1 := e2.extBut _ _ nz pp
    have ok : ObjOk X.prog X.w (L2.upd H s.heap.objs.size (.tup [x, y, v])) g2 s.heap.objs.size (.tup [x, y, v]) := ⟨by show 3 ≤ sizeLine; decide, [x1, y1, v1], .cons rx1 (.cons ry1 (.cons rv1 .nil)), ⟨_, pp2, rfl, _, rfl⟩⟩
    have st2 : Beside [z, TO, i1, i2, i3] s.heap g2 := st.tr (.of (by simp) e2.extBut)
    have I2 : Inv X pins σ (L2.upd H s.heap.objs.size (.tup [x, y, v])) { s with heap := g2 } := I.turnedNew (t' := s.toks) (ch := [z, TI, TO, i1, i2, i3]) (fun m o hb e => st2 m o (fun n => hb (by simp only [List.mem_cons, List.not_mem_nil, or_false] at n ⊢; rcases n with n | n | n | n | n <;> simp [n])) e) hf (Nat.le_refl _) ok
    refine ⟨.ref s.heap.objs.size, _, I2, rfl, ⟨_, x, y, v, rfl, I.hok.fresh (Nat.le_refl _), rfl, fun l hl => by rw [I.tuple_inj hl qx]; exact ex, fun l hl => by rw [I.list_inj hl qy]; exact ey, fun l hl => by rw [I.list_inj hl qv]; exact ev⟩, ⟨x1, y1, v1, q2.oz, q2.ti, q2.tt, q2.j1, q2.j2, q2.j3⟩, fun m hm => ?_⟩
    have lt : m < s.heap.objs.size := by
      obtain ⟨o4, _, e4, _⟩ := (src_tup X.prog X.w i1 a).fld h4
      obtain ⟨o5, _, e5, _⟩ := (src_lst X.prog X.w i2 b).fld h5
      obtain ⟨o6, _, e6, _⟩ := (src_lst X.prog X.w i3 c).fld h6
      have hm := hm
      simp only [List.mem_cons, List.not_mem_nil, or_false] at hm
      rcases hm with rfl | rfl | rfl | rfl | rfl | rfl
      · exact Heap.lt_size h1
      · exact Heap.lt_size h2
      · exact Heap.lt_size h3
      · exact Heap.lt_size e4
      · exact Heap.lt_size e5
      · exact Heap.lt_size e6
    rw [upd_ne (Nat.ne_of_lt lt)]
    exact (hf m hm).1
  done := by
    rintro X rfl rfl rfl hc i pins s σ H E I hf ⟨x0, y0, v0, h1, h2, h3, h4, h5, h6⟩ ⟨xs, ys, zs, qx, qy, qv, he⟩
    obtain ⟨its, rx, p, _⟩ := I.tuple qx
    obtain ⟨jts, ry, p', _⟩ := I.list qy
    obtain ⟨kts, rv, p'', _⟩ := I.list qv
    have l1 := rx.length
    refine z3_stop (I.ok.hd hc) D (src_tup X.prog X.w i1 a) (src_lst X.prog X.w i2 b) (src_lst X.prog X.w i3 c) ⟨h1, h2, h3, h4, h5, h6, (show s.heap.IsTuple a its.toArray from p), p'.isList, p''.isList⟩ (by simp; omega) fun g st => ⟨rfl, I.turnedL (t' := s.toks) (ch := [z, TI, TO, i1, i2, i3]) (fun m o hb e => st m o (fun n => hb (by simp only [List.mem_cons, List.not_mem_nil, or_false] at n ⊢; rcases n with n | n | n | n | n <;> simp [n])) e) hf⟩
  self := fun A i s Q E ⟨_, _, _, h1, _⟩ k => wpAny_pyIter_zip h1 k
def iZip3 (K : PySem.W.Frag) (ta : TA) : TI := fun σ H R => ta σ H fun vs H1 => ∃ a b c xs ys zs, vs = [.ref a, .ref b, .ref c] ∧ SqT K H1 a xs ∧ SqL K H1 b ys ∧ SqL K H1 c zs ∧ R (Itz3 K a b c) H1
theorem pi_zip3 {X : Cx} {e e2 e3 : Expr} {ta : TA} {p pos tpos : Pos} {elts : List Expr} {kk : Nat} (hg : Gl X "zip") (hm : X.mg "zip" = none) (ha : PA X [e, e2, e3] ta) (hs : starEach [e, e2, e3] X.env = (false, eval e X.env) :: starEach [e2, e3] X.env := by rfl) (hpl : (backTo pos (starEach [e2, e3] X.env)).any (·.1) = false := by rfl) :
    PI X (.Tuple elts kk tpos) (.Call (.Name "zip" p) [e, e2, e3] [] pos) (iZip3 X.K ta) := by
  refine ⟨fun pins s σ H R I h => Call_ (ld_blt I hg hm PyProof.Rows.boot_zip (PyProof.Rows.callWith_type1 (thn (ha.run pos pins s σ H _ I h) fun us s1 ⟨vs, H1, I1, r1, a, b, c, xs, ys, zs, ex, qx, qy, qz, q⟩ => ?_) hs hpl))⟩
  subst ex
  obtain _ | ⟨r, r'⟩ := r1
  obtain _ | ⟨r2, r''⟩ := r'
  obtain _ | ⟨r3, r4⟩ := r''
  cases r4
  cases r
  cases r2
  cases r3
  obtain ⟨its, rx, p1, _⟩ := I1.tuple qx
  obtain ⟨jts, ry, p2, _⟩ := I1.list qy
  obtain ⟨kts, rz, p3, _⟩ := I1.list qz
  obtain ⟨o1, ho1, _⟩ := id p1
  have B1 := begins_tuple a its.toArray
  have B2 := begins_list b jts.toArray
  have B3 := begins_list c kts.toArray
  refine zip_begins3 B1 B2 B3 (show s1.heap.IsTuple a its.toArray from p1) p2.isList p3.isList fun g z1 z2 z3 z4 z5 z6 _ k => wpAny_pyIter_zip z1 ?_
  have I2 : Inv X pins σ H1 { s1 with heap := g } := I1.kept (t' := s1.toks) k
  refine ⟨s1.heap.objs.size + 5, [s1.heap.objs.size + 5, s1.heap.objs.size + 3, s1.heap.objs.size + 4, s1.heap.objs.size, s1.heap.objs.size + 1, s1.heap.objs.size + 2], _, _, H1, rfl, I2, turn_zip3 (far3 (Heap.lt_size ho1) p2.lt p3.lt), ⟨_, _, _, z1, z2, z3, ⟨_, z4, rfl, rfl⟩, ⟨_, z5, rfl, rfl⟩, ⟨_, z6, rfl, rfl⟩⟩, fun m hm => ?_, q⟩
  have le : s1.heap.objs.size ≤ m := by
    simp only [List.mem_cons, List.not_mem_nil, or_false] at hm
    rcases hm with rfl | rfl | rfl | rfl | rfl | rfl
    all_goals first
      | exact Nat.le_refl _
      | exact Nat.le_add_right _ _
  exact I1.fpOk le (I1.hok.fresh le)
def Y3 (f1 f2 f3 : Nat → Option V) (i : Nat) (H : Hp) (v : V) (H' : Hp) : Prop := ∃ T x y z, v = .ref T ∧ H T = none ∧ H' = L2.upd H T (.tup [x, y, z]) ∧ f1 i = some x ∧ f2 i = some y ∧ f3 i = some z
theorem walk_zip3 {K : PySem.W.Frag} {a b c : Addr} {xs ys zs : List V} {n : Nat} (hx : xs.length = n) (hy : ys.length = n) (hz : zs.length = n) : Walk (Itz3 K a b c) n (fun H => SqT K H a xs ∧ SqL K H b ys ∧ SqL K H c zs) (Y3 (fun i => xs[i]?) (fun i => ys[i]?) fun i => zs[i]?) where
  goes := fun i _ hi q => ⟨xs, ys, zs, xs[i]'(by omega), ys[i]'(by omega), zs[i]'(by omega), q.1, q.2.1, q.2.2, List.getElem?_eq_getElem _, List.getElem?_eq_getElem _, List.getElem?_eq_getElem _⟩
  stops := fun _ q => ⟨xs, ys, zs, q.1, q.2.1, q.2.2, by omega⟩
  yields := fun i H v H' _ q ⟨T, x, y, z, h1, h2, h3, h4, h5, h6⟩ => ⟨T, x, y, z, h1, h2, h3, h4 xs q.1, h5 ys q.2.1, h6 zs q.2.2⟩
end LK

set_option Elab.async false
set_option linter.all false
set_option maxRecDepth 100000
namespace LK
open PySem PySem.Spec PyProof.Rows L2
/-! ### list(d.keys()), the keys tuples -/
section
variable {X : Cx} {e : Expr} {te : TE} {p apos cpos pos : Pos}
def tListKeys (te : TE) : TE := fun σ H Q => te σ H fun x H1 => ∃ (d : Addr) (kvs : List (List L2.Key × V)), x = .ref d ∧ Rd H1 d (.dT kvs) ∧ ∀ (l : Addr) (bs : List Addr), H1 l = none → IsKeys H1 kvs bs → Q (.ref l) (L2.upd H1 l (.lst (bs.map V.ref)))
theorem pe_listKeys (hc : X.calm = true) (he : PE X e te) (hg : Gl X "list") (hm : X.mg "list" = none) (hv : bootBuiltins "list" = some (.type "list")) (hbase : attributeBase e "keys" X.env (eval e X.env) = eval e X.env := by rfl) (hline : (apos.endLine == cpos.line) = true := by rfl)
    (hs : starEach [.Call (.Attribute e "keys" apos) [] [] cpos] X.env = (false, eval (.Call (.Attribute e "keys" apos) [] [] cpos) X.env) :: starEach [] X.env := by rfl) :
    PE X (.Call (.Name "list" p) [.Call (.Attribute e "keys" apos) [] [] cpos] [] pos) (tListKeys te) := by
  refine ⟨fun pins s σ H Q I hq => ?_⟩
  refine wpAny_Call_Name_kw (ld_blt I hg hm hv (PyProof.Rows.callWith_type1 ?_ hs rfl))
  rw [hs]
  change wpAny _ _ (spliced ((false, eval (.Call (.Attribute e "keys" apos) [] [] cpos) X.env) :: backTo pos (starEach [] X.env))) _ _ s
  refine Calls.spliced_cons (wpAny_Call_method (T := "dict") (id := "dict.keys") hbase rfl hline F.plainAttrs_dict F.slot_dict_keys F.type_dict_keys (thn (he.run pins s σ H _ I hq) fun u s1 ⟨x, H1, I1, rx, d, kvs, ex, hd, q⟩ => ?_))
  subst ex
  obtain rfl : u = Value.ref d := rx
  obtain ⟨z, ns, ks, pr, o, es, ep, ho, hx, hdt, en, hn⟩ := (show ObjOk X.prog X.w H1 s1.heap d (.dT kvs) from hd.ok I1.hok)
  have l1 : es.size = ks.length := size_of_entries en
  have l2 : kvs.length = ks.length := Paired.length pr
  have ty : s1.TypeIs (.ref d) "dict" := ⟨o, ho, hx.1⟩
  have raw : s1.heap.DictRaw d es ep := ⟨o, ho, hx, hdt⟩
  have nd := hx.2.1
  have I2 : Inv X pins σ H1 { s1 with heap := s1.heap.push { cls := .type "dict_keys", data := .fields #[.ref d] } } := I1.kept (t' := s1.toks) fun b ob q => Heap.get?_push_of_some _ q
  refine ⟨ty, (fun a e => by cases e; exact ⟨o, ho, nd⟩), ?_⟩
  change wpAny _ _ (callWith cpos (.builtin "dict.keys") [.ref d] [] []) _ X.xe s1
  refine method_meetsIn F.slot_dict_keys F.entry_dict_keys rfl (PySem.evalArgs_none ⟨rfl, ty, F.args_dict_keys_1 _, _, meets_dict_keys_raw d ns, ⟨⟨es, ep, raw⟩, ?_⟩⟩)
  refine Calls.spliced_nil (PySem.W.kdl_call (KdlSrc.rawKeys (es := es) (ep := ep)) (I1.ok.hd hc) ⟨⟨_, Heap.get?_push_size _ rfl, rfl, rfl⟩, raw.push _⟩ (by omega) fun h' tk acc c kp ha it => ?_)
  have ea : acc.toList = (ks.map fun x => x.2.1).map Value.ref := by
    rw [List.map_map]
    refine List.ext_getElem (by rw [Array.length_toList, it.1, l1, List.length_map]) fun j h1 h2 => ?_
    rw [List.length_map] at h2
    obtain ⟨hj, ev⟩ := it.2 j acc.toList[j] (by rw [← Array.getElem?_toList]; exact List.getElem?_eq_getElem h1)
    have e1 := entry_at en j
    rw [Array.getElem?_eq_getElem hj, List.getElem?_eq_getElem h2] at e1
    have e2 : es[j] = entryOfKey (tupleKind (mixKind X.prog X.w)) ks[j] := Option.some.inj e1
    rw [ev, e2, List.getElem_map]
    rfl
  have hz : ((ks.map fun x => x.2.1).map V.ref).length ≤ sizeLine := by rw [List.length_map, List.length_map]; omega
  have nw := I2.hok.fresh (Nat.le_refl _)
  refine ⟨.ref _, _, I2.laid (t' := tk) (o := .lst ((ks.map fun x => x.2.1).map V.ref)) kp (Nat.le_refl _) ⟨hz, acc.toList, c, by rw [ea]; exact vals_refs _, by rw [Array.toArray_toList]; exact ha⟩, rfl, q _ _ nw (isKeys_of pr)⟩
end
/-! ### methods within comprehensions -/
section
variable {X : Cx} {K : PySem.W.Frag} {o e : Expr} {es : List Expr} {to : TE} {t : TA} {name : Str} {apos cpos : Pos} {T id : String} {r : V → List V → Hp → VK → Prop}
theorem pe_bm0K (hK : X.K = K) (pa : PlainAttrs T) (slot : Slot T name id) (hty : typeOf (.builtin id) = pure (.type "method_descriptor")) (hm : MtR X id r) (ho : PE X o to)
    (h1 : attributeBase o name X.env (eval o X.env) = eval o X.env := by rfl) (h2 : (apos.endLine == cpos.line) = true := by rfl) : PE X (.Call (.Attribute o name apos) [] [] cpos) (tBM0 K T r to) := by
  subst hK
  exact pe_bm0 pa slot hty hm ho h1 h2
theorem pe_bmK (hK : X.K = K) (pa : PlainAttrs T) (slot : Slot T name id) (hty : typeOf (.builtin id) = pure (.type "method_descriptor")) (hm : MtR X id r) (ho : PE X o to) (ha : PA X (e :: es) t)
    (h1 : attributeBase o name X.env (eval o X.env) = eval o X.env := by rfl)
    (h2 : ((backTo cpos (starEach (e :: es) X.env)).all (fun x => !x.1) && (backToKw cpos (keywordEach [] X.env)).all (fun x => x.1.isSome) && decide ((e :: es).length + ([] : List Keyword).length + (if ([] : List Keyword).isEmpty then 0 else 1) < 30)) = true := by rfl)
    (h3 : (apos.endLine == cpos.line) = true := by rfl) (h4 : starEach (e :: es) X.env = (false, eval e X.env) :: starEach es X.env := by rfl) (h5 : (backTo cpos (starEach es X.env)).any (·.1) = false := by rfl) :
    PE X (.Call (.Attribute o name apos) (e :: es) [] cpos) (tBM K T r to t) := by
  subst hK
  exact pe_bm pa slot hty hm ho ha h1 h2 h3 h4 h5
end
/-! ### d == e, d != e: dicts with whole keys, the values data -/
def SameD (K : PySem.W.Frag) (H : Hp) (ks ls : List (L2.Key × V)) : Prop := ks.length = ls.length ∧ ∀ p ∈ ks, ∃ (u : V) (d : PyData), valV ls p.1 = some u ∧ Dp K H p.2 d ∧ Dp K H u d ∧ SeqAt.shaped d = true
def rDD (K : PySem.W.Frag) (b : Bool) : R2 := fun x y H Q => ∃ (a c : Addr) (ks ls : List (L2.Key × V)), x = .ref a ∧ y = .ref c ∧ H a = some (.dK ks) ∧ H c = some (.dK ls) ∧ SameD K H ks ls ∧ Q (.bl b) H
section
variable {X : Cx} {pins : List (Addr × Obj)} {σ : L2.St} {H : Hp} {s : Shared}
theorem hits_data (I : Inv X pins σ H s) {A : Around} (hu : A.in1.units + 64 < cLine) {ls : List (L2.Key × V)} {vb : List (L2.Key × Value)} (rb : KV ls vb) {ks : List (L2.Key × V)} {va : List (L2.Key × Value)}
    (ra : KV ks va) : (∀ p ∈ ks, ∃ (u : V) (d : PyData), valV ls p.1 = some u ∧ Dp X.K H p.2 d ∧ Dp X.K H u d ∧ SeqAt.shaped d = true) → PySem.W.KeqHits A.in1 s vb va true := by
  unfold KV at ra
  induction ra with
  | nil => intro _; exact .nil
  | @cons p q ps qs h t ih =>
    intro hp
    obtain ⟨e1, rv⟩ := h
    obtain ⟨u, d, ev, d1, d2, sd⟩ := hp p List.mem_cons_self
    have ro : RelO (some u) (valueAt vb p.1) := by rw [← ev]; exact rb.val p.1
    obtain ⟨y, hy, ry⟩ := ro.some_of
    obtain ⟨key, v⟩ := q
    obtain rfl : p.1 = key := e1
    obtain ⟨as, r1⟩ := Dp.reads I d p.2 v d1 rv
    obtain ⟨bs, r2⟩ := Dp.reads I d u y d2 ry
    have k := PySem.W.keq_at r1 r2 sd sd hu
    rw [SeqAt.eqv_refl d (SeqAt.canLay_of_shaped sd)] at k
    change PySem.W.KeqHits A.in1 s vb ((p.1, v) :: qs) (true && true)
    exact .hit hy k (ih fun p2 m => hp p2 (List.mem_cons_of_mem _ m))
end
section
variable {X : Cx}
theorem op_eqDD (hu : X.A.units + 65 < cLine) : OpR X (compareOp .Eq) (rDD X.K true) := by
  rintro pins s σ H x y v u Q I rx ry ⟨a, c, ks, ls, rfl, rfl, ha, hc, ⟨len, same⟩, q⟩
  obtain rfl : v = Value.ref a := rx
  obtain rfl : u = Value.ref c := ry
  obtain ⟨_, ya, va, ra, da⟩ := (show ObjOk X.prog X.w H s.heap a (.dK ks) from I.hok a _ ha)
  obtain ⟨_, yc, vc, rc, dc⟩ := (show ObjOk X.prog X.w H s.heap c (.dK ls) from I.hok c _ hc)
  have l2 : va.length = vc.length := by rw [← ra.length, ← rc.length]; exact len
  exact PySem.W.keq_eq (knd := mixKind X.prog X.w) (r := true) ya yc da dc (by omega) (fun _ => hits_data I (by show X.A.units + 1 + 64 < cLine; omega) rc ra same) (fin_bl I q (by simp [l2]))
theorem op_neDD (hu : X.A.units + 65 < cLine) : OpR X (compareOp .NotEq) (rDD X.K false) := by
  rintro pins s σ H x y v u Q I rx ry ⟨a, c, ks, ls, rfl, rfl, ha, hc, ⟨len, same⟩, q⟩
  obtain rfl : v = Value.ref a := rx
  obtain rfl : u = Value.ref c := ry
  obtain ⟨_, ya, va, ra, da⟩ := (show ObjOk X.prog X.w H s.heap a (.dK ks) from I.hok a _ ha)
  obtain ⟨_, yc, vc, rc, dc⟩ := (show ObjOk X.prog X.w H s.heap c (.dK ls) from I.hok c _ hc)
  have l2 : va.length = vc.length := by rw [← ra.length, ← rc.length]; exact len
  exact PySem.W.keq_ne (knd := mixKind X.prog X.w) (r := true) ya yc da dc (by omega) (fun _ => hits_data I (by show X.A.units + 1 + 64 < cLine; omega) rc ra same) (fin_bl I q (by simp [l2]))
end
end LK

set_option Elab.async false
set_option linter.all false
set_option maxRecDepth 100000
namespace LK
open PySem PySem.Spec PyProof.Rows L2
def top (i : Nat) : Stmt := PySem.Challenge.pw_lookingnets_k26_expression_units_bear.main.body.getD i (.Pass ⟨0, 0, 0, 0⟩)
local macro_rules | `(tactic| walk_at "rs") => `(tactic| simp only [cxK, cxNK, tCallZ, tAsg, tOp, rI0, rS0, rB0, rI, rU, tUn, rEq, rNe, rIxL, rIxT, rIxS, rSetL, rSlLU, rSlS, rSlU, rCatL, rCatU, rRepL, rIn, tVar, tC, gName, gSub, tIfS, tTest, tB, tAnd, tOr, tNot, tNotV, tAndV, tOrV, tIf, tCall, tCons, tNil, tCB, tDrop, tRet, tRetN, tNext, tLstU, tTupU, tM0, tM1, tPar, tPar3, tAug, ipI, tBM, tBM0, rAppend, rPop, tBreak, sDPut, tDGet, tDGet2, tCont, tChain, tSl, tPart, tNoPart, L2.start, List.map, List.length_cons, List.length_nil, List.replicate, List.cons_append, List.nil_append, List.append_nil, List.getElem?_cons_zero, List.getElem?_cons_succ, List.set_cons_zero, List.set_cons_succ, Option.some.injEq, V.int.injEq, V.ref.injEq, V.str.injEq, V.bl.injEq, exists_eq_left', exists_eq_left, exists_and_left, decide_eq_true_eq, List.cons.injEq, and_true, true_and, scal, Bool.not_eq_true', decide_eq_false_iff_not, Nat.zero_add, Nat.reduceAdd, Nat.reduceSub, reduceCtorEq, false_and, exists_false, false_or, or_false, CPow, CPowW, CMul, CDiv, Int.reduceToNat, ↓reduceIte, wipe, sw, rv3, tListKeys, tDIn, tDNotIn, List.nil_append, List.singleton_append])
local macro_rules | `(tactic| walk_at "st") => `(tactic| (refine seq_op fun N hN => ?_; walk_at "rs"))
local macro_rules | `(tactic| walk_at "sd") => `(tactic| first | assumption | decide | omega)
local macro_rules | `(tactic| walk_at "rd") => `(tactic| repeat (first
  | refine ⟨_, SqL.of (by assumption), ?_⟩ | refine ⟨_, SqL.of upd_same, ?_⟩ | refine ⟨_, .inl (SqL.of (by assumption)), ?_⟩ | refine ⟨_, (by assumption : _ = some (HO.lst _)), ?_⟩ | refine ⟨_, upd_same, ?_⟩
  | refine ⟨_, rfl, ?_⟩ | refine And.intro (by walk_at "sd") ?_))

abbrev s_BadValue : Stmt := inClass (top 3) 0
abbrev N_BadValue : List Str := ["self", "value"]
theorem sc_BadValue : FnScope N_BadValue ["self", "value"] (defScope s_BadValue) := ⟨rfl, rfl, rfl, by decide +kernel, rfl, by decide +kernel, by decide +kernel⟩
abbrev s_is_number : Stmt := top 7
abbrev N_is_number : List Str := ["value"]
theorem sc_is_number : FnScope N_is_number ["value"] (defScope s_is_number) := ⟨rfl, rfl, rfl, by decide +kernel, rfl, by decide +kernel, by decide +kernel⟩

abbrev s_fraction : Stmt := top 8
abbrev N_fraction : List Str := ["p", "q", "divisor"]
theorem sc_fraction : FnScope N_fraction ["p", "q"] (defScope s_fraction) := ⟨rfl, rfl, rfl, by decide +kernel, rfl, by decide +kernel, by decide +kernel⟩

abbrev s_plus : Stmt := top 9
abbrev N_plus : List Str := ["a", "b"]
theorem sc_plus : FnScope N_plus ["a", "b"] (defScope s_plus) := ⟨rfl, rfl, rfl, by decide +kernel, rfl, by decide +kernel, by decide +kernel⟩

abbrev s_normal_entries : Stmt := top 11
abbrev N_normal_entries : List Str := ["entries", "sums", "column", "factor"]
theorem sc_normal_entries : FnScope N_normal_entries ["entries"] (defScope s_normal_entries) := ⟨rfl, rfl, rfl, by decide +kernel, rfl, by decide +kernel, by decide +kernel⟩

abbrev s_normal_triples : Stmt := top 12
abbrev N_normal_triples : List Str := ["triples", "sums", "left", "right", "factor", "pair"]
theorem sc_normal_triples : FnScope N_normal_triples ["triples"] (defScope s_normal_triples) := ⟨rfl, rfl, rfl, by decide +kernel, rfl, by decide +kernel, by decide +kernel⟩

abbrev s_normal_part : Stmt := top 13
abbrev N_normal_part : List Str := ["kind", "part"]
theorem sc_normal_part : FnScope N_normal_part ["kind", "part"] (defScope s_normal_part) := ⟨rfl, rfl, rfl, by decide +kernel, rfl, by decide +kernel, by decide +kernel⟩

abbrev s_unit_of : Stmt := top 15
abbrev N_unit_of : List Str := ["columns", "rest", "steep", "shift", "givings", "terms", "column"]
theorem sc_unit_of : FnScope N_unit_of ["columns", "rest", "steep", "shift", "givings"] (defScope s_unit_of) := ⟨rfl, rfl, rfl, by decide +kernel, rfl, by decide +kernel, by decide +kernel⟩

abbrev s_expression_units : Stmt := top 16
abbrev N_expression_units : List Str := ["rows", "targets", "rest", "units", "columns", "target"]
theorem sc_expression_units : FnScope N_expression_units ["rows", "targets", "rest"] (defScope s_expression_units) := ⟨rfl, rfl, rfl, by decide +kernel, rfl, by decide +kernel, by decide +kernel⟩

abbrev s__law_bag : Stmt := top 18
abbrev N__law_bag : List Str := ["script", "mixed", "cell"]
theorem sc__law_bag : FnScope N__law_bag ["script"] (defScope s__law_bag) := ⟨rfl, rfl, rfl, by decide +kernel, rfl, by decide +kernel, by decide +kernel⟩

abbrev s__law_draw : Stmt := top 19
abbrev N__law_draw : List Str := ["bag", "size", "cell", "digit"]
theorem sc__law_draw : FnScope N__law_draw ["bag", "size"] (defScope s__law_draw) := ⟨rfl, rfl, rfl, by decide +kernel, rfl, by decide +kernel, by decide +kernel⟩

abbrev s__law_of : Stmt := top 20
abbrev N__law_of : List Str := ["bag", "things"]
theorem sc__law_of : FnScope N__law_of ["bag", "things"] (defScope s__law_of) := ⟨rfl, rfl, rfl, by decide +kernel, rfl, by decide +kernel, by decide +kernel⟩

abbrev s__law_like : Stmt := top 21
abbrev N__law_like : List Str := ["got", "due", "one", "two"]
theorem sc__law_like : FnScope N__law_like ["got", "due"] (defScope s__law_like) := ⟨rfl, rfl, rfl, by decide +kernel, rfl, by decide +kernel, by decide +kernel⟩

abbrev s__law_low : Stmt := top 22
abbrev N__law_low : List Str := ["top", "low", "one", "two"]
theorem sc__law_low : FnScope N__law_low ["top", "low"] (defScope s__law_low) := ⟨rfl, rfl, rfl, by decide +kernel, rfl, by decide +kernel, by decide +kernel⟩

abbrev s__law_plus : Stmt := top 23
abbrev N__law_plus : List Str := ["one", "two"]
theorem sc__law_plus : FnScope N__law_plus ["one", "two"] (defScope s__law_plus) := ⟨rfl, rfl, rfl, by decide +kernel, rfl, by decide +kernel, by decide +kernel⟩

abbrev s__law_times : Stmt := top 24
abbrev N__law_times : List Str := ["one", "two"]
theorem sc__law_times : FnScope N__law_times ["one", "two"] (defScope s__law_times) := ⟨rfl, rfl, rfl, by decide +kernel, rfl, by decide +kernel, by decide +kernel⟩

abbrev s__law_normal : Stmt := top 25
abbrev N__law_normal : List Str := ["things", "sums", "one", "key"]
theorem sc__law_normal : FnScope N__law_normal ["things"] (defScope s__law_normal) := ⟨rfl, rfl, rfl, by decide +kernel, rfl, by decide +kernel, by decide +kernel⟩

abbrev s__law_gifts : Stmt := top 26
abbrev N__law_gifts : List Str := ["units", "content", "given", "unit", "height", "term", "giving", "key"]
theorem sc__law_gifts : FnScope N__law_gifts ["units", "content"] (defScope s__law_gifts) := ⟨rfl, rfl, rfl, by decide +kernel, rfl, by decide +kernel, by decide +kernel⟩

abbrev s__law_every : Stmt := top 27
abbrev N__law_every : List Str := ["some", "grown", "span", "longer", "row", "one"]
theorem sc__law_every : FnScope N__law_every ["some"] (defScope s__law_every) := ⟨rfl, rfl, rfl, by decide +kernel, rfl, by decide +kernel, by decide +kernel⟩

abbrev s__law_any_columns : Stmt := top 28
abbrev N__law_any_columns : List Str := ["bag", "many", "base", "pool", "k"]
theorem sc__law_any_columns : FnScope N__law_any_columns ["bag", "many"] (defScope s__law_any_columns) := ⟨rfl, rfl, rfl, by decide +kernel, rfl, by decide +kernel, by decide +kernel⟩

abbrev s__law_ones : Stmt := top 29
abbrev N__law_ones : List Str := ["some", "one"]
theorem sc__law_ones : FnScope N__law_ones ["some"] (defScope s__law_ones) := ⟨rfl, rfl, rfl, by decide +kernel, rfl, by decide +kernel, by decide +kernel⟩

abbrev s__law_right : Stmt := top 30
abbrev N__law_right : List Str := ["bag", "sizes", "goals", "groups", "size", "last", "other", "every", "kept", "way", "one", "aims", "first", "second", "got", "unit", "aim", "terms", "full", "due", "lacking", "k", "at"]
theorem sc__law_right : FnScope N__law_right ["bag"] (defScope s__law_right) := ⟨rfl, rfl, rfl, by decide +kernel, rfl, by decide +kernel, by decide +kernel⟩

abbrev s__law_unlike_rows : Stmt := top 31
abbrev N__law_unlike_rows : List Str := ["bag", "base", "handed", "order", "goals", "due", "one", "goal", "k", "spot"]
theorem sc__law_unlike_rows : FnScope N__law_unlike_rows ["bag"] (defScope s__law_unlike_rows) := ⟨rfl, rfl, rfl, by decide +kernel, rfl, by decide +kernel, by decide +kernel⟩

abbrev s_law : Stmt := top 32
abbrev N_law : List Str := ["script", "bag", "turn"]
theorem sc_law : FnScope N_law ["script"] (defScope s_law) := ⟨rfl, rfl, rfl, by decide +kernel, rfl, by decide +kernel, by decide +kernel⟩

mutual
def okD : PyData → Bool
  | .none => true | .bool _ => true | .int _ => true
  | .str z => decide (z.length ≤ 100000)
  | .list ds => decide (ds.length ≤ 100000) && okAll ds
  | .tuple ds => decide (ds.length ≤ 100000) && okAll ds
  | .dict _ => false
def okAll : List PyData → Bool
  | [] => true
  | d :: ds => okD d && okAll ds
end
theorem okD_tup {ds : List PyData} : okD (.tuple ds) = true ↔ ds.length ≤ 100000 ∧ okAll ds = true := by
  show (decide (ds.length ≤ 100000) && okAll ds) = true ↔ _
  rw [Bool.and_eq_true, decide_eq_true_iff]
theorem okD_lst {ds : List PyData} : okD (.list ds) = true ↔ ds.length ≤ 100000 ∧ okAll ds = true := by
  show (decide (ds.length ≤ 100000) && okAll ds) = true ↔ _
  rw [Bool.and_eq_true, decide_eq_true_iff]
mutual
def dep : PyData → Nat
  | .none => 0 | .bool _ => 0 | .int _ => 0 | .str _ => 0
  | .list ds => depAll ds + 1
  | .tuple ds => depAll ds + 1
  | .dict _ => 0
def depAll : List PyData → Nat
  | [] => 0
  | d :: ds => max (dep d) (depAll ds)
end
def spP (K : PySem.W.Frag) (F : PyData → V) : Sp := fun vs H Q _ => ∃ v d, vs = [v] ∧ Dp K H v d ∧ okD d = true ∧ ∀ H', Same H H' → Q (F d) H'
def SeqV (K : PySem.W.Frag) (G : Hp) (x : V) (ys : List V) : Prop := (∃ p, x = .ref p ∧ SqL K G p ys) ∨ (∃ p, x = .ref p ∧ SqT K G p ys) ∨ ∃ z, x = .str z ∧ z.length ≤ 100000 ∧ ys = z.cps.toList.map fun c => V.str ⟨#[c]⟩
def sp__law_bag (K : PySem.W.Frag) : Sp := fun vs H Q _ => ∃ (a : Addr) (ns : List Int), vs = [.ref a] ∧ SqL K H a (ns.map V.int) ∧ ns.length ≤ 63 ∧ ∀ b c H', Same H H' → Bag 0 H' b c → H b = none → Q (.ref b) H'
def sp__law_draw : Sp := fun vs H Q _ => ∃ (b c : Addr) (n : Int) (N : Nat), vs = [.ref b, .int n] ∧ Bag (N + 1) H b c ∧ 0 < n ∧ n < 1073741824 ∧ ∀ (r : Int) H', 0 ≤ r → r < n → Bag N H' b c → Kp b H H' → Q (.int r) H'
def sp__law_of (K : PySem.W.Frag) : Sp := fun vs H Q _ => ∃ (b c : Addr) (x : V) (ys : List V) (N : Nat), vs = [.ref b, x] ∧ Bag (N + 1) H b c ∧ SeqV K H x ys ∧ SeqV K (hb H b) x ys ∧ ys ≠ [] ∧ ys.length ≤ 1000000 ∧ ∀ y H', y ∈ ys → Bag N H' b c → Kp b H H' → Q y H'
def sp__law_like (K : PySem.W.Frag) (n : Nat) : Sp := fun vs H Q _ => ∃ v u d, vs = [v, u] ∧ Dp K H v d ∧ Dp K H u d ∧ okD d = true ∧ dep d ≤ n ∧ ∀ H', Same H H' → Q (.bl true) H'
def rv3 {α : Type} : List α → List α
  | [x, y, z] => [z, y, x]
  | l => l
theorem rv3_rel : ∀ {zs : List V} {ws : List Value}, Vals zs ws → Vals (rv3 zs) (rv3 ws)
  | _, _, .nil => .nil
  | _, _, .cons a .nil => .cons a .nil
  | _, _, .cons a (.cons b .nil) => .cons a (.cons b .nil)
  | _, _, .cons a (.cons b (.cons c .nil)) => .cons c (.cons b (.cons a .nil))
  | _, _, .cons a (.cons b (.cons c (.cons d r))) => .cons a (.cons b (.cons c (.cons d r)))
def sw {α : Type} : List α → List α
  | [x, y] => [y, x]
  | l => l
theorem sw_rel : ∀ {zs : List V} {ws : List Value}, Vals zs ws → Vals (sw zs) (sw ws)
  | _, _, .nil => .nil
  | _, _, .cons a .nil => .cons a .nil
  | _, _, .cons a (.cons b .nil) => .cons b (.cons a .nil)
  | _, _, .cons a (.cons b (.cons c r)) => .cons a (.cons b (.cons c r))
/-! ### wide whole numbers -/
def CDivF (_ j : Int) : Prop := j ≠ 0 ∧ j.natAbs.log2 < 9000
theorem op_fdivF {X : Cx} : OpR X (binaryOp .FloorDiv) (rI CDivF fun i j => .int (i.fdiv j)) := opI fun _ _ _ _ _ _ _ hc q => floordiv_int hc.1 q (.inl (PyProof.noPylong_of_log2 hc.2))
/-- powers of wide numbers -/
def CPowW (i j : Int) : Prop := 0 ≤ j ∧ j ≤ 100 ∧ i.natAbs < 2 ^ 100
theorem op_powW {X : Cx} : OpR X (binaryOp .Pow) (rI CPowW fun i j => .int (i ^ j.toNat)) := opI fun i j _ _ _ _ _ hc q => by
  obtain ⟨h0, h1, h2⟩ := hc
  refine pow_int h0 ?_ q
  have hb : Builtin.Int.intBits i ≤ 100 := by
    unfold Builtin.Int.intBits
    split
    · exact Nat.zero_le _
    · have := PySem.Flt.log2_lt_of (n := i.natAbs) (by decide : 0 < 100) h2
      omega
  have : (Builtin.Int.intBits i : Int) * j ≤ 100 * 100 := Int.mul_le_mul (by omega) h1 h0 (by decide)
  exact Int.le_trans this (by decide)
theorem op_fdivU {X : Cx} : OpR X (binaryOp .FloorDiv) (rI CDivW fun i j => .int (i / j)) := op_fdivW
structure Txt (w : World) (K : PySem.W.Frag) (mg : Str → Option Value) where
  n_len : mg "len" = none
  n_int : mg "int" = none
  n_list : mg "list" = none
  n_tuple : mg "tuple" = none
  n_bool : mg "bool" = none
  n_str : mg "str" = none
  n_dict : mg "dict" = none
  n_isinstance : mg "isinstance" = none
  n_all : mg "all" = none
  n_range : mg "range" = none
  n_zip : mg "zip" = none
  n_abs : mg "abs" = none
  n_sorted : mg "sorted" = none
  n_sum : mg "sum" = none
  m_gcd : mg "gcd" = some (.builtin "math.gcd")
  a_ZERO : Addr
  m_ZERO : mg "ZERO" = some (.ref a_ZERO)
  s_ZERO : ∀ H, SqT K H a_ZERO [.int 0, .int 1]
  a_ONE : Addr
  m_ONE : mg "ONE" = some (.ref a_ONE)
  s_ONE : ∀ H, SqT K H a_ONE [.int 1, .int 1]
  C_BadValue : Addr
  f_BadValue : Addr
  d_BadValue : FuncData
  m_BadValue : mg "BadValue" = some (.ref C_BadValue)
  X_BadValue : OexC K C_BadValue
  i_BadValue : PySem.W.findIn K (.ref C_BadValue) "__init__" = some (some (.ref f_BadValue))
  t_BadValue : PySem.W.typeIn K (.ref f_BadValue) = some (.type "function")
  F_BadValue : Fun K "__init__" "BadValue.__init__" s_BadValue f_BadValue d_BadValue
  B_BadValue__init : Binds K d_BadValue ["self", "value"] []
  v_BadValue : PySem.W.findIn K (.ref C_BadValue) "value" = some none
  c_BadValue : PySem.W.findIn K (.ref C_BadValue) "code" = some none
  a_is_number : Addr
  d_is_number : FuncData
  F_is_number : Fun K "is_number" "is_number" s_is_number a_is_number d_is_number
  m_is_number : mg "is_number" = some (.ref a_is_number)
  B_is_number : Binds K d_is_number ["value"] []
  a_fraction : Addr
  d_fraction : FuncData
  F_fraction : FunD K "fraction" "fraction" (defArgs s_fraction) (defBody s_fraction) (defScope s_fraction) [.int 1] [] a_fraction d_fraction
  m_fraction : mg "fraction" = some (.ref a_fraction)
  B_fraction : Binds K d_fraction ["p", "q"] []
  a_plus : Addr
  d_plus : FuncData
  F_plus : Fun K "plus" "plus" s_plus a_plus d_plus
  m_plus : mg "plus" = some (.ref a_plus)
  B_plus : Binds K d_plus ["a", "b"] []
  a_normal_entries : Addr
  d_normal_entries : FuncData
  F_normal_entries : Fun K "normal_entries" "normal_entries" s_normal_entries a_normal_entries d_normal_entries
  m_normal_entries : mg "normal_entries" = some (.ref a_normal_entries)
  B_normal_entries : Binds K d_normal_entries ["entries"] []
  a_normal_triples : Addr
  d_normal_triples : FuncData
  F_normal_triples : Fun K "normal_triples" "normal_triples" s_normal_triples a_normal_triples d_normal_triples
  m_normal_triples : mg "normal_triples" = some (.ref a_normal_triples)
  B_normal_triples : Binds K d_normal_triples ["triples"] []
  a_normal_part : Addr
  d_normal_part : FuncData
  F_normal_part : Fun K "normal_part" "normal_part" s_normal_part a_normal_part d_normal_part
  m_normal_part : mg "normal_part" = some (.ref a_normal_part)
  B_normal_part : Binds K d_normal_part ["kind", "part"] []
  a_unit_of : Addr
  d_unit_of : FuncData
  F_unit_of : Fun K "unit_of" "unit_of" s_unit_of a_unit_of d_unit_of
  m_unit_of : mg "unit_of" = some (.ref a_unit_of)
  B_unit_of : Binds K d_unit_of ["columns", "rest", "steep", "shift", "givings"] []
  a_expression_units : Addr
  d_expression_units : FuncData
  F_expression_units : Fun K "expression_units" "expression_units" s_expression_units a_expression_units d_expression_units
  m_expression_units : mg "expression_units" = some (.ref a_expression_units)
  B_expression_units : Binds K d_expression_units ["rows", "targets", "rest"] []
  a__law_bag : Addr
  d__law_bag : FuncData
  F__law_bag : Fun K "_law_bag" "_law_bag" s__law_bag a__law_bag d__law_bag
  m__law_bag : mg "_law_bag" = some (.ref a__law_bag)
  B__law_bag : Binds K d__law_bag ["script"] []
  a__law_draw : Addr
  d__law_draw : FuncData
  F__law_draw : Fun K "_law_draw" "_law_draw" s__law_draw a__law_draw d__law_draw
  m__law_draw : mg "_law_draw" = some (.ref a__law_draw)
  B__law_draw : Binds K d__law_draw ["bag", "size"] []
  a__law_of : Addr
  d__law_of : FuncData
  F__law_of : Fun K "_law_of" "_law_of" s__law_of a__law_of d__law_of
  m__law_of : mg "_law_of" = some (.ref a__law_of)
  B__law_of : Binds K d__law_of ["bag", "things"] []
  a__law_like : Addr
  d__law_like : FuncData
  F__law_like : Fun K "_law_like" "_law_like" s__law_like a__law_like d__law_like
  m__law_like : mg "_law_like" = some (.ref a__law_like)
  B__law_like : Binds K d__law_like ["got", "due"] []
  a__law_low : Addr
  d__law_low : FuncData
  F__law_low : Fun K "_law_low" "_law_low" s__law_low a__law_low d__law_low
  m__law_low : mg "_law_low" = some (.ref a__law_low)
  B__law_low : Binds K d__law_low ["top", "low"] []
  a__law_plus : Addr
  d__law_plus : FuncData
  F__law_plus : Fun K "_law_plus" "_law_plus" s__law_plus a__law_plus d__law_plus
  m__law_plus : mg "_law_plus" = some (.ref a__law_plus)
  B__law_plus : Binds K d__law_plus ["one", "two"] []
  a__law_times : Addr
  d__law_times : FuncData
  F__law_times : Fun K "_law_times" "_law_times" s__law_times a__law_times d__law_times
  m__law_times : mg "_law_times" = some (.ref a__law_times)
  B__law_times : Binds K d__law_times ["one", "two"] []
  a__law_normal : Addr
  d__law_normal : FuncData
  F__law_normal : Fun K "_law_normal" "_law_normal" s__law_normal a__law_normal d__law_normal
  m__law_normal : mg "_law_normal" = some (.ref a__law_normal)
  B__law_normal : Binds K d__law_normal ["things"] []
  a__law_gifts : Addr
  d__law_gifts : FuncData
  F__law_gifts : Fun K "_law_gifts" "_law_gifts" s__law_gifts a__law_gifts d__law_gifts
  m__law_gifts : mg "_law_gifts" = some (.ref a__law_gifts)
  B__law_gifts : Binds K d__law_gifts ["units", "content"] []
  a__law_every : Addr
  d__law_every : FuncData
  F__law_every : Fun K "_law_every" "_law_every" s__law_every a__law_every d__law_every
  m__law_every : mg "_law_every" = some (.ref a__law_every)
  B__law_every : Binds K d__law_every ["some"] []
  a__law_any_columns : Addr
  d__law_any_columns : FuncData
  F__law_any_columns : Fun K "_law_any_columns" "_law_any_columns" s__law_any_columns a__law_any_columns d__law_any_columns
  m__law_any_columns : mg "_law_any_columns" = some (.ref a__law_any_columns)
  B__law_any_columns : Binds K d__law_any_columns ["bag", "many"] []
  a__law_ones : Addr
  d__law_ones : FuncData
  F__law_ones : Fun K "_law_ones" "_law_ones" s__law_ones a__law_ones d__law_ones
  m__law_ones : mg "_law_ones" = some (.ref a__law_ones)
  B__law_ones : Binds K d__law_ones ["some"] []
  a__law_right : Addr
  d__law_right : FuncData
  F__law_right : Fun K "_law_right" "_law_right" s__law_right a__law_right d__law_right
  m__law_right : mg "_law_right" = some (.ref a__law_right)
  B__law_right : Binds K d__law_right ["bag"] []
  a__law_unlike_rows : Addr
  d__law_unlike_rows : FuncData
  F__law_unlike_rows : Fun K "_law_unlike_rows" "_law_unlike_rows" s__law_unlike_rows a__law_unlike_rows d__law_unlike_rows
  m__law_unlike_rows : mg "_law_unlike_rows" = some (.ref a__law_unlike_rows)
  B__law_unlike_rows : Binds K d__law_unlike_rows ["bag"] []
  a_law : Addr
  d_law : FuncData
  F_law : Fun K "law" "law" s_law a_law d_law
  m_law : mg "law" = some (.ref a_law)
  B_law : Binds K d_law ["script"] []
  D_fraction : ∃ ds, Vals [.int 1] ds ∧ Binds K d_fraction ["p", "q"] ds
  Z_expression_units : KBn K d_expression_units ["rows", "targets", "rest"] 0 ["rest", "targets", "rows"] (fun _ ws => rv3 ws) (fun _ zs => rv3 zs)

end LK

set_option Elab.async false
set_option linter.all false
set_option maxRecDepth 100000
namespace LK
open PySem PySem.Spec PyProof.Rows L2
local macro_rules | `(tactic| walk_at "rs") => `(tactic| simp only [cxK, cxNK, tCallZ, tAsg, tOp, rI0, rS0, rB0, rI, rU, tUn, rEq, rNe, rIxL, rIxT, rIxS, rSetL, rSlLU, rSlS, rSlU, rCatL, rCatU, rRepL, rIn, tVar, tC, gName, gSub, tIfS, tTest, tB, tAnd, tOr, tNot, tNotV, tAndV, tOrV, tIf, tCall, tCons, tNil, tCB, tDrop, tRet, tRetN, tNext, tLstU, tTupU, tM0, tM1, tPar, tPar3, tAug, ipI, tBM, tBM0, rAppend, rPop, tBreak, sDPut, tDGet, tDGet2, tCont, tChain, tSl, tPart, tNoPart, L2.start, List.map, List.length_cons, List.length_nil, List.replicate, List.cons_append, List.nil_append, List.append_nil, List.getElem?_cons_zero, List.getElem?_cons_succ, List.set_cons_zero, List.set_cons_succ, Option.some.injEq, V.int.injEq, V.ref.injEq, V.str.injEq, V.bl.injEq, exists_eq_left', exists_eq_left, exists_and_left, decide_eq_true_eq, List.cons.injEq, and_true, true_and, scal, Bool.not_eq_true', decide_eq_false_iff_not, Nat.zero_add, Nat.reduceAdd, Nat.reduceSub, reduceCtorEq, false_and, exists_false, false_or, or_false, CPow, CPowW, CMul, CDiv, Int.reduceToNat, ↓reduceIte, wipe, sw, rv3, tListKeys, tDIn, tDNotIn, List.nil_append, List.singleton_append])
local macro_rules | `(tactic| walk_at "st") => `(tactic| (refine seq_op fun N hN => ?_; walk_at "rs"))
local macro_rules | `(tactic| walk_at "sd") => `(tactic| first | assumption | decide | omega)
local macro_rules | `(tactic| walk_at "rd") => `(tactic| repeat (first
  | refine ⟨_, SqL.of (by assumption), ?_⟩ | refine ⟨_, SqL.of upd_same, ?_⟩ | refine ⟨_, .inl (SqL.of (by assumption)), ?_⟩ | refine ⟨_, (by assumption : _ = some (HO.lst _)), ?_⟩ | refine ⟨_, upd_same, ?_⟩
  | refine ⟨_, rfl, ?_⟩ | refine And.intro (by walk_at "sd") ?_))

def spV (sp : List V → Hp → VK → Prop) : Sp := fun vs H Q _ => sp vs H Q
/-- the two fields of a BadValue -/
def badF (v : V) : List (Str × V) := [("code", .str "BadValue"), ("value", v)]
def sp_BadValue (C : Addr) : Sp := fun vs H Q _ => ∃ (a : Addr) (v : V), vs = [.ref a, v] ∧ H a = some (exo a C none) ∧
  ∀ dx, H dx = none → dx ≠ a → Q .non (L2.upd (L2.upd (L2.upd H dx (exd dx [("value", v)])) a (exo a C (some dx))) dx (exd dx (badF v)))
def isNum : PyData → Bool
  | .int _ => true
  | _ => false
def spP1 (K : PySem.W.Frag) (F : PyData → V) : Sp := fun vs H Q _ => ∃ v d, vs = [v] ∧ Dp K H v d ∧ ∀ H', Same H H' → Q (F d) H'
section
variable {P : Program} {w : World} {K : PySem.W.Frag} {mg : Str → Option Value} {base : Heap}
theorem ok_BadValue (T : Txt w K mg) : FnOk P w K mg base CX0 1 T.f_BadValue T.d_BadValue ["self", "value"] (sp_BadValue T.C_BadValue) := by
  refine T.F_BadValue.ok sc_BadValue (fun vs H Q E h => ?_) (fun cdv A outer s H vs Q E hr h => ?_)
  · obtain ⟨a, v, rfl, _⟩ := h
    rfl
  · obtain ⟨a, v, rfl, ha, k⟩ := h
    refine ⟨_, pss_cons (ps_ost (pv 0) (pv 1)) (pss_one (ps_ost (pv 0) pe_str)), ?_⟩
    refine seq_op fun N hN => ?_
    unfold tOst
    walk_at "rs"
    refine ⟨T.C_BadValue, T.X_BadValue, T.v_BadValue, .inl ⟨ha, fun dx hdx ne => hN _ _ ?_⟩⟩
    clear hN N
    unfold tOst
    walk_at "rs"
    refine ⟨T.C_BadValue, T.X_BadValue, T.c_BadValue, .inr ⟨dx, upd_same, [("value", v)], by rw [upd_ne ne]; exact upd_same, by simp, k dx hdx ne⟩⟩
theorem ok_is_number (T : Txt w K mg) : FnOk P w K mg base CX0 1 T.a_is_number T.d_is_number ["value"] (spP1 K fun d => .bl (isNum d)) := by
  refine T.F_is_number.ok sc_is_number (fun vs H Q E h => ?_) (fun cdv A outer s H vs Q E hr h => ?_)
  · obtain ⟨v, d, rfl, _⟩ := h
    rfl
  · obtain ⟨v, d, rfl, hD, k⟩ := h
    refine ⟨_, (pss_one (ps_ret (pe_and (pe_callB (call_isiDK (K := K) rfl) (by rfl) T.n_isinstance (by decide +kernel) (pa_cons (pv 0) (pa_cons (pe_bltn (v := .ty "int") (u := .type "int") (by rfl) T.n_int (by decide +kernel) rfl) pa_nil))) (pe_one (pe_not (pe_callB (call_isiDK (K := K) rfl) (by rfl) T.n_isinstance (by decide +kernel) (pa_cons (pv 0) (pa_cons (pe_bltn (v := .ty "bool") (u := .type "bool") (by rfl) T.n_bool (by decide +kernel) rfl) pa_nil)))))))), ?_⟩
    walk_at "rs"
    refine ⟨v, "int", ⟨rfl, rfl⟩, d, hD, by decide, ite2 (fun h => ⟨v, "bool", ⟨rfl, rfl⟩, d, hD, by decide, ?_⟩) (fun h => ?_)⟩
    · have e : isNum d = !isTy "bool" d := by cases d <;> first | rfl | cases h
      rw [← e]; exact k H (Same.refl _)
    · have e : isNum d = false := by cases d <;> first | rfl | (exact absurd rfl h)
      have q : Q (.bl (isNum d)) H := k H (Same.refl _)
      rw [e] at q; exact q
/-! ### lowest terms -/
def frG (p q : Int) : Int := if q < 0 then -((Nat.gcd p.natAbs q.natAbs : Nat) : Int) else ((Nat.gcd p.natAbs q.natAbs : Nat) : Int)
def frP (p q : Int) : Int := p.fdiv (frG p q)
def frQ (p q : Int) : Int := q.fdiv (frG p q)
def sp_fraction (C : Addr) : Sp := fun vs H Q E => ∃ p q : Int, vs = [.int p, .int q] ∧ p.natAbs.log2 < 9000 ∧ q.natAbs.log2 < 9000 ∧
  (q ≠ 0 → ∀ t H', Same H H' → H t = none → H' t = some (.tup [.int (frP p q), .int (frQ p q)]) → Q (.ref t) H') ∧
  (q = 0 → ∀ d H', Same H H' → H d = none → H' d = some (.xd (badF (.int q))) → E (.ref C) (some d) H')
theorem gcd_log {p q : Int} (h : q ≠ 0) : (Nat.gcd p.natAbs q.natAbs).log2 ≤ q.natAbs.log2 := by
  have h0 : q.natAbs ≠ 0 := by omega
  have le : Nat.gcd p.natAbs q.natAbs ≤ q.natAbs := Nat.le_of_dvd (by omega) (Nat.gcd_dvd_right _ _)
  have g0 : Nat.gcd p.natAbs q.natAbs ≠ 0 := fun e => h0 (Nat.eq_zero_of_gcd_eq_zero_right e)
  exact (Nat.le_log2 h0).mpr (Nat.le_trans (Nat.log2_self_le g0) le)
theorem mk_bad {C : Addr} {H1 : Hp} {v : V} {Qx : XK} (k : ∀ d H', Same H1 H' → H1 d = none → H' d = some (.xd (badF v)) → Qx (.ref C) (some d) H') : ∀ a, H1 a = none → sp_BadValue C (.ref a :: ([v] ++ [])) (L2.upd H1 a (exo a C none)) (fun v2 H2 => v2 = .non ∧ ∃ (d : Addr) (fs : List (Str × V)), H2 a = some (exo a C (some d)) ∧ H2 d = some (exd d fs) ∧ H1 d = none ∧ Qx (.ref C) (some d) (L2.upd (del H2 a) d (.xd fs))) E0 := by
  intro a ha
  refine ⟨a, v, rfl, upd_same, fun dx hdx ne => ⟨rfl, dx, badF v, ?_, upd_same, ?_, k dx _ ?_ ?_ upd_same⟩⟩
  · rw [upd_ne (Ne.symm ne), upd_same]
  · rw [upd_ne ne] at hdx; exact hdx
  · intro b o e
    rw [upd_ne ne] at hdx
    have n1 : b ≠ a := fun z => by rw [z, ha] at e; cases e
    have n2 : b ≠ dx := fun z => by rw [z, hdx] at e; cases e
    rw [upd_ne n2, del_ne n1, upd_ne n2, upd_ne n1, upd_ne n2, upd_ne n1]
    exact e
  · rw [upd_ne ne] at hdx; exact hdx
theorem mk_badT {C : Addr} {ta : TA} {σ : L2.St} {H0 H1 : Hp} {v : V} {Qx : XK} (ht : ∀ K : List V → Hp → Prop, K [v] H1 → ta σ H0 K) (k : ∀ d H', Same H1 H' → H1 d = none → H' d = some (.xd (badF v)) → Qx (.ref C) (some d) H') : tMkO C (sp_BadValue C) [] ta σ H0 Qx :=
  ht _ ⟨by simp, mk_bad k⟩
theorem ok_fraction (T : Txt w K mg) : FnOk P w K mg base (L2.CX P w) 3 T.a_fraction T.d_fraction ["p", "q"] (sp_fraction T.C_BadValue) := by
  refine T.F_fraction.ok sc_fraction (fun vs H Q E h => ?_) (fun cdv A outer s H vs Q E hr h => ?_)
  · obtain ⟨p, q, rfl, _⟩ := h
    rfl
  · obtain ⟨p, q, rfl, lp, lq, k, kE⟩ := h
    have hr_is_number : Room 1 _ := hr.mono (by decide)
    have G_is_number := ok_is_number (P := P) (base := base) T
    have hr_BadValue : Room 2 _ := hr.mono (by decide)
    have G_BadValue := ok_BadValue (P := P) (base := base) T
    refine ⟨_, (pss_cons (ps_if (PW.pt (pw_or (pt_not (pt_val (pe_call G_is_number hr_is_number (by rfl) T.m_is_number T.F_is_number.kp T.B_is_number .nil pass0 (pa_cons (pv 1) pa_nil)))) (pw_or1 (pt_cmpR op_eqI (pv 1) pe_int (nomark _))))) (pss_one (ps_raise rfl (takes_of rfl rfl rfl rfl) (pmk_oex T.X_BadValue T.i_BadValue T.t_BadValue G_BadValue hr_BadValue T.B_BadValue__init .nil pass0 (by rfl) T.m_BadValue (pa_cons (pv 1) pa_nil)))) pss_nil)
      (pss_cons (ps_set (i := 2) sc_fraction.nd rfl (Or.inl rfl) (pe_callBfun cr_gcd (by rfl) T.m_gcd (pa_cons (pv 0) (pa_cons (pv 1) pa_nil))))
      (pss_cons (ps_if (pt_cmpR op_lt (pv 1) pe_int (nomark _)) (pss_one (ps_set (i := 2) sc_fraction.nd rfl (Or.inl rfl) (pe_un un_neg (pv 2)))) pss_nil)
      (pss_one (ps_ret (pe_tupU (pa_cons (pe_op op_fdivF (pv 0) (pv 2)) (pa_cons (pe_op op_fdivF (pv 1) (pv 2)) pa_nil)))))))), ?_⟩
    refine seq_op fun N hN => ?_
    walk_at "rs"
    refine ⟨_, .int q, rfl, .int q, fun H1 s1 => ⟨true, rfl, iteFF (by decide) (ite2 (fun e => ?_) (fun e => hN _ _ ?_))⟩⟩
    · subst e
      exact mk_badT (fun K h => by walk_at "rs"; exact h) fun d H2 s2 hd h2 => kE rfl d H2 (Same.trans s1 s2) (Same.dom s1 d hd) h2
    clear hN N
    replace k := k e
    clear kE
    have g0 : (Nat.gcd p.natAbs q.natAbs : Nat) ≠ 0 := fun z => e (by have := Nat.eq_zero_of_gcd_eq_zero_right z; omega)
    have gl := gcd_log (p := p) e
    refine seq_op fun N hN => ?_
    walk_at "rs"
    refine ⟨p, q, rfl, hN _ _ ?_⟩
    clear hN N
    refine cut_seq (fun σ H2 => σ = [some (.int p), some (.int q), some (.int (frG p q))] ∧ H2 = H1) (fun N hN => ?_) ?_
    · walk_at "rs"
      unfold frG at hN
      refine ite2 (fun c => ?_) (fun c => ?_)
      · rw [if_pos c] at hN; exact hN _ _ ⟨rfl, rfl⟩
      · rw [if_neg c] at hN; exact hN _ _ ⟨rfl, rfl⟩
    · rintro σ H2 ⟨rfl, rfl⟩
      have n0 : frG p q ≠ 0 := by unfold frG; split <;> omega
      have nl : (frG p q).natAbs.log2 < 9000 := by
        have : (frG p q).natAbs = Nat.gcd p.natAbs q.natAbs := by unfold frG; split <;> omega
        rw [this]; omega
      walk_at "rs"
      exact ⟨⟨n0, nl⟩, ⟨n0, nl⟩, by decide, fun t H3 s3 h03 h3 => k t H3 (Same.trans s1 s3) (Same.dom s1 t h03) h3⟩
/-! ### the reckoning -/
def FrT (p q : Int) : V × V := (.int (frP p q), .int (frQ p q))
/-- a pair of whole numbers at a -/
def Pr (K : PySem.W.Frag) (H : Hp) (a : Addr) (p q : Int) : Prop := SqT K H a [.int p, .int q]
def sp_two (K : PySem.W.Frag) (f g : Int → Int → Int → Int → Int) : Sp := fun vs H Q _ => ∃ (a b : Addr) (p q r s : Int), vs = [.ref a, .ref b] ∧ Pr K H a p q ∧ Pr K H b r s ∧ p.natAbs < 2 ^ 4000 ∧ q.natAbs < 2 ^ 4000 ∧ r.natAbs < 2 ^ 4000 ∧ s.natAbs < 2 ^ 4000 ∧ g p q r s ≠ 0 ∧
  ∀ t H', Same H H' → H t = none → H' t = some (.tup [.int (frP (f p q r s) (g p q r s)), .int (frQ (f p q r s) (g p q r s))]) → Q (.ref t) H'
theorem two_add {i j : Int} {a : Nat} (hi : i.natAbs < 2 ^ a) (hj : j.natAbs < 2 ^ a) : (i + j).natAbs < 2 ^ (a + 1) := by
  have e : 2 ^ (a + 1) = 2 * 2 ^ a := Nat.pow_succ'
  omega
theorem two_sub {i j : Int} {a : Nat} (hi : i.natAbs < 2 ^ a) (hj : j.natAbs < 2 ^ a) : (i - j).natAbs < 2 ^ (a + 1) := by
  have e : 2 ^ (a + 1) = 2 * 2 ^ a := Nat.pow_succ'
  omega
theorem mulW {i j : Int} (hi : i.natAbs < 2 ^ 4000) (hj : j.natAbs < 2 ^ 4000) : CMulW i j := wide_mul hi hj (by decide) (by decide) (by decide)
theorem mulL {i j : Int} (hi : i.natAbs < 2 ^ 4000) (hj : j.natAbs < 2 ^ 4000) : (i * j).natAbs < 2 ^ 8000 := wide_lt (a := 4000) (b := 4000) hi hj
theorem logL {i : Int} {a : Nat} (h : i.natAbs < 2 ^ a) (h0 : 0 < a) (h9 : a ≤ 9000) : i.natAbs.log2 < 9000 := Nat.lt_of_lt_of_le (PySem.Flt.log2_lt_of h0 h) h9
theorem ok_plus (T : Txt w K mg) : FnOk P w K mg base CX0 4 T.a_plus T.d_plus ["a", "b"] (sp_two K (fun p q r s => p * s + r * q) fun _ q _ s => q * s) := by
  refine T.F_plus.ok sc_plus (fun vs H Q E h => ?_) (fun cdv A outer s H vs Q E hr h => ?_)
  · obtain ⟨a, b, p, q, r, s', rfl, _⟩ := h
    rfl
  · obtain ⟨a, b, p, q, r, s', rfl, ha, hb, lp, lq, lr, ls, n0, k⟩ := h
    have hr_fraction : Room 3 _ := hr.mono (by decide)
    have G_fraction := ok_fraction (P := P) (base := base) T
    refine ⟨_, (pss_one (ps_ret (pe_call G_fraction hr_fraction (by rfl) T.m_fraction T.F_fraction.kp T.B_fraction .nil passL (pa_cons (pe_op op_add (pe_op op_mulW (pe_ix ix_tup (pv 0) pe_int (fun _ _ => rfl)) (pe_ix ix_tup (pv 1) pe_int (fun _ _ => rfl))) (pe_op op_mulW (pe_ix ix_tup (pv 1) pe_int (fun _ _ => rfl)) (pe_ix ix_tup (pv 0) pe_int (fun _ _ => rfl)))) (pa_cons (pe_op op_mulW (pe_ix ix_tup (pv 0) pe_int (fun _ _ => rfl)) (pe_ix ix_tup (pv 1) pe_int (fun _ _ => rfl))) pa_nil))))), ?_⟩
    walk_at "rs"
    refine ⟨_, ha, _, rfl, _, hb, _, rfl, _, rfl, _, rfl, mulW lp ls, _, hb, _, rfl, _, ha, _, rfl, _, rfl, _, rfl, mulW lr lq, _, ha, _, rfl, _, hb, _, rfl, _, rfl, _, rfl, mulW lq ls, ?_⟩
    exact ⟨_, _, rfl, logL (two_add (mulL lp ls) (mulL lr lq)) (by decide) (by decide), logL (mulL lq ls) (by decide) (by decide), fun _ => k, fun e => absurd e n0⟩
end
end LK

set_option Elab.async false
set_option linter.all false
set_option maxRecDepth 100000
namespace LK
open PySem PySem.Spec PyProof.Rows L2
local macro_rules | `(tactic| walk_at "rs") => `(tactic| simp only [cxK, cxNK, tCallZ, tAsg, tOp, rI0, rS0, rB0, rI, rU, tUn, rEq, rNe, rIxL, rIxT, rIxS, rSetL, rSlLU, rSlS, rSlU, rCatL, rCatU, rRepL, rIn, tVar, tC, gName, gSub, tIfS, tTest, tB, tAnd, tOr, tNot, tNotV, tAndV, tOrV, tIf, tCall, tCons, tNil, tCB, tDrop, tRet, tRetN, tNext, tLstU, tTupU, tM0, tM1, tPar, tPar3, tAug, ipI, tBM, tBM0, rAppend, rPop, tBreak, sDPut, tDGet, tDGet2, tCont, tChain, tSl, tPart, tNoPart, L2.start, List.map, List.length_cons, List.length_nil, List.replicate, List.cons_append, List.nil_append, List.append_nil, List.getElem?_cons_zero, List.getElem?_cons_succ, List.set_cons_zero, List.set_cons_succ, Option.some.injEq, V.int.injEq, V.ref.injEq, V.str.injEq, V.bl.injEq, exists_eq_left', exists_eq_left, exists_and_left, decide_eq_true_eq, List.cons.injEq, and_true, true_and, scal, Bool.not_eq_true', decide_eq_false_iff_not, Nat.zero_add, Nat.reduceAdd, Nat.reduceSub, reduceCtorEq, false_and, exists_false, false_or, or_false, CPow, CPowW, CMul, CDiv, Int.reduceToNat, ↓reduceIte, wipe, sw, rv3, tListKeys, tDIn, tDNotIn, List.nil_append, List.singleton_append])
local macro_rules | `(tactic| walk_at "st") => `(tactic| (refine seq_op fun N hN => ?_; walk_at "rs"))
local macro_rules | `(tactic| walk_at "sd") => `(tactic| first | assumption | decide | omega)
local macro_rules | `(tactic| walk_at "rd") => `(tactic| repeat (first
  | refine ⟨_, SqL.of (by assumption), ?_⟩ | refine ⟨_, SqL.of upd_same, ?_⟩ | refine ⟨_, .inl (SqL.of (by assumption)), ?_⟩ | refine ⟨_, (by assumption : _ = some (HO.lst _)), ?_⟩ | refine ⟨_, upd_same, ?_⟩
  | refine ⟨_, rfl, ?_⟩ | refine And.intro (by walk_at "sd") ?_))

theorem eqv_zero (r s : Int) : PyData.eqv (.tuple [.int r, .int s]) (.tuple [.int 0, .int 1]) = (decide (r = 0) && decide (s = 1)) := by
  simp [PyData.eqv, PyData.eqvAll]
  rfl
theorem shaped2 (r s : Int) : SeqAt.shaped (.tuple [.int r, .int s]) = true := by rfl
theorem dp_pair {K : PySem.W.Frag} {H : Hp} {a : Addr} {p q : Int} (h : Pr K H a p q) : Dp K H (.ref a) (.tuple [.int p, .int q]) := .tup h (.cons (.int p) (.cons (.int q) .nil))
theorem abs_if (p : Int) : (if p < 0 then -p else p) = ((p.natAbs : Nat) : Int) := by split <;> omega
theorem fr_spec (p : Int) {q : Int} (h : q ≠ 0) : frP p q * frG p q = p ∧ frQ p q * frG p q = q ∧ 1 ≤ frQ p q ∧ Nat.gcd (frP p q).natAbs (frQ p q).natAbs = 1 ∧ (frP p q).natAbs ≤ p.natAbs ∧ (frQ p q).natAbs ≤ q.natAbs ∧ frG p q ≠ 0 := by
  have g0 : Nat.gcd p.natAbs q.natAbs ≠ 0 := fun z => h (by have := Nat.eq_zero_of_gcd_eq_zero_right z; omega)
  have ga : (frG p q).natAbs = Nat.gcd p.natAbs q.natAbs := by unfold frG; split <;> omega
  have gs : (0 < q ∧ 0 < frG p q) ∨ (q < 0 ∧ frG p q < 0) := by unfold frG; split <;> omega
  have gn : frG p q ≠ 0 := by omega
  have d1 : frG p q ∣ p := Int.natAbs_dvd_natAbs.mp (by rw [ga]; exact Nat.gcd_dvd_left _ _)
  have d2 : frG p q ∣ q := Int.natAbs_dvd_natAbs.mp (by rw [ga]; exact Nat.gcd_dvd_right _ _)
  obtain ⟨a, ea⟩ := d1
  obtain ⟨b, eb⟩ := d2
  have pa : frP p q = a := by
    unfold frP
    generalize frG p q = G at ea gn
    rw [ea, Int.mul_comm]
    exact Int.mul_fdiv_cancel _ gn
  have qb : frQ p q = b := by
    unfold frQ
    generalize frG p q = G at eb gn
    rw [eb, Int.mul_comm]
    exact Int.mul_fdiv_cancel _ gn
  rw [pa, qb]
  have na : p.natAbs = a.natAbs * Nat.gcd p.natAbs q.natAbs := by
    rw [← ga, ← Int.natAbs_mul, Int.mul_comm]; exact congrArg Int.natAbs ea
  have nb : q.natAbs = b.natAbs * Nat.gcd p.natAbs q.natAbs := by
    rw [← ga, ← Int.natAbs_mul, Int.mul_comm]; exact congrArg Int.natAbs eb
  have hg : Nat.gcd a.natAbs b.natAbs = 1 := by
    have e : Nat.gcd (a.natAbs * Nat.gcd p.natAbs q.natAbs) (b.natAbs * Nat.gcd p.natAbs q.natAbs) = Nat.gcd p.natAbs q.natAbs := by rw [← na, ← nb]
    rw [Nat.gcd_mul_right] at e
    exact Nat.eq_of_mul_eq_mul_right (Nat.pos_of_ne_zero g0) (by rw [e, Nat.one_mul])
  refine ⟨by rw [Int.mul_comm]; exact ea.symm, by rw [Int.mul_comm]; exact eb.symm, ?_, hg, ?_, ?_, gn⟩
  · generalize frG p q = G at eb gs
    rcases Int.lt_trichotomy b 0 with c | c | c
    · rcases gs with ⟨h1, h2⟩ | ⟨h1, h2⟩
      · have := Int.mul_neg_of_pos_of_neg h2 c; omega
      · have := Int.mul_pos_of_neg_of_neg h2 c; omega
    · rw [c, Int.mul_zero] at eb; omega
    · omega
  · rw [na]; exact Nat.le_mul_of_pos_right _ (Nat.pos_of_ne_zero g0)
  · rw [nb]; exact Nat.le_mul_of_pos_right _ (Nat.pos_of_ne_zero g0)
theorem pow_le {n a b : Nat} (h : n < 2 ^ a) (hab : a ≤ b) : n < 2 ^ b := Nat.lt_of_lt_of_le h (Nat.pow_le_pow_right (by decide) hab)
theorem abs_div (p : Int) {q : Int} (h : 1 ≤ q) : (p.fdiv q).natAbs ≤ p.natAbs := by
  rw [Int.fdiv_eq_ediv_of_nonneg p (by omega)]
  exact Int.natAbs_ediv_le_natAbs p q
theorem eqv_pair (p q r s : Int) : PyData.eqv (.tuple [.int p, .int q]) (.tuple [.int r, .int s]) = (decide (p = r) && decide (q = s)) := by
  simp [PyData.eqv, PyData.eqvAll]
  rfl
theorem fr_low {p q : Int} (h : 1 ≤ q) (hg : Nat.gcd p.natAbs q.natAbs = 1) : frP p q = p ∧ frQ p q = q := by
  have e : frG p q = 1 := by unfold frG; rw [hg, if_neg (by omega)]; rfl
  obtain ⟨h1, h2, _⟩ := fr_spec p (q := q) (by omega)
  rw [e, Int.mul_one] at h1 h2
  exact ⟨h1, h2⟩
theorem fr_unique {P Q p q : Int} (hQ : Q ≠ 0) (h : P * q = p * Q) (hq : 1 ≤ q) (hg : Nat.gcd p.natAbs q.natAbs = 1) : frP P Q = p ∧ frQ P Q = q := by
  obtain ⟨e1, e2, e3, e4, _, _, g0⟩ := fr_spec P hQ
  have h2 : frP P Q * q = p * frQ P Q := by
    have e : (frP P Q * q) * frG P Q = (p * frQ P Q) * frG P Q := by
      have a : (frP P Q * q) * frG P Q = (frP P Q * frG P Q) * q := by
        rw [Int.mul_assoc, Int.mul_comm q, ← Int.mul_assoc]
      have b : (p * frQ P Q) * frG P Q = p * (frQ P Q * frG P Q) := Int.mul_assoc _ _ _
      rw [a, b, e1, e2, h]
    exact Int.eq_of_mul_eq_mul_right g0 e
  have hn : (frP P Q).natAbs * q.natAbs = p.natAbs * (frQ P Q).natAbs := by rw [← Int.natAbs_mul, ← Int.natAbs_mul, h2]
  have d1 : q.natAbs ∣ (frQ P Q).natAbs := by
    have d : q.natAbs ∣ p.natAbs * (frQ P Q).natAbs := ⟨(frP P Q).natAbs, by rw [← hn, Nat.mul_comm]⟩
    exact Nat.Coprime.dvd_of_dvd_mul_left (Nat.Coprime.symm hg) d
  have d2 : (frQ P Q).natAbs ∣ q.natAbs := by
    have d : (frQ P Q).natAbs ∣ (frP P Q).natAbs * q.natAbs := ⟨p.natAbs, by rw [hn, Nat.mul_comm]⟩
    exact Nat.Coprime.dvd_of_dvd_mul_left (Nat.Coprime.symm e4) d
  have en := Nat.dvd_antisymm d1 d2
  have eq : frQ P Q = q := by omega
  refine ⟨?_, eq⟩
  rw [eq] at h2
  exact Int.eq_of_mul_eq_mul_right (by omega) h2
/-- what a fraction of P and Q is worth -/
theorem fr_worth (P : Int) {Q : Int} (hQ : Q ≠ 0) : frP P Q * Q = P * frQ P Q := by
  obtain ⟨e1, e2, _⟩ := fr_spec P hQ
  have : frP P Q * Q = frP P Q * (frQ P Q * frG P Q) := by rw [e2]
  rw [this, Int.mul_comm (frQ P Q), ← Int.mul_assoc, e1]
end LK

set_option Elab.async false
set_option linter.all false
set_option maxRecDepth 100000
namespace LK
open PySem PySem.Spec PyProof.Rows L2
local macro_rules | `(tactic| walk_at "rs") => `(tactic| simp only [cxK, cxNK, tCallZ, tAsg, tOp, rI0, rS0, rB0, rI, rU, tUn, rEq, rNe, rIxL, rIxT, rIxS, rSetL, rSlLU, rSlS, rSlU, rCatL, rCatU, rRepL, rIn, tVar, tC, gName, gSub, tIfS, tTest, tB, tAnd, tOr, tNot, tNotV, tAndV, tOrV, tIf, tCall, tCons, tNil, tCB, tDrop, tRet, tRetN, tNext, tLstU, tTupU, tM0, tM1, tPar, tPar3, tAug, ipI, tBM, tBM0, rAppend, rPop, tBreak, sDPut, tDGet, tDGet2, tCont, tChain, tSl, tPart, tNoPart, L2.start, List.map, List.length_cons, List.length_nil, List.replicate, List.cons_append, List.nil_append, List.append_nil, List.getElem?_cons_zero, List.getElem?_cons_succ, List.set_cons_zero, List.set_cons_succ, Option.some.injEq, V.int.injEq, V.ref.injEq, V.str.injEq, V.bl.injEq, exists_eq_left', exists_eq_left, exists_and_left, decide_eq_true_eq, List.cons.injEq, and_true, true_and, scal, Bool.not_eq_true', decide_eq_false_iff_not, Nat.zero_add, Nat.reduceAdd, Nat.reduceSub, reduceCtorEq, false_and, exists_false, false_or, or_false, CPow, CPowW, CMul, CDiv, Int.reduceToNat, ↓reduceIte, wipe, sw, rv3, tListKeys, tDIn, tDNotIn, List.nil_append, List.singleton_append])
local macro_rules | `(tactic| walk_at "st") => `(tactic| (refine seq_op fun N hN => ?_; walk_at "rs"))
local macro_rules | `(tactic| walk_at "sd") => `(tactic| first | assumption | decide | omega)
local macro_rules | `(tactic| walk_at "rd") => `(tactic| repeat (first
  | refine ⟨_, SqL.of (by assumption), ?_⟩ | refine ⟨_, SqL.of upd_same, ?_⟩ | refine ⟨_, .inl (SqL.of (by assumption)), ?_⟩ | refine ⟨_, (by assumption : _ = some (HO.lst _)), ?_⟩ | refine ⟨_, upd_same, ?_⟩
  | refine ⟨_, rfl, ?_⟩ | refine And.intro (by walk_at "sd") ?_))

abbrev Fr := Int × Int
/-- the fraction f, in lowest terms, is X parts of L -/
def Va (L X : Int) (f : Fr) : Prop := 1 ≤ f.2 ∧ Nat.gcd f.1.natAbs f.2.natAbs = 1 ∧ f.1 * L = X * f.2
theorem Va.dvd {L X : Int} {f : Fr} (h : Va L X f) : f.2 ∣ L := by
  obtain ⟨h1, h2, h3⟩ := h
  have d : f.2.natAbs ∣ f.1.natAbs * L.natAbs := ⟨X.natAbs, by rw [← Int.natAbs_mul, h3, Int.natAbs_mul, Nat.mul_comm]⟩
  exact Int.natAbs_dvd_natAbs.mp (Nat.Coprime.dvd_of_dvd_mul_left (Nat.Coprime.symm h2) d)
theorem Va.den {L X : Int} {f : Fr} (h : Va L X f) (hL : 0 < L) : f.2.natAbs ≤ L.natAbs := Nat.le_of_dvd (by omega) (Int.natAbs_dvd_natAbs.mpr h.dvd)
theorem Va.num {L X : Int} {f : Fr} (h : Va L X f) (hL : 0 < L) : f.1.natAbs ≤ X.natAbs := by
  have hd := h.den hL
  have e : f.1.natAbs * L.natAbs = X.natAbs * f.2.natAbs := by rw [← Int.natAbs_mul, ← Int.natAbs_mul, h.2.2]
  have : f.1.natAbs * L.natAbs ≤ X.natAbs * L.natAbs := by rw [e]; exact Nat.mul_le_mul_left _ hd
  exact Nat.le_of_mul_le_mul_right this (by omega)
theorem Va.zero (L : Int) : Va L 0 (0, 1) := ⟨by decide, by decide, by simp⟩
theorem Va.scale {L X : Int} {f : Fr} (h : Va L X f) (k : Int) : Va (L * k) (X * k) f := ⟨h.1, h.2.1, by rw [← Int.mul_assoc, h.2.2, Int.mul_assoc, Int.mul_assoc, Int.mul_comm k]⟩
theorem Va.plus {L X Y : Int} {f g : Fr} (h : Va L X f) (h' : Va L Y g) : Va L (X + Y) (frP (f.1 * g.2 + g.1 * f.2) (f.2 * g.2), frQ (f.1 * g.2 + g.1 * f.2) (f.2 * g.2)) ∧ f.2 * g.2 ≠ 0 := by
  have q0 : f.2 * g.2 ≠ 0 := Int.mul_ne_zero (by have := h.1; omega) (by have := h'.1; omega)
  have wo := fr_worth (f.1 * g.2 + g.1 * f.2) q0
  obtain ⟨_, _, e3, e4, _⟩ := fr_spec (f.1 * g.2 + g.1 * f.2) q0
  refine ⟨⟨e3, e4, ?_⟩, q0⟩
  dsimp only
  generalize frP (f.1 * g.2 + g.1 * f.2) (f.2 * g.2) = P at wo
  generalize frQ (f.1 * g.2 + g.1 * f.2) (f.2 * g.2) = Q at wo
  refine Int.eq_of_mul_eq_mul_right q0 ?_
  have e1 := h.2.2
  have e2 := h'.2.2
  have a1 : P * L * (f.2 * g.2) = (P * (f.2 * g.2)) * L := by simp only [Int.mul_assoc, Int.mul_comm, Int.mul_left_comm]
  have a2 : (f.1 * g.2 + g.1 * f.2) * Q * L = ((f.1 * L) * g.2 + (g.1 * L) * f.2) * Q := by simp only [Int.add_mul, Int.mul_add, Int.mul_assoc, Int.mul_comm, Int.mul_left_comm]
  rw [a1, wo, a2, e1, e2]
  simp only [Int.add_mul, Int.mul_add, Int.mul_assoc, Int.mul_comm, Int.mul_left_comm]
theorem Va.times {L M X Y : Int} {f g : Fr} (h : Va L X f) (h' : Va M Y g) : Va (L * M) (X * Y) (frP (f.1 * g.1) (f.2 * g.2), frQ (f.1 * g.1) (f.2 * g.2)) ∧ f.2 * g.2 ≠ 0 := by
  have q0 : f.2 * g.2 ≠ 0 := Int.mul_ne_zero (by have := h.1; omega) (by have := h'.1; omega)
  have wo := fr_worth (f.1 * g.1) q0
  obtain ⟨_, _, e3, e4, _⟩ := fr_spec (f.1 * g.1) q0
  refine ⟨⟨e3, e4, ?_⟩, q0⟩
  dsimp only
  generalize frP (f.1 * g.1) (f.2 * g.2) = P at wo
  generalize frQ (f.1 * g.1) (f.2 * g.2) = Q at wo
  refine Int.eq_of_mul_eq_mul_right q0 ?_
  have e1 := h.2.2
  have e2 := h'.2.2
  have a1 : P * (L * M) * (f.2 * g.2) = (P * (f.2 * g.2)) * (L * M) := by simp only [Int.mul_assoc, Int.mul_comm, Int.mul_left_comm]
  have a2 : f.1 * g.1 * Q * (L * M) = (f.1 * L) * (g.1 * M) * Q := by simp only [Int.mul_assoc, Int.mul_comm, Int.mul_left_comm]
  rw [a1, wo, a2, e1, e2]
  simp only [Int.mul_assoc, Int.mul_comm, Int.mul_left_comm]
theorem low_eq {f g : Fr} (hf : 1 ≤ f.2) (gf : Nat.gcd f.1.natAbs f.2.natAbs = 1) (hg : 1 ≤ g.2) (gg : Nat.gcd g.1.natAbs g.2.natAbs = 1) (e : f.1 * g.2 = g.1 * f.2) : f = g := by
  obtain ⟨a, b⟩ := fr_unique (P := f.1) (Q := f.2) (p := g.1) (q := g.2) (by omega) e hg gg
  obtain ⟨c, d⟩ := fr_low hf gf
  exact Prod.ext (by rw [← a, c]) (by rw [← b, d])
theorem Va.uniq {L X : Int} {f g : Fr} (hL : 0 < L) (h : Va L X f) (h' : Va L X g) : f = g := by
  refine low_eq h.1 h.2.1 h'.1 h'.2.1 ?_
  refine Int.eq_of_mul_eq_mul_right (show L ≠ 0 by omega) ?_
  have e1 := h.2.2
  have e2 := h'.2.2
  have a1 : f.1 * g.2 * L = (f.1 * L) * g.2 := by simp only [Int.mul_assoc, Int.mul_comm, Int.mul_left_comm]
  have a2 : g.1 * f.2 * L = (g.1 * L) * f.2 := by simp only [Int.mul_assoc, Int.mul_comm, Int.mul_left_comm]
  rw [a1, a2, e1, e2]
  simp only [Int.mul_assoc, Int.mul_comm, Int.mul_left_comm]
theorem Va.pos {L X : Int} {f : Fr} (hL : 0 < L) (h : Va L X f) : 0 < f.1 ↔ 0 < X := by
  have e := h.2.2
  have q1 := h.1
  constructor
  · intro p
    have := Int.mul_pos p hL
    rw [e] at this
    exact Int.pos_of_mul_pos_left this (by omega)
  · intro p
    have := Int.mul_pos p (show 0 < f.2 by omega)
    rw [← e] at this
    exact Int.pos_of_mul_pos_left this hL
/-- the parts of M that f has -/
def num (M : Int) (f : Fr) : Int := f.1 * (M / f.2)
theorem num_va {M : Int} {f : Fr} (h1 : 1 ≤ f.2) (hg : Nat.gcd f.1.natAbs f.2.natAbs = 1) (hd : f.2 ∣ M) : Va M (num M f) f := by
  refine ⟨h1, hg, ?_⟩
  unfold num
  rw [Int.mul_assoc, Int.ediv_mul_cancel hd]
end LK

set_option Elab.async false
set_option linter.all false
set_option maxRecDepth 100000
namespace LK
open PySem PySem.Spec PyProof.Rows L2
local macro_rules | `(tactic| walk_at "rs") => `(tactic| simp only [cxK, cxNK, tCallZ, tAsg, tOp, rI0, rS0, rB0, rI, rU, tUn, rEq, rNe, rIxL, rIxT, rIxS, rSetL, rSlLU, rSlS, rSlU, rCatL, rCatU, rRepL, rIn, tVar, tC, gName, gSub, tIfS, tTest, tB, tAnd, tOr, tNot, tNotV, tAndV, tOrV, tIf, tCall, tCons, tNil, tCB, tDrop, tRet, tRetN, tNext, tLstU, tTupU, tM0, tM1, tPar, tPar3, tAug, ipI, tBM, tBM0, rAppend, rPop, tBreak, sDPut, tDGet, tDGet2, tCont, tChain, tSl, tPart, tNoPart, L2.start, List.map, List.length_cons, List.length_nil, List.replicate, List.cons_append, List.nil_append, List.append_nil, List.getElem?_cons_zero, List.getElem?_cons_succ, List.set_cons_zero, List.set_cons_succ, Option.some.injEq, V.int.injEq, V.ref.injEq, V.str.injEq, V.bl.injEq, exists_eq_left', exists_eq_left, exists_and_left, decide_eq_true_eq, List.cons.injEq, and_true, true_and, scal, Bool.not_eq_true', decide_eq_false_iff_not, Nat.zero_add, Nat.reduceAdd, Nat.reduceSub, reduceCtorEq, false_and, exists_false, false_or, or_false, CPow, CPowW, CMul, CDiv, Int.reduceToNat, ↓reduceIte, wipe, sw, rv3, tListKeys, tDIn, tDNotIn, List.nil_append, List.singleton_append])
local macro_rules | `(tactic| walk_at "st") => `(tactic| (refine seq_op fun N hN => ?_; walk_at "rs"))
local macro_rules | `(tactic| walk_at "sd") => `(tactic| first | assumption | decide | omega)
local macro_rules | `(tactic| walk_at "rd") => `(tactic| repeat (first
  | refine ⟨_, SqL.of (by assumption), ?_⟩ | refine ⟨_, SqL.of upd_same, ?_⟩ | refine ⟨_, .inl (SqL.of (by assumption)), ?_⟩ | refine ⟨_, (by assumption : _ = some (HO.lst _)), ?_⟩ | refine ⟨_, upd_same, ?_⟩
  | refine ⟨_, rfl, ?_⟩ | refine And.intro (by walk_at "sd") ?_))

/-! ### fractions and their worth -/
def low (f : Fr) : Prop := 1 ≤ f.2 ∧ Nat.gcd f.1.natAbs f.2.natAbs = 1
def plusF (f g : Fr) : Fr := (frP (f.1 * g.2 + g.1 * f.2) (f.2 * g.2), frQ (f.1 * g.2 + g.1 * f.2) (f.2 * g.2))
def rt (f : Fr) : Rat := Rat.divInt f.1 f.2
theorem rt_eq {f g : Fr} (hf : low f) (hg : low g) (e : rt f = rt g) : f = g := by
  have f0 : f.2 ≠ 0 := by have := hf.1; omega
  have g0 : g.2 ≠ 0 := by have := hg.1; omega
  exact low_eq hf.1 hf.2 hg.1 hg.2 ((Rat.divInt_eq_divInt_iff f0 g0).mp e)
theorem den_ne {f g : Fr} (hf : low f) (hg : low g) : f.2 * g.2 ≠ 0 := Int.mul_ne_zero (by have := hf.1; omega) (by have := hg.1; omega)
theorem rt_fr (P : Int) {Q : Int} (h : Q ≠ 0) : rt (frP P Q, frQ P Q) = Rat.divInt P Q ∧ low (frP P Q, frQ P Q) := by
  obtain ⟨_, _, e3, e4, _⟩ := fr_spec P h
  exact ⟨(Rat.divInt_eq_divInt_iff (show frQ P Q ≠ 0 by omega) h).mpr (fr_worth P h), e3, e4⟩
theorem rt_plus {f g : Fr} (hf : low f) (hg : low g) : rt (plusF f g) = rt f + rt g ∧ low (plusF f g) := by
  obtain ⟨a, b⟩ := rt_fr (f.1 * g.2 + g.1 * f.2) (den_ne hf hg)
  refine ⟨?_, b⟩
  have f0 : f.2 ≠ 0 := by have := hf.1; omega
  have g0 : g.2 ≠ 0 := by have := hg.1; omega
  show rt (plusF f g) = Rat.divInt f.1 f.2 + Rat.divInt g.1 g.2
  rw [Rat.divInt_add_divInt _ _ f0 g0]
  exact a
theorem low_zero : low (0, 1) := ⟨by decide, by decide⟩
theorem rt_zero : rt (0, 1) = 0 := by unfold rt; exact Rat.zero_divInt 1
theorem rt_neg {f : Fr} (hf : low f) : rt (-f.1, f.2) = - rt f ∧ low (-f.1, f.2) := ⟨(Rat.neg_divInt f.1 f.2).symm, hf.1, by rw [Int.natAbs_neg]; exact hf.2⟩
theorem low_null {f : Fr} (hf : low f) : f.1 = 0 ↔ f = (0, 1) := by
  constructor
  · intro e
    have := hf.2
    rw [e] at this
    have h1 := hf.1
    have h2 : f.2 = 1 := by
      rw [show (0 : Int).natAbs = 0 from rfl, Nat.gcd_zero_left] at this
      omega
    exact Prod.ext e h2
  · intro e
    rw [e]
/-- bits of a fraction -/
def wt (f : Fr) : Nat := max f.1.natAbs.log2 f.2.natAbs.log2 + 1
theorem wt_lt (f : Fr) : f.1.natAbs < 2 ^ wt f ∧ f.2.natAbs < 2 ^ wt f := by
  unfold wt
  constructor
  · exact Nat.lt_of_lt_of_le (Nat.lt_log2_self) (Nat.pow_le_pow_right (by decide) (Nat.succ_le_succ (Nat.le_max_left _ _)))
  · exact Nat.lt_of_lt_of_le (Nat.lt_log2_self) (Nat.pow_le_pow_right (by decide) (Nat.succ_le_succ (Nat.le_max_right _ _)))
theorem log_lt {n k : Nat} (hk : 0 < k) (h : n < 2 ^ k) : n.log2 < k := PySem.Flt.log2_lt_of hk h
theorem wt_le {f : Fr} {k : Nat} (hk : 0 < k) (h1 : f.1.natAbs < 2 ^ k) (h2 : f.2.natAbs < 2 ^ k) : wt f ≤ k := by
  have a := log_lt hk h1
  have b := log_lt hk h2
  unfold wt
  omega
theorem wt_pos (f : Fr) : 0 < wt f := Nat.succ_pos _
theorem wt_plus {f g : Fr} (hf : low f) (hg : low g) : wt (plusF f g) ≤ wt f + wt g + 1 := by
  obtain ⟨_, _, _, _, e5, e6, _⟩ := fr_spec (f.1 * g.2 + g.1 * f.2) (den_ne hf hg)
  obtain ⟨a1, a2⟩ := wt_lt f
  obtain ⟨b1, b2⟩ := wt_lt g
  refine wt_le (by omega) (Nat.lt_of_le_of_lt e5 ?_) (Nat.lt_of_le_of_lt e6 (pow_le (wide_lt a2 b2) (by omega)))
  refine two_add (wide_lt a1 b2) ?_
  rw [Nat.add_comm]
  exact wide_lt b1 a2
/-! items: a spot and a factor -/
abbrev It := List Int × Fr
def accF (items : List It) (k : List Int) : Fr := items.foldl (fun acc it => if it.1 = k then plusF acc it.2 else acc) (0, 1)
def accR (items : List It) (k : List Int) : Rat := items.foldl (fun acc it => if it.1 = k then acc + rt it.2 else acc) 0
def wtS (items : List It) (k : List Int) : Nat := items.foldl (fun acc it => if it.1 = k then acc + (wt it.2 + 1) else acc) 1
theorem accF_snoc (items : List It) (it : It) (k : List Int) : accF (items ++ [it]) k = if it.1 = k then plusF (accF items k) it.2 else accF items k := by
  unfold accF
  rw [List.foldl_append]
  rfl
theorem accF_fold {items : List It} (h : ∀ it ∈ items, low it.2) (k : List Int) : ∀ {f : Fr} {r : Rat} {n : Nat}, low f → rt f = r → wt f ≤ n → 
    low (items.foldl (fun acc it => if it.1 = k then plusF acc it.2 else acc) f) ∧ rt (items.foldl (fun acc it => if it.1 = k then plusF acc it.2 else acc) f) = items.foldl (fun acc it => if it.1 = k then acc + rt it.2 else acc) r ∧ wt (items.foldl (fun acc it => if it.1 = k then plusF acc it.2 else acc) f) ≤ items.foldl (fun acc it => if it.1 = k then acc + (wt it.2 + 1) else acc) n := by
  induction items with
  | nil => intro f r n a b c; exact ⟨a, b, c⟩
  | cons it items ih =>
    intro f r n a b c
    have hl := h it List.mem_cons_self
    simp only [List.foldl_cons]
    by_cases e : it.1 = k
    · rw [if_pos e, if_pos e, if_pos e]
      obtain ⟨p1, p2⟩ := rt_plus a hl
      refine ih (fun x hx => h x (List.mem_cons_of_mem _ hx)) p2 (by rw [p1, b]) ?_
      have := wt_plus a hl
      omega
    · rw [if_neg e, if_neg e, if_neg e]
      exact ih (fun x hx => h x (List.mem_cons_of_mem _ hx)) a b c
theorem accF_spec {items : List It} (h : ∀ it ∈ items, low it.2) (k : List Int) : low (accF items k) ∧ rt (accF items k) = accR items k ∧ wt (accF items k) ≤ wtS items k := accF_fold h k low_zero rt_zero (by decide)
section
variable {P : Program} {w : World} {K : PySem.W.Frag} {mg : Str → Option Value} {base : Heap}
theorem plus_at (T : Txt w K mg) {H : Hp} {Q : VK} {E : XK} {a b : Addr} {f g : Fr} (ha : Pr K H a f.1 f.2) (hb : Pr K H b g.1 g.2) (lf : low f) (lg : low g) (wf : wt f ≤ 3990) (wg : wt g ≤ 3990) (k : ∀ t H', Same H H' → H t = none → H' t = some (.tup [.int (plusF f g).1, .int (plusF f g).2]) → Q (.ref t) H') : sp_two K (fun p q r s => p * s + r * q) (fun _ q _ s => q * s) [.ref a, .ref b] H Q E := by
  obtain ⟨a1, a2⟩ := wt_lt f
  obtain ⟨b1, b2⟩ := wt_lt g
  exact ⟨a, b, f.1, f.2, g.1, g.2, rfl, ha, hb, pow_le a1 (by omega), pow_le a2 (by omega), pow_le b1 (by omega), pow_le b2 (by omega), den_ne lf lg, k⟩
end
end LK

set_option Elab.async false
set_option linter.all false
set_option maxRecDepth 100000
namespace LK
open PySem PySem.Spec PyProof.Rows L2
local macro_rules | `(tactic| walk_at "rs") => `(tactic| simp only [cxK, cxNK, tCallZ, tAsg, tOp, rI0, rS0, rB0, rI, rU, tUn, rEq, rNe, rIxL, rIxT, rIxS, rSetL, rSlLU, rSlS, rSlU, rCatL, rCatU, rRepL, rIn, tVar, tC, gName, gSub, tIfS, tTest, tB, tAnd, tOr, tNot, tNotV, tAndV, tOrV, tIf, tCall, tCons, tNil, tCB, tDrop, tRet, tRetN, tNext, tLstU, tTupU, tM0, tM1, tPar, tPar3, tAug, ipI, tBM, tBM0, rAppend, rPop, tBreak, sDPut, tDGet, tDGet2, tCont, tChain, tSl, tPart, tNoPart, L2.start, List.map, List.length_cons, List.length_nil, List.replicate, List.cons_append, List.nil_append, List.append_nil, List.getElem?_cons_zero, List.getElem?_cons_succ, List.set_cons_zero, List.set_cons_succ, Option.some.injEq, V.int.injEq, V.ref.injEq, V.str.injEq, V.bl.injEq, exists_eq_left', exists_eq_left, exists_and_left, decide_eq_true_eq, List.cons.injEq, and_true, true_and, scal, Bool.not_eq_true', decide_eq_false_iff_not, Nat.zero_add, Nat.reduceAdd, Nat.reduceSub, reduceCtorEq, false_and, exists_false, false_or, or_false, CPow, CPowW, CMul, CDiv, Int.reduceToNat, ↓reduceIte, wipe, sw, rv3, tListKeys, tDIn, tDNotIn, List.nil_append, List.singleton_append])
local macro_rules | `(tactic| walk_at "st") => `(tactic| (refine seq_op fun N hN => ?_; walk_at "rs"))
local macro_rules | `(tactic| walk_at "sd") => `(tactic| first | assumption | decide | omega)
local macro_rules | `(tactic| walk_at "rd") => `(tactic| repeat (first
  | refine ⟨_, SqL.of (by assumption), ?_⟩ | refine ⟨_, SqL.of upd_same, ?_⟩ | refine ⟨_, .inl (SqL.of (by assumption)), ?_⟩ | refine ⟨_, (by assumption : _ = some (HO.lst _)), ?_⟩ | refine ⟨_, upd_same, ?_⟩
  | refine ⟨_, rfl, ?_⟩ | refine And.intro (by walk_at "sd") ?_))

section
variable {P : Program} {w : World} {K : PySem.W.Frag} {mg : Str → Option Value} {base : Heap}
theorem ok__law_draw (T : Txt w K mg) : FnOk P w K mg base CX0 1 T.a__law_draw T.d__law_draw ["bag", "size"] sp__law_draw := by
  refine T.F__law_draw.ok sc__law_draw (fun vs H Q E h => ?_) (fun cdv A outer s H vs Q E hr h => ?_)
  · obtain ⟨b, c, n, N0, rfl, _⟩ := h
    rfl
  · obtain ⟨b, c, n, N0, rfl, ⟨cells, i, g, m, d, hB, hC, ncb, hi, hm, hm2⟩, n0, n1, k⟩ := h
    refine ⟨_, (pss_cons (ps_asg (pe_op op_add (pe_ix ix_list (pv 0) pe_int (fun _ _ => rfl)) pe_int) (pg_sub (pv 0) pe_int set_list))
      (pss_cons (ps_if (PW.pt (pw_and (pt_cmpR op_eqI (pe_ix ix_list (pv 0) pe_int (fun _ _ => rfl)) pe_int (nomark _)) (pw_and1 (pt_cmpR op_lt (pe_ix ix_list (pv 0) pe_int (fun _ _ => rfl)) (pe_callB call_len_seq (by rfl) T.n_len (by decide +kernel) (pa_cons (pe_ix ix_list (pv 0) pe_int (fun _ _ => rfl)) pa_nil)) (nomark _))))) (pss_cons (ps_set (i := 2) sc__law_draw.nd rfl (Or.inl rfl) (pe_ix ix_list (pe_ix ix_list (pv 0) pe_int (fun _ _ => rfl)) (pe_ix ix_list (pv 0) pe_int (fun _ _ => rfl)) (fun _ _ => rfl)))
      (pss_cons (ps_asg (pe_op op_add (pe_ix ix_list (pv 0) pe_int (fun _ _ => rfl)) pe_int) (pg_sub (pv 0) pe_int set_list))
      (pss_one (ps_if (pt_cmpR op_ge (pv 2) (pe_op op_pow pe_int pe_int) (nomark _)) (pss_one (ps_asg (pv 2) (pg_sub (pv 0) pe_int set_list))) (pss_one (ps_asg (pe_op op_mod (pe_callTy call_intI (by rfl) T.n_int (by decide +kernel) (pa_cons (pe_op op_add (pe_op op_add (pe_op op_mul (pe_ix ix_list (pv 0) pe_int (fun _ _ => rfl)) pe_int) (pe_op op_mul (pe_op op_mod (pe_callTy call_intI (by rfl) T.n_int (by decide +kernel) (pa_cons (pv 2) pa_nil)) pe_int) pe_int)) pe_int) pa_nil)) pe_int) (pg_sub (pv 0) pe_int set_list))))))) pss_nil)
      (pss_cons (ps_if (pt_cmpR op_gt (pe_ix ix_list (pv 0) pe_int (fun _ _ => rfl)) pe_int (nomark _)) (pss_cons (ps_set (i := 3) sc__law_draw.nd rfl (Or.inl rfl) (pe_op op_mod (pe_callTy call_intI (by rfl) T.n_int (by decide +kernel) (pa_cons (pe_ix ix_list (pv 0) pe_int (fun _ _ => rfl)) pa_nil)) (pv 1)))
      (pss_cons (ps_asg (pe_op op_fdiv (pe_ix ix_list (pv 0) pe_int (fun _ _ => rfl)) (pv 1)) (pg_sub (pv 0) pe_int set_list))
      (pss_one (ps_ret (pv 3))))) pss_nil)
      (pss_cons (ps_asg (pe_op op_mod (pe_callTy call_intI (by rfl) T.n_int (by decide +kernel) (pa_cons (pe_op op_add (pe_op op_add (pe_op op_pow (pe_ix ix_list (pv 0) pe_int (fun _ _ => rfl)) pe_int) (pe_op op_mul (pe_ix ix_list (pv 0) pe_int (fun _ _ => rfl)) pe_int)) pe_int) pa_nil)) pe_int) (pg_sub (pv 0) pe_int set_list))
      (pss_one (ps_ret (pe_op op_mod (pe_callTy call_intI (by rfl) T.n_int (by decide +kernel) (pa_cons (pe_op op_add (pe_op op_fdiv (pe_ix ix_list (pv 0) pe_int (fun _ _ => rfl)) pe_int) (pe_op op_mul (pe_op op_mod (pe_callTy call_intI (by rfl) T.n_int (by decide +kernel) (pa_cons (pe_ix ix_list (pv 0) pe_int (fun _ _ => rfl)) pa_nil)) pe_int) pe_int)) pa_nil)) (pv 1)))))))), ?_⟩
    -- bag[4] = bag[4] + 1
    refine seq_op fun N hN => ?_
    walk_at "rs"
    refine ⟨_, SqL.of hB, _, rfl, _, rfl, _, hB, _, rfl, ?_⟩
    refine hN _ _ ?_
    clear hN N
    -- if bag[2] == 0 and bag[1] < len(bag[0]): ..
    have B1 : Bag N0 (upd H b (.lst [.ref c, .int i, .int g, .int m, .int (d + 1)])) b c := ⟨cells, i, g, m, d + 1, upd_same, by rw [upd_ne ncb]; exact hC, ncb, hi, hm, hm2⟩
    have K1 : Kp b H (upd H b (.lst [.ref c, .int i, .int g, .int m, .int (d + 1)])) := Kp.upd
    show tSeq _ _ _ _ (upd H b (.lst [.ref c, .int i, .int g, .int m, .int (d + 1)]))
    generalize upd H b (.lst [.ref c, .int i, .int g, .int m, .int (d + 1)]) = H1 at B1 K1 ⊢
    clear hB hC ncb hi hm hm2 i g m d cells
    refine cut_seq (fun σ H2 => ∃ x, σ = [some (.ref b), some (.int n), x, none] ∧ Bag N0 H2 b c ∧ Kp b H H2) (fun N hN => ?_) ?_
    · obtain ⟨cells, i, g, m, d, hB, hC, ncb, hi, hm, hm2⟩ := id B1
      walk_at "rs"
      refine ⟨_, SqL.of hB, _, rfl, _, rfl, ite2 (fun z => ?_) (fun _ => hN _ _ ⟨_, rfl, B1, K1⟩)⟩
      refine ⟨_, SqL.of hB, _, rfl, _, SqL.of hB, _, rfl, _, rfl, _, .inl (SqL.of hC), _, rfl, ite2 (fun zl => ?_) (fun _ => hN _ _ ⟨_, rfl, B1, K1⟩)⟩
      -- cell = bag[0][bag[1]]
      rw [List.length_map] at zl
      obtain ⟨cl, hcl⟩ : ∃ cl, cells[i.toNat]? = some cl := ⟨cells[i.toNat]'(by omega), List.getElem?_eq_getElem _⟩
      refine seq_op fun N2 hN2 => ?_
      walk_at "rs"
      walk_at "rd"
      refine ⟨_, _, rfl, SqL.of hC, _, at_of (j := i.toNat) (v := .int cl) (by omega) (by rw [List.getElem?_map, hcl] <;> rfl), hN2 _ _ ?_⟩
      clear hN2 N2
      -- bag[1] = bag[1] + 1
      refine seq_op fun N2 hN2 => ?_
      walk_at "rs"
      walk_at "rd"
      refine hN2 _ _ ?_
      clear hN2 N2
      -- if cell >= 10 ** 18: bag[2] = cell else: ..
      walk_at "rs"
      refine ⟨by decide, ite2 (fun _ => ?_) (fun _ => ?_)⟩
      · refine ⟨_, upd_same, _, rfl, hN _ _ ⟨_, rfl, ?_, ?_⟩⟩
        · exact ⟨cells, i + 1, cl, m, d, upd_same, by rw [upd_ne ncb, upd_ne ncb]; exact hC, ncb, by omega, hm, hm2⟩
        · exact K1.trans (Kp.upd.trans Kp.upd)
      · walk_at "rd"
        refine hN _ _ ⟨_, rfl, ?_, ?_⟩
        · exact ⟨cells, i + 1, g, _, d, upd_same, by rw [upd_ne ncb, upd_ne ncb]; exact hC, ncb, by omega, Int.emod_nonneg _ (by decide), Int.emod_lt_of_pos _ (by decide)⟩
        · exact K1.trans (Kp.upd.trans Kp.upd)
    · rintro σ H2 ⟨x, rfl, B2, K2⟩
      obtain ⟨cells, i, g, m, d, hB, hC, ncb, hi, hm, hm2⟩ := id B2
      -- if bag[2] > 0: ..
      refine seq_op fun N hN => ?_
      walk_at "rs"
      refine ⟨_, SqL.of hB, _, rfl, _, rfl, ite2 (fun _ => ?_) (fun _ => hN _ _ ?_)⟩
      · refine seq_op fun N2 hN2 => ?_
        walk_at "rs"
        walk_at "rd"
        refine hN2 _ _ ?_
        clear hN2 N2
        refine seq_op fun N2 hN2 => ?_
        walk_at "rs"
        refine ⟨_, SqL.of hB, _, rfl, _, rfl, ⟨n0, n1⟩, ?_⟩
        walk_at "rd"
        refine hN2 _ _ ?_
        walk_at "rs"
        exact k _ _ (Int.emod_nonneg _ (by omega)) (Int.emod_lt_of_pos _ n0) ⟨cells, i, _, m, d, upd_same, by rw [upd_ne ncb]; exact hC, ncb, hi, hm, hm2⟩ (K2.trans Kp.upd)
      · clear hN N
        refine seq_op fun N hN => ?_
        walk_at "rs"
        refine ⟨_, SqL.of hB, _, rfl, _, rfl, ⟨by decide, by decide, by omega⟩, _, SqL.of hB, _, rfl, _, rfl, .inr (by decide), by decide, ?_⟩
        walk_at "rd"
        refine hN _ _ ?_
        clear hN N
        walk_at "rs"
        walk_at "rd"
        exact k _ _ (Int.emod_nonneg _ (by omega)) (Int.emod_lt_of_pos _ n0) ⟨cells, i, g, _, d, upd_same, by rw [upd_ne ncb]; exact hC, ncb, hi, Int.emod_nonneg _ (by decide), Int.emod_lt_of_pos _ (by decide)⟩ (K2.trans Kp.upd)

theorem ok__law_of (T : Txt w K mg) : FnOk P w K mg base CX0 2 T.a__law_of T.d__law_of ["bag", "things"] (sp__law_of K) := by
  refine T.F__law_of.ok sc__law_of (fun vs H Q E h => ?_) (fun cdv A outer s H vs Q E hr h => ?_)
  · obtain ⟨b, c, x, ys, N0, rfl, _⟩ := h
    rfl
  · obtain ⟨b, c, x, ys, N0, rfl, B, sq, sqb, ne, hl, k⟩ := h
    have hr__law_draw : Room 1 _ := hr.mono (by decide)
    have G__law_draw := ok__law_draw (P := P) (base := base) T
    refine ⟨_, (pss_one (ps_ret (pe_ix ix_seq (pv 1) (pe_call G__law_draw hr__law_draw (by rfl) T.m__law_draw T.F__law_draw.kp T.B__law_draw .nil pass0 (pa_cons (pv 0) (pa_cons (pe_callB call_len (by rfl) T.n_len (by decide +kernel) (pa_cons (pv 1) pa_nil)) pa_nil))) (fun _ _ => rfl)))), ?_⟩
    walk_at "rs"
    have ln : 0 < ys.length := by cases ys with | nil => exact absurd rfl ne | cons => exact Nat.succ_pos _
    have pick : ∀ (r : Int), 0 ≤ r → r < (ys.length : Int) → ∃ y, atI ys r = some y ∧ y ∈ ys := fun r r0 r1 => by
      have h1 : r.toNat < ys.length := by omega
      exact ⟨ys[r.toNat], at_of (j := r.toNat) (by omega) (List.getElem?_eq_getElem h1), List.getElem_mem h1⟩
    refine ⟨ys.length, ?_, b, c, _, N0, rfl, B, by omega, by omega, fun r H' r0 r1 B' K' => ?_⟩
    · rcases sq with ⟨p, rfl, h⟩ | ⟨p, rfl, h⟩ | ⟨z, rfl, hz, rfl⟩
      · exact .inl ⟨_, h, rfl⟩
      · exact .inr ⟨_, h, rfl⟩
      · refine ⟨Nat.le_trans hz (by decide), ?_⟩
        rw [List.length_map, Array.length_toList] <;> rfl
    · obtain ⟨y, e, hy⟩ := pick r r0 r1
      rcases sqb with ⟨p, rfl, h⟩ | ⟨p, rfl, h⟩ | ⟨z, rfl, hz, rfl⟩
      · exact .inl ⟨p, ys, r, y, rfl, rfl, Same.seq (hb_le _ _) (Same.seq K' h), e, k y H' hy B' K'⟩
      · exact .inr (.inl ⟨p, ys, r, y, rfl, rfl, Same.seqT (hb_le _ _) (Same.seqT K' h), e, k y H' hy B' K'⟩)
      · refine .inr (.inr ?_)
        have h1 : r.toNat < z.cps.toList.length := by rw [List.length_map] at r1; omega
        have e2 : atI z.cps.toList r = some z.cps.toList[r.toNat] := at_ofN (j := r.toNat) (by omega) (List.getElem?_eq_getElem h1)
        refine ⟨z, r, _, rfl, rfl, Nat.le_trans hz (by decide), e2, k _ H' ?_ B' K'⟩
        exact List.mem_map.mpr ⟨_, List.getElem_mem h1, rfl⟩
theorem ok__law_bag (T : Txt w K mg) : FnOk P w K mg base CX0 1 T.a__law_bag T.d__law_bag ["script"] (sp__law_bag K) := by
  refine T.F__law_bag.ok sc__law_bag (fun vs H Q E h => ?_) (fun cdv A outer s H vs Q E hr h => ?_)
  · obtain ⟨a, ns, rfl, _⟩ := h
    rfl
  · obtain ⟨a, ns, rfl, hS, hl, k⟩ := h
    refine ⟨_, (pss_cons (ps_set (i := 1) sc__law_bag.nd rfl (Or.inl rfl) pe_int)
      (pss_cons (ps_for PassesOwn.never rfl (pi_list (pe_slice sl_listU (pv 0) po_none (po_some pe_int))) (pg_name (i := 2) sc__law_bag.nd rfl (Or.inl rfl)) (pss_one (ps_set (i := 1) sc__law_bag.nd rfl (Or.inl rfl) (pe_op op_mod (pe_callTy call_intI (by rfl) T.n_int (by decide +kernel) (pa_cons (pe_op op_add (pe_op op_add (pe_op op_mul (pv 1) pe_int) (pe_op op_mod (pe_callTy call_intI (by rfl) T.n_int (by decide +kernel) (pa_cons (pv 2) pa_nil)) pe_int)) pe_int) pa_nil)) pe_int))))
      (pss_one (ps_ret (pe_lstU (pa_cons (pe_callTy call_listU (by rfl) T.n_list (by decide +kernel) (pa_cons (pe_slice sl_listU (pv 0) po_none (po_some pe_int)) pa_nil)) (pa_cons pe_int (pa_cons pe_int (pa_cons (pv 1) (pa_cons pe_int pa_nil)))))))))), ?_⟩
    refine seq_op fun N hN => ?_
    walk_at "rs"
    refine hN _ _ ?_
    clear hN N
    refine cut_seq (fun σ H2 => ∃ m x, σ = [some (.ref a), some (.int m), x] ∧ 0 ≤ m ∧ m < 2147483579 ∧ Same H H2) (fun N hN => ?_) ?_
    · refine ⟨_, rfl, _, rfl, a, _, rfl, hS, fun p H1 s1 h0 h1 => ?_⟩
      refine ⟨p, rfl, ⟨_, SqL.of h1⟩, for_list (K := K) (a := p) (xs := cutV (ns.map V.int) none (some 63)) (fun i σ H2 => ∃ m x, σ = [some (.ref a), some (.int m), x] ∧ 0 ≤ m ∧ m < 2147483579 ∧ Same H1 H2) ⟨_, _, rfl, by decide, by decide, Same.refl _⟩ (fun i σ H2 _ ⟨_, _, _, _, _, s2⟩ => SqL.of (s2 _ _ h1)) ?_ ?_⟩
      · rintro i y σ H2 hi ⟨m, x, rfl, m0, m1, s2⟩
        obtain ⟨u, rfl⟩ : ∃ u, y = V.int u := by
          have q := List.mem_of_getElem? hi
          have q2 : y ∈ (ns.map V.int).take 63 := (cutV_take (ns.map V.int) 63) ▸ q
          obtain ⟨u, _, rfl⟩ := List.mem_map.mp (List.mem_of_mem_take q2)
          exact ⟨u, rfl⟩
        walk_at "rs"
        refine ⟨.inr (by decide), by decide, by decide, _, _, ⟨rfl, rfl⟩, ?_⟩
        exact ⟨Int.emod_nonneg _ (by decide), Int.emod_lt_of_pos _ (by decide), s2⟩
      · rintro σ H2 ⟨m, x, rfl, m0, m1, s2⟩
        exact hN _ _ ⟨m, x, rfl, m0, m1, Same.trans s1 s2⟩
    · rintro σ H2 ⟨m, x, rfl, m0, m1, s2⟩
      walk_at "rs"
      refine ⟨_, Same.seq s2 hS, fun p H3 s3 h30 h3 => ⟨_, .inl (SqL.of h3), fun l H4 s4 h40 h4 => ⟨by decide, fun q H5 s5 h50 h5 => ?_⟩⟩⟩
      have e : cutV (ns.map V.int) none (some 63) = ns.map V.int := by
        refine (cutV_take (ns.map V.int) 63).trans ?_
        rw [List.take_of_length_le (by simpa using hl)]
      rw [e] at h4
      have s25 : Same H2 H5 := Same.trans s3 (Same.trans s4 s5)
      refine k q l H5 (Same.trans s2 s25) ⟨ns, 0, 0, m, 0, h5, s5 _ _ h4, fun z => ?_, Int.le_refl _, m0, m1⟩ ?_
      · rw [z, h50] at h4; cases h4
      · exact Same.dom s2 q (Same.dom s3 q (Same.dom s4 q h50))
end
end LK

set_option Elab.async false
set_option linter.all false
set_option maxRecDepth 100000
namespace LK
open PySem PySem.Spec PyProof.Rows L2
local macro_rules | `(tactic| walk_at "rs") => `(tactic| simp only [cxK, cxNK, tCallZ, tAsg, tOp, rI0, rS0, rB0, rI, rU, tUn, rEq, rNe, rIxL, rIxT, rIxS, rSetL, rSlLU, rSlS, rSlU, rCatL, rCatU, rRepL, rIn, tVar, tC, gName, gSub, tIfS, tTest, tB, tAnd, tOr, tNot, tNotV, tAndV, tOrV, tIf, tCall, tCons, tNil, tCB, tDrop, tRet, tRetN, tNext, tLstU, tTupU, tM0, tM1, tPar, tPar3, tAug, ipI, tBM, tBM0, rAppend, rPop, tBreak, sDPut, tDGet, tDGet2, tCont, tChain, tSl, tPart, tNoPart, L2.start, List.map, List.length_cons, List.length_nil, List.replicate, List.cons_append, List.nil_append, List.append_nil, List.getElem?_cons_zero, List.getElem?_cons_succ, List.set_cons_zero, List.set_cons_succ, Option.some.injEq, V.int.injEq, V.ref.injEq, V.str.injEq, V.bl.injEq, exists_eq_left', exists_eq_left, exists_and_left, decide_eq_true_eq, List.cons.injEq, and_true, true_and, scal, Bool.not_eq_true', decide_eq_false_iff_not, Nat.zero_add, Nat.reduceAdd, Nat.reduceSub, reduceCtorEq, false_and, exists_false, false_or, or_false, CPow, CPowW, CMul, CDiv, Int.reduceToNat, ↓reduceIte, wipe, sw, rv3, tListKeys, tDIn, tDNotIn, List.nil_append, List.singleton_append])
local macro_rules | `(tactic| walk_at "st") => `(tactic| (refine seq_op fun N hN => ?_; walk_at "rs"))
local macro_rules | `(tactic| walk_at "sd") => `(tactic| first | assumption | decide | omega)
local macro_rules | `(tactic| walk_at "rd") => `(tactic| repeat (first
  | refine ⟨_, SqL.of (by assumption), ?_⟩ | refine ⟨_, SqL.of upd_same, ?_⟩ | refine ⟨_, .inl (SqL.of (by assumption)), ?_⟩ | refine ⟨_, (by assumption : _ = some (HO.lst _)), ?_⟩ | refine ⟨_, upd_same, ?_⟩
  | refine ⟨_, rfl, ?_⟩ | refine And.intro (by walk_at "sd") ?_))

theorem Kp.bn {b : Addr} {H H' : Hp} (k : Kp b H H') {o : HO} (h : H' b = some o) {p : Addr} (h0 : H' p = none) : H p = none := k.dom h p h0
theorem sqT_hb {N : Nat} {K : PySem.W.Frag} {H : Hp} {b c q : Addr} {xs : List V} (B : Bag N H b c) (h : SqT K H q xs) : SqT K (hb H b) q xs := by
  obtain ⟨yb, eb⟩ := B.at
  rcases h with (h | ⟨o, h⟩) | h
  · refine .inl (.inl ?_)
    rw [hb_ne]; exact h
    intro e; rw [e, eb] at h; cases h
  · refine .inl (.inr ⟨o, ?_⟩)
    rw [hb_ne]; exact h
    intro e; rw [e, eb] at h; cases h
  · exact .inr h
theorem seqT_kp {N : Nat} {K : PySem.W.Frag} {H H' : Hp} {b c q : Addr} {xs : List V} (B : Bag N H b c) (k : Kp b H H') (h : SqT K H q xs) : SqT K H' q xs := Same.seqT (hb_le H' b) (Same.seqT k (sqT_hb B h))
theorem new_ne {N : Nat} {b c p : Addr} {H : Hp} (B : Bag N H b c) (h0 : H p = none) : p ≠ b := fun e => by
  obtain ⟨xb, eb⟩ := B.at
  rw [e, eb] at h0; cases h0
theorem of_lst {N : Nat} {K : PySem.W.Frag} {H : Hp} {b c p : Addr} (B : Bag (N + 1) H b c) {ys : List V} (h : H p = some (.lst ys)) (n : p ≠ b) (ne : ys ≠ []) (hl : ys.length ≤ 1000000) {Q : VK} {E : XK} (k : ∀ y H', y ∈ ys → Bag N H' b c → Kp b H H' → Q y H') : sp__law_of K [.ref b, .ref p] H Q E :=
  ⟨b, c, .ref p, ys, N, rfl, B, .inl ⟨p, rfl, SqL.of h⟩, .inl ⟨p, rfl, SqL.of (by rw [hb_ne n]; exact h)⟩, ne, hl, k⟩
end LK

set_option Elab.async false
set_option linter.all false
set_option maxRecDepth 100000
namespace LK
open PySem PySem.Spec PyProof.Rows L2
local macro_rules | `(tactic| walk_at "rs") => `(tactic| simp only [cxK, cxNK, tCallZ, tAsg, tOp, rI0, rS0, rB0, rI, rU, tUn, rEq, rNe, rIxL, rIxT, rIxS, rSetL, rSlLU, rSlS, rSlU, rCatL, rCatU, rRepL, rIn, tVar, tC, gName, gSub, tIfS, tTest, tB, tAnd, tOr, tNot, tNotV, tAndV, tOrV, tIf, tCall, tCons, tNil, tCB, tDrop, tRet, tRetN, tNext, tLstU, tTupU, tM0, tM1, tPar, tPar3, tAug, ipI, tBM, tBM0, rAppend, rPop, tBreak, sDPut, tDGet, tDGet2, tCont, tChain, tSl, tPart, tNoPart, L2.start, List.map, List.length_cons, List.length_nil, List.replicate, List.cons_append, List.nil_append, List.append_nil, List.getElem?_cons_zero, List.getElem?_cons_succ, List.set_cons_zero, List.set_cons_succ, Option.some.injEq, V.int.injEq, V.ref.injEq, V.str.injEq, V.bl.injEq, exists_eq_left', exists_eq_left, exists_and_left, decide_eq_true_eq, List.cons.injEq, and_true, true_and, scal, Bool.not_eq_true', decide_eq_false_iff_not, Nat.zero_add, Nat.reduceAdd, Nat.reduceSub, reduceCtorEq, false_and, exists_false, false_or, or_false, CPow, CPowW, CMul, CDiv, Int.reduceToNat, ↓reduceIte, wipe, sw, rv3, tListKeys, tDIn, tDNotIn, List.nil_append, List.singleton_append])
local macro_rules | `(tactic| walk_at "st") => `(tactic| (refine seq_op fun N hN => ?_; walk_at "rs"))
local macro_rules | `(tactic| walk_at "sd") => `(tactic| first | assumption | decide | omega)
local macro_rules | `(tactic| walk_at "rd") => `(tactic| repeat (first
  | refine ⟨_, SqL.of (by assumption), ?_⟩ | refine ⟨_, SqL.of upd_same, ?_⟩ | refine ⟨_, .inl (SqL.of (by assumption)), ?_⟩ | refine ⟨_, (by assumption : _ = some (HO.lst _)), ?_⟩ | refine ⟨_, upd_same, ?_⟩
  | refine ⟨_, rfl, ?_⟩ | refine And.intro (by walk_at "sd") ?_))

/-! ### items at the heap -/
theorem seqT_updO {K : PySem.W.Frag} {H : Hp} {a p : Addr} {xs : List V} {o : HO} (hp : ∀ ys, ¬ Rd H p (.tup ys)) (h : SqT K H a xs) : SqT K (L2.upd H p o) a xs := by
  rcases h with h | h
  · have ne : a ≠ p := fun e => hp _ (e ▸ h)
    rcases h with h | ⟨u, h⟩
    · exact .inl (.inl (by rw [upd_ne ne]; exact h))
    · exact .inl (.inr ⟨u, by rw [upd_ne ne]; exact h⟩)
  · exact .inr h
theorem notT_lst {H : Hp} {p : Addr} {ys : List V} (h : H p = some (.lst ys)) : ∀ zs, ¬ Rd H p (.tup zs) := fun zs r => by
  rcases r with r | ⟨u, r⟩ <;> (rw [h] at r; cases r)
theorem notT_dK {H : Hp} {p : Addr} {ys : List (L2.Key × V)} (h : H p = some (.dK ys)) : ∀ zs, ¬ Rd H p (.tup zs) := fun zs r => by
  rcases r with r | ⟨u, r⟩ <;> (rw [h] at r; cases r)
theorem notT_dT {H : Hp} {p : Addr} {ys : List (List L2.Key × V)} (h : H p = some (.dT ys)) : ∀ zs, ¬ Rd H p (.tup zs) := fun zs r => by
  rcases r with r | ⟨u, r⟩ <;> (rw [h] at r; cases r)
inductive Its (K : PySem.W.Frag) (H : Hp) : List V → List It → Prop
  | nil : Its K H [] []
  | cons {a u : Addr} {k : List Int} {f : Fr} {xs : List V} {its : List It} : SqT K H a (k.map V.int ++ [.ref u]) → Pr K H u f.1 f.2 → Its K H xs its → Its K H (.ref a :: xs) ((k, f) :: its)
section
variable {K : PySem.W.Frag} {H H' : Hp}
theorem Its.same (s : Same H H') : ∀ {xs : List V} {its : List It}, Its K H xs its → Its K H' xs its
  | _, _, .nil => .nil
  | _, _, .cons h h2 q => .cons (Same.seqT s h) (Same.seqT s h2) (q.same s)
theorem Its.len : ∀ {xs : List V} {its : List It}, Its K H xs its → xs.length = its.length
  | _, _, .nil => rfl
  | _, _, .cons _ _ q => congrArg Nat.succ q.len
theorem Its.app : ∀ {xs ys : List V} {its jts : List It}, Its K H xs its → Its K H ys jts → Its K H (xs ++ ys) (its ++ jts)
  | _, _, _, _, .nil, r => r
  | _, _, _, _, .cons h h2 q, r => .cons h h2 (q.app r)
theorem Its.rev : ∀ {xs : List V} {its : List It}, Its K H xs its → Its K H xs.reverse its.reverse
  | _, _, .nil => .nil
  | _, _, .cons h h2 q => by rw [List.reverse_cons, List.reverse_cons]; exact q.rev.app (.cons h h2 .nil)
theorem Its.take : ∀ {xs : List V} {its : List It} (n : Nat), Its K H xs its → Its K H (xs.take n) (its.take n)
  | _, _, 0, _ => .nil
  | _, _, _ + 1, .nil => .nil
  | _, _, n + 1, .cons h h2 q => .cons h h2 (q.take n)
theorem Its.drop : ∀ {xs : List V} {its : List It} (n : Nat), Its K H xs its → Its K H (xs.drop n) (its.drop n)
  | _, _, 0, h => h
  | _, _, _ + 1, .nil => .nil
  | _, _, n + 1, .cons _ _ q => q.drop n
theorem Its.get : ∀ {xs : List V} {its : List It} {n : Nat}, Its K H xs its → n < its.length → ∃ a u k f, xs[n]? = some (.ref a) ∧ its[n]? = some (k, f) ∧ SqT K H a (k.map V.int ++ [.ref u]) ∧ Pr K H u f.1 f.2
  | _, _, _, .nil, h => absurd h (Nat.not_lt_zero _)
  | _, _, 0, .cons h h2 _, _ => ⟨_, _, _, _, rfl, rfl, h, h2⟩
  | _, _, n + 1, .cons _ _ q, h => by
    obtain ⟨a, u, k, f, h1, h2, h3⟩ := q.get (n := n) (Nat.lt_of_succ_lt_succ h)
    exact ⟨a, u, k, f, h1, h2, h3⟩
theorem Its.updO {p : Addr} {o : HO} (hp : ∀ ys, ¬ Rd H p (.tup ys)) : ∀ {xs : List V} {its : List It}, Its K H xs its → Its K (L2.upd H p o) xs its
  | _, _, .nil => .nil
  | _, _, .cons h h2 q => .cons (seqT_updO hp h) (seqT_updO hp h2) (q.updO hp)
theorem Its.kp {N : Nat} {b c : Addr} (B : Bag N H b c) (k : Kp b H H') : ∀ {xs : List V} {its : List It}, Its K H xs its → Its K H' xs its
  | _, _, .nil => .nil
  | _, _, .cons h h2 q => .cons (seqT_kp B k h) (seqT_kp B k h2) (q.kp B k)
def dIt (it : It) : PyData := .tuple (it.1.map PyData.int ++ [.tuple [.int it.2.1, .int it.2.2]])
theorem dp_ints : ∀ k : List Int, DpAll K H (k.map V.int) (k.map PyData.int)
  | [] => .nil
  | i :: k => .cons (.int i) (dp_ints k)
theorem dpAll_app : ∀ {xs ys : List V} {ds es : List PyData}, DpAll K H xs ds → DpAll K H ys es → DpAll K H (xs ++ ys) (ds ++ es)
  | _, _, _, _, .nil, r => r
  | _, _, _, _, .cons h q, r => .cons h (dpAll_app q r)
theorem Its.dp : ∀ {xs : List V} {its : List It}, Its K H xs its → DpAll K H xs (its.map dIt)
  | _, _, .nil => .nil
  | _, _, .cons h h2 q => .cons (.tup h (dpAll_app (dp_ints _) (.cons (.tup h2 (.cons (.int _) (.cons (.int _) .nil))) .nil))) q.dp
end
/-! ### the normal form -/
abbrev cd (k : List Int) : Int := TS.code 2000 k
structure Norm (R : List Int → Rat) (l : List It) : Prop where
  srt : l.Pairwise fun a b => cd a.1 < cd b.1
  it : ∀ x ∈ l, low x.2 ∧ x.2.1 ≠ 0 ∧ rt x.2 = R x.1
  all : ∀ k, R k ≠ 0 → ∃ f, (k, f) ∈ l
theorem rt_null {f : Fr} (hf : low f) : rt f = 0 ↔ f.1 = 0 := by
  constructor
  · intro e
    have := rt_eq hf low_zero (by rw [e, rt_zero])
    rw [this]
  · intro e
    rw [(low_null hf).mp e, rt_zero]
theorem srt_eq : ∀ {l m : List It}, (l.Pairwise fun a b => cd a.1 < cd b.1) → (m.Pairwise fun a b => cd a.1 < cd b.1) → (∀ x, x ∈ l ↔ x ∈ m) → l = m
  | [], [], _, _, _ => rfl
  | [], b :: m, _, _, h => by have := (h b).mpr List.mem_cons_self; cases this
  | a :: l, [], _, _, h => by have := (h a).mp List.mem_cons_self; cases this
  | a :: l, b :: m, hl, hm, h => by
    rw [List.pairwise_cons] at hl hm
    have e : a = b := by
      rcases List.mem_cons.mp ((h a).mp List.mem_cons_self) with e | e
      · exact e
      · rcases List.mem_cons.mp ((h b).mpr List.mem_cons_self) with e2 | e2
        · exact e2.symm
        · have h1 := hm.1 a e
          have h2 := hl.1 b e2
          omega
    subst e
    rw [srt_eq hl.2 hm.2 fun x => ?_]
    constructor
    · intro hx
      rcases List.mem_cons.mp ((h x).mp (List.mem_cons_of_mem _ hx)) with e | e
      · subst e
        have := hl.1 x hx
        omega
      · exact e
    · intro hx
      rcases List.mem_cons.mp ((h x).mpr (List.mem_cons_of_mem _ hx)) with e | e
      · subst e
        have := hm.1 x hx
        omega
      · exact e
theorem Norm.uniq {R : List Int → Rat} {l m : List It} (h : Norm R l) (g : Norm R m) : l = m := by
  have sub : ∀ {l m : List It}, Norm R l → Norm R m → ∀ x ∈ l, x ∈ m := fun {l m} h g x hx => by
    obtain ⟨a1, a2, a3⟩ := h.it x hx
    obtain ⟨f, hf⟩ := g.all x.1 (fun z => a2 ((rt_null a1).mp (a3.trans z)))
    obtain ⟨b1, b2, b3⟩ := g.it _ hf
    have e : x.2 = f := rt_eq a1 b1 (a3.trans b3.symm)
    have : x = (x.1, f) := Prod.ext rfl e
    rw [this]; exact hf
  exact srt_eq h.srt g.srt fun x => ⟨sub h g x, sub g h x⟩
theorem accF_none {items : List It} {k : List Int} (h : ∀ it ∈ items, it.1 ≠ k) : accF items k = (0, 1) ∧ accR items k = 0 := by
  unfold accF accR
  have key : ∀ {items : List It}, (∀ it ∈ items, it.1 ≠ k) → ∀ (f : Fr) (r : Rat), items.foldl (fun acc it => if it.1 = k then plusF acc it.2 else acc) f = f ∧ items.foldl (fun acc it => if it.1 = k then acc + rt it.2 else acc) r = r := by
    intro items
    induction items with
    | nil => intro _ f r; exact ⟨rfl, rfl⟩
    | cons it items ih =>
      intro h f r
      simp only [List.foldl_cons]
      rw [if_neg (h it List.mem_cons_self), if_neg (h it List.mem_cons_self)]
      exact ih (fun x hx => h x (List.mem_cons_of_mem _ hx)) f r
  exact key h _ _
/-- sorted spots, of those with a sum that is no 0, with their sums -/
theorem norm_of {items : List It} {L : List (List Int)} (hl : ∀ it ∈ items, low it.2) (srt : L.Pairwise fun a b => cd a < cd b) (all : ∀ it ∈ items, it.1 ∈ L) : Norm (accR items) ((L.filter fun k => decide (accF items k ≠ (0, 1))).map fun k => (k, accF items k)) := by
  refine ⟨?_, fun x hx => ?_, fun k hk => ?_⟩
  · rw [List.pairwise_map]
    exact (srt.filter _).imp fun h => h
  · obtain ⟨k, hk, rfl⟩ := List.mem_map.mp hx
    have := of_decide_eq_true (List.mem_filter.mp hk).2
    obtain ⟨a, b, _⟩ := accF_spec hl k
    exact ⟨a, fun z => this ((low_null a).mp z), b⟩
  · have mk : k ∈ L := Classical.byContradiction fun n => hk (accF_none fun it hit e => n (by rw [← e]; exact all it hit)).2
    obtain ⟨a, b, _⟩ := accF_spec hl k
    refine ⟨accF items k, List.mem_map.mpr ⟨k, List.mem_filter.mpr ⟨mk, decide_eq_true fun z => hk ?_⟩, rfl⟩⟩
    rw [← b, z, rt_zero]
theorem nodup_len {α : Type} [DecidableEq α] : ∀ {l S : List α}, l.Nodup → (∀ x ∈ l, x ∈ S) → l.length ≤ S.length
  | [], _, _, _ => Nat.zero_le _
  | a :: l, S, h, hs => by
    rw [List.nodup_cons] at h
    have ha := hs a List.mem_cons_self
    have := nodup_len (l := l) (S := S.erase a) h.2 fun x hx => by
      have ne : x ≠ a := fun e => h.1 (e ▸ hx)
      exact (List.mem_erase_of_ne ne).mpr (hs x (List.mem_cons_of_mem _ hx))
    rw [List.length_erase_of_mem ha] at this
    have p : 0 < S.length := List.length_pos_of_mem ha
    rw [List.length_cons]
    omega
/-- a comprehension with a test, its items told by R -/
theorem lc_filtR {J : L2.It} {n : Nat} {G : Hp → Prop} {Y : Nat → Hp → V → Hp → Prop} (w : Walk J n G Y) {g : TG} {tt : TT} {te : TE} {vs : List Nat} {σ : L2.St} {H1 : Hp} {D : Addr} {Qd : Hp → Prop} (R : Nat → Hp → List V → Prop) (p : Nat → Bool) (hD : H1 D = none) (hn : n ≤ 1000000)
    (mono : ∀ i H H' ys, Same H H' → R i H ys → R i H' ys) (up : ∀ i H ys zs o, H D = some (.lst zs) → R i H ys → R i (L2.upd H D o) ys) (r0 : ∀ H, R 0 H [])
    (hG : ∀ H, Same H1 H → G H)
    (hs : ∀ i x H H', i < n → Same H1 H → Y i H x H' → g x (wipe σ vs) H' fun σ2 H2 => Same H H2 ∧ wipe σ2 vs = wipe σ vs ∧ (∀ Qt : Bool → Hp → Prop, (∀ H3, Same H2 H3 → Qt (p i) H3) → tt σ2 H2 Qt) ∧ (p i = false → ∀ H3 ys, R i H3 ys → R (i + 1) H3 ys) ∧ (p i = true → ∀ H3, Same H2 H3 → ∀ Q2 : VK, (∀ v H4, Same H3 H4 → (∀ ys, R i H4 ys → R (i + 1) H4 (ys ++ [v])) → Q2 v H4) → te σ2 H3 Q2))
    (gm : ∀ x σ0 H0 Q0 Q1, (∀ σ2 H2, Q0 σ2 H2 → Q1 σ2 H2) → g x σ0 H0 Q0 → g x σ0 H0 Q1)
    (hq : ∀ H' ys, Same H1 H' → H' D = some (.lst ys) → R n H' ys → Qd H') :
    ∃ W : Nat → Nat → Hp → Prop, (∃ m, W 0 m (L2.upd H1 D (.lst []))) ∧ ∀ i m H, W i m H →
      (J.stop i H ∧ Qd H) ∨ (J.go i H ∧ ∃ Nx : Hp → Prop, (∀ H', Nx H' → ∃ m', m' < m ∧ W (i + 1) m' H') ∧ ∀ x H', J.yld i H x H' → g x (wipe σ vs) H' fun σ2 H2 => wipe σ2 vs = wipe σ vs ∧ tt σ2 H2 fun b H3 =>
        if b = true then te σ2 H3 fun y H4 => ∃ acc, H4 D = some (.lst acc) ∧ acc.length < sizeLine ∧ Nx (L2.upd H4 D (.lst (acc ++ [y]))) else Nx H3) := by
  have keep : ∀ {H : Hp} {o : HO}, Same H1 H → Same H1 (L2.upd H D o) := fun s a u e => by
    rw [upd_ne (ne_of_none e hD)]; exact s _ _ e
  refine lc_it w (fun i H => Same H1 H ∧ ∃ ys, H D = some (.lst ys) ∧ ys.length ≤ i ∧ R i H ys) ⟨keep (Same.refl _), [], upd_same, Nat.le_refl _, r0 _⟩ (fun i H _ h => hG H h.1) (fun i x H H' hi ⟨s1, ys, h1, hl, hr⟩ hY => ?_) (fun H ⟨s1, ys, h1, _, hr⟩ => hq H ys s1 h1 hr)
  refine gm _ _ _ _ _ (fun σ2 H2 ⟨s2, e2, kt, kf, ke⟩ => ⟨e2, kt _ fun H3 s3 => ?_⟩) (hs i x H H' hi s1 hY)
  have s23 := Same.trans s2 s3
  have hD3 := s23 _ _ h1
  cases c : p i with
  | true =>
    rw [if_pos rfl]
    refine ke c H3 s3 _ fun v H4 s4 st => ⟨ys, s4 _ _ hD3, ?_, keep (Same.trans s1 (Same.trans s23 s4)), ys ++ [v], upd_same, ?_, up _ _ _ _ _ (s4 _ _ hD3) (st ys (mono _ _ _ _ (Same.trans s23 s4) hr))⟩
    · exact Nat.lt_of_le_of_lt hl (Nat.lt_of_lt_of_le (Nat.lt_of_lt_of_le hi hn) (by decide))
    · rw [List.length_append]
      simp only [List.length_cons, List.length_nil]
      omega
  | false =>
    rw [if_neg (by simp)]
    exact ⟨Same.trans s1 s23, ys, hD3, by omega, kf c H3 ys (mono _ _ _ _ s23 hr)⟩
end LK

set_option Elab.async false
set_option linter.all false
set_option maxRecDepth 100000
namespace LK
open PySem PySem.Spec PyProof.Rows L2
local macro_rules | `(tactic| walk_at "rs") => `(tactic| simp only [cxK, cxNK, tCallZ, tAsg, tOp, rI0, rS0, rB0, rI, rU, tUn, rEq, rNe, rIxL, rIxT, rIxS, rSetL, rSlLU, rSlS, rSlU, rCatL, rCatU, rRepL, rIn, tVar, tC, gName, gSub, tIfS, tTest, tB, tAnd, tOr, tNot, tNotV, tAndV, tOrV, tIf, tCall, tCons, tNil, tCB, tDrop, tRet, tRetN, tNext, tLstU, tTupU, tM0, tM1, tPar, tPar3, tAug, ipI, tBM, tBM0, rAppend, rPop, tBreak, sDPut, tDGet, tDGet2, tCont, tChain, tSl, tPart, tNoPart, L2.start, List.map, List.length_cons, List.length_nil, List.replicate, List.cons_append, List.nil_append, List.append_nil, List.getElem?_cons_zero, List.getElem?_cons_succ, List.set_cons_zero, List.set_cons_succ, Option.some.injEq, V.int.injEq, V.ref.injEq, V.str.injEq, V.bl.injEq, exists_eq_left', exists_eq_left, exists_and_left, decide_eq_true_eq, List.cons.injEq, and_true, true_and, scal, Bool.not_eq_true', decide_eq_false_iff_not, Nat.zero_add, Nat.reduceAdd, Nat.reduceSub, reduceCtorEq, false_and, exists_false, false_or, or_false, CPow, CPowW, CMul, CDiv, Int.reduceToNat, ↓reduceIte, wipe, sw, rv3, tListKeys, tDIn, tDNotIn, List.nil_append, List.singleton_append])
local macro_rules | `(tactic| walk_at "st") => `(tactic| (refine seq_op fun N hN => ?_; walk_at "rs"))
local macro_rules | `(tactic| walk_at "sd") => `(tactic| first | assumption | decide | omega)
local macro_rules | `(tactic| walk_at "rd") => `(tactic| repeat (first
  | refine ⟨_, SqL.of (by assumption), ?_⟩ | refine ⟨_, SqL.of upd_same, ?_⟩ | refine ⟨_, .inl (SqL.of (by assumption)), ?_⟩ | refine ⟨_, (by assumption : _ = some (HO.lst _)), ?_⟩ | refine ⟨_, upd_same, ?_⟩
  | refine ⟨_, rfl, ?_⟩ | refine And.intro (by walk_at "sd") ?_))

theorem for_lt {K : PySem.W.Frag} {a : Addr} {xs : List V} {g : TG} {tb : TS} {D : Ends} {σ : L2.St} {H : Hp} {tl : TE} (hv : ∀ Q : VK, Q (.ref a) H → tl σ H Q) {H0 : Hp} (h : SqL K H0 a xs ∨ SqT K H0 a xs) (Pv : Nat → L2.St → Hp → Prop) (h0 : Pv 0 σ H) (hl : ∀ i σ H', Pv i σ H' → Same H0 H')
    (hs : ∀ i x σ H, xs[i]? = some x → Pv i σ H → g x σ H fun σ2 H2 => tb { D with nx := Pv (i + 1), ct := Pv (i + 1), bk := D.nx } σ2 H2) (hd : ∀ σ H, Pv xs.length σ H → D.nx σ H) : tFor (iLT K tl) g tb D σ H := by
  rcases h with h | h
  · exact .inl (hv _ ⟨a, rfl, ⟨xs, (hl _ _ _ h0).seq h⟩, for_list (K := K) (a := a) (xs := xs) Pv h0 (fun i σ H2 _ p => (hl i σ H2 p).seq h) hs hd⟩)
  · exact .inr (hv _ ⟨a, rfl, ⟨xs, Same.seqT (hl _ _ _ h0) h⟩, for_tup (K := K) (a := a) (xs := xs) Pv h0 (fun i σ H2 _ p => Same.seqT (hl i σ H2 p) h) hs hd⟩)
theorem gm_name (i : Nat) : ∀ (x : V) (σ0 : L2.St) (H0 : Hp) (Q0 Q1 : L2.St → Hp → Prop), (∀ σ2 H2, Q0 σ2 H2 → Q1 σ2 H2) → gName i x σ0 H0 Q0 → gName i x σ0 H0 Q1 := fun _ _ _ _ _ h q => h _ _ q
theorem gm2 {K : PySem.W.Frag} (i j : Nat) : ∀ (x : V) (σ0 : L2.St) (H0 : Hp) (Q0 Q1 : L2.St → Hp → Prop), (∀ σ2 H2, Q0 σ2 H2 → Q1 σ2 H2) → gTup K 2 (gCons (gName i) (gCons (gName j) gNil)) x σ0 H0 Q0 → gTup K 2 (gCons (gName i) (gCons (gName j) gNil)) x σ0 H0 Q1 :=
  fun x σ0 H0 Q0 Q1 h ⟨a, xs, e1, e2, e3, v, r, e4, v2, r2, e5, e6, q⟩ => ⟨a, xs, e1, e2, e3, v, r, e4, v2, r2, e5, e6, h _ _ q⟩
theorem gm3 {K : PySem.W.Frag} (i j l : Nat) : ∀ (x : V) (σ0 : L2.St) (H0 : Hp) (Q0 Q1 : L2.St → Hp → Prop), (∀ σ2 H2, Q0 σ2 H2 → Q1 σ2 H2) → gTup K 3 (gCons (gName i) (gCons (gName j) (gCons (gName l) gNil))) x σ0 H0 Q0 → gTup K 3 (gCons (gName i) (gCons (gName j) (gCons (gName l) gNil))) x σ0 H0 Q1 :=
  fun x σ0 H0 Q0 Q1 h ⟨a, xs, e1, e2, e3, v, r, e4, v2, r2, e5, v3, r3, e6, e7, q⟩ => ⟨a, xs, e1, e2, e3, v, r, e4, v2, r2, e5, v3, r3, e6, e7, h _ _ q⟩
/-- a triple is taken apart -/
theorem g3_at {K : PySem.W.Frag} {i j l : Nat} {p : Addr} {u v w : V} {σ : L2.St} {H : Hp} {Q : L2.St → Hp → Prop} (h : SqT K H p [u, v, w]) (q : Q (((σ.set i (some u)).set j (some v)).set l (some w)) H) : gTup K 3 (gCons (gName i) (gCons (gName j) (gCons (gName l) gNil))) (.ref p) σ H Q := ⟨p, _, rfl, h, rfl, u, _, rfl, v, _, rfl, w, _, rfl, rfl, q⟩
theorem g2_at {K : PySem.W.Frag} {i j : Nat} {p : Addr} {u v : V} {σ : L2.St} {H : Hp} {Q : L2.St → Hp → Prop} (h : SqT K H p [u, v]) (q : Q ((σ.set i (some u)).set j (some v)) H) : gTup K 2 (gCons (gName i) (gCons (gName j) gNil)) (.ref p) σ H Q := ⟨p, _, rfl, h, rfl, u, _, rfl, v, _, rfl, rfl, q⟩
/-! ### sums in a dict -/
section
variable {κ : Type} [DecidableEq κ]
theorem valV_mem {k : κ} {v : V} : ∀ {kvs : List (κ × V)}, valV kvs k = some v → k ∈ kvs.map (·.1)
  | [], h => by cases h
  | p :: r, h => by
    by_cases e : p.1 = k
    · rw [List.map_cons, e]; exact List.mem_cons_self
    · rw [valV_neg e] at h
      exact List.mem_cons_of_mem _ (valV_mem h)
theorem keys_put (kvs : List (κ × V)) (k : κ) (v : V) : (putK kvs k v).map (·.1) = if (valV kvs k).isSome = true then kvs.map (·.1) else kvs.map (·.1) ++ [k] := by
  unfold putK
  rw [valV_any]
  by_cases c : (valV kvs k).isSome = true
  · rw [if_pos c, if_pos c, List.map_map]
    refine List.map_congr_left fun p _ => ?_
    show (if p.1 = k then (p.1, v) else p).1 = p.1
    split <;> rfl
  · rw [if_neg c, if_neg c, List.map_append]
    rfl
structure SumD (mk : List Int → κ) (d : Nat) (K : PySem.W.Frag) (H : Hp) (kvs : List (κ × V)) (items : List It) : Prop where
  inj : ∀ k k' : List Int, k.length = d → k'.length = d → mk k = mk k' → k = k'
  len : ∀ it ∈ items, it.1.length = d
  nd : (kvs.map (·.1)).Nodup
  key : ∀ x ∈ kvs.map (·.1), ∃ it ∈ items, x = mk it.1
  val : ∀ it ∈ items, ∃ u, valV kvs (mk it.1) = some (.ref u) ∧ Pr K H u (accF items it.1).1 (accF items it.1).2
variable {mk : List Int → κ} {d : Nat} {K : PySem.W.Frag} {H H' : Hp} {kvs : List (κ × V)} {items : List It}
theorem SumD.get (s : SumD mk d K H kvs items) {k : List Int} (hk : k.length = d) : (∃ u, valV kvs (mk k) = some (.ref u) ∧ Pr K H u (accF items k).1 (accF items k).2) ∨ (valV kvs (mk k) = none ∧ accF items k = (0, 1)) := by
  cases hv : valV kvs (mk k) with
  | none =>
    refine .inr ⟨rfl, (accF_none fun it hit e => ?_).1⟩
    obtain ⟨u, h1, _⟩ := s.val it hit
    rw [e, hv] at h1
    cases h1
  | some v =>
    obtain ⟨it, hit, e⟩ := s.key _ (valV_mem hv)
    obtain rfl := s.inj _ _ hk (s.len it hit) e
    obtain ⟨u, h1, h2⟩ := s.val it hit
    rw [hv] at h1
    exact .inl ⟨u, h1, h2⟩
theorem SumD.put (s : SumD mk d K H kvs items) {it : It} (hl : it.1.length = d) {t : Addr} (carry : ∀ u p q, Pr K H u p q → Pr K H' u p q) (ht : Pr K H' t (plusF (accF items it.1) it.2).1 (plusF (accF items it.1) it.2).2) : SumD mk d K H' (putK kvs (mk it.1) (.ref t)) (items ++ [it]) := by
  refine ⟨s.inj, fun x hx => ?_, ?_, fun x hx => ?_, fun x hx => ?_⟩
  · rcases List.mem_append.mp hx with hx | hx
    · exact s.len x hx
    · rw [List.mem_singleton.mp hx]; exact hl
  · rw [keys_put]
    by_cases c : (valV kvs (mk it.1)).isSome = true
    · rw [if_pos c]; exact s.nd
    · rw [if_neg c]
      refine List.nodup_append.mpr ⟨s.nd, by simp, fun x hx y hy e => ?_⟩
      obtain rfl := List.mem_singleton.mp hy
      obtain ⟨jt, hjt, e2⟩ := s.key x hx
      obtain ⟨u, h1, _⟩ := s.val jt hjt
      rw [← e2, e] at h1
      rw [h1] at c
      exact c rfl
  · rw [keys_put] at hx
    have old : x ∈ kvs.map (·.1) → ∃ jt ∈ items ++ [it], x = mk jt.1 := fun h => by
      obtain ⟨jt, hjt, e⟩ := s.key x h
      exact ⟨jt, List.mem_append_left _ hjt, e⟩
    split at hx
    · exact old hx
    · rcases List.mem_append.mp hx with hx | hx
      · exact old hx
      · exact ⟨it, List.mem_append_right _ List.mem_cons_self, List.mem_singleton.mp hx⟩
  · rw [valV_put]
    by_cases e : mk x.1 = mk it.1
    · have lx : x.1.length = d := by
        rcases List.mem_append.mp hx with hx | hx
        · exact s.len x hx
        · rw [List.mem_singleton.mp hx]; exact hl
      have e2 := s.inj _ _ lx hl e
      rw [if_pos e, accF_snoc, e2, if_pos rfl]
      exact ⟨t, rfl, ht⟩
    · rw [if_neg e, accF_snoc, if_neg fun z => e (by rw [z])]
      rcases List.mem_append.mp hx with hx | hx
      · obtain ⟨u, h1, h2⟩ := s.val x hx
        exact ⟨u, h1, carry _ _ _ h2⟩
      · exact absurd (by rw [List.mem_singleton.mp hx]) e
theorem SumD.upd (s : SumD mk d K H kvs items) (carry : ∀ u p q, Pr K H u p q → Pr K H' u p q) : SumD mk d K H' kvs items := ⟨s.inj, s.len, s.nd, s.key, fun it hit => by
  obtain ⟨u, h1, h2⟩ := s.val it hit
  exact ⟨u, h1, carry _ _ _ h2⟩⟩
end
theorem wtS_fold (k : List Int) : ∀ (b : List It) (n m : Nat), n ≤ m → n ≤ b.foldl (fun acc it => if it.1 = k then acc + (wt it.2 + 1) else acc) m
  | [], n, m, h => h
  | it :: b, n, m, h => by
    simp only [List.foldl_cons]
    by_cases e : it.1 = k
    · rw [if_pos e]; exact wtS_fold k b n _ (by omega)
    · rw [if_neg e]; exact wtS_fold k b n _ h
theorem wtS_take (items : List It) (i : Nat) (k : List Int) : wtS (items.take i) k ≤ wtS items k := by
  conv => rhs; rw [← List.take_append_drop i items]
  unfold wtS
  rw [List.foldl_append]
  exact wtS_fold k _ _ _ (Nat.le_refl _)
/-- items that may be handed in -/
structure Fit (d : Nat) (items : List It) : Prop where
  it : ∀ x ∈ items, low x.2 ∧ wt x.2 ≤ 3900 ∧ x.1.length = d ∧ TS.Bd 2000 x.1
  wt : ∀ k, wtS items k ≤ 3900
  few : ∃ S : List (List Int), S.length ≤ 62 ∧ ∀ x ∈ items, x.1 ∈ S
  len : items.length ≤ 1000
section
variable {P : Program} {w : World} {K : PySem.W.Frag} {mg : Str → Option Value} {base : Heap}
def sp_norm (K : PySem.W.Frag) (d : Nat) : Sp := fun vs H Q _ => ∃ (a : Addr) (xs : List V) (items : List It), vs = [.ref a] ∧ (SqL K H a xs ∨ SqT K H a xs) ∧ Its K H xs items ∧ Fit d items ∧
  ∀ (t : Addr) (ys : List V) (its' : List It) H', Same H H' → SqT K H' t ys → Its K H' ys its' → Norm (accR items) its' → its'.length < 64 → Q (.ref t) H'
theorem ok_normal_entries (T : Txt w K mg) : FnOk P w K mg base CX0 5 T.a_normal_entries T.d_normal_entries ["entries"] (sp_norm K 1) := by
  refine T.F_normal_entries.ok sc_normal_entries (fun vs H Q E h => ?_) (fun cdv A outer s H vs Q E hr h => ?_)
  · obtain ⟨a, xs, items, rfl, _⟩ := h
    rfl
  · obtain ⟨a, xs, items, rfl, ha, hi, fit, k⟩ := h
    have hr_plus : Room 4 _ := hr
    have G_plus := ok_plus (P := P) (base := base) T
    have hu1 : (A.deeper (envOfC "normal_entries" (defScope s_normal_entries) s.heap.objs.size T.a_normal_entries cdv)).units + 1 < cLine := Nat.lt_of_le_of_lt (Nat.add_le_add_left (by decide : 1 ≤ 64) _) hr.units
    have lx := hi.len
    refine ⟨_, (pss_cons (ps_set (i := 1) sc_normal_entries.nd rfl (Or.inr rfl) pe_dnewK)
      (pss_cons (ps_for PassesOwn.never rfl (pi_lt (pv 0)) (pg_tup rfl (pgs_cons (pg_name (i := 2) sc_normal_entries.nd rfl (Or.inl rfl)) (pgs_cons (pg_name (i := 3) sc_normal_entries.nd rfl (Or.inl rfl)) pgs_nil))) (pss_one (ps_dput hu1 (pv 1) (pv 2) (pe_call G_plus hr_plus (by rfl) T.m_plus T.F_plus.kp T.B_plus .nil pass0 (pa_cons (pe_dget2 hu1 (pv 1) (pv 2) (pe_glob (v := .ref T.a_ZERO) (by rfl) T.m_ZERO rfl) ⟨rfl, rfl, rfl, rfl⟩) (pa_cons (pv 3) pa_nil))) rfl)))
      (pss_one (ps_ret (pe_callTy call_tupleN (by rfl) T.n_tuple (by decide +kernel) (pa_cons (pe_lc (own := [("column", 2)]) (g := gName 2) (tt := _) rfl sc_normal_entries.nd (pi_list (pe_callB (call_sortedDI rfl) (by rfl) T.n_sorted (by decide +kernel) (pa_cons (pv 1) pa_nil))) (blkOk_by (own := [("column", 2)]) (N := N_normal_entries) (sc := defScope s_normal_entries) (by decide +kernel)) (fun _ _ _ _ _ => pg_name (i := 2) sc_normal_entries.nd rfl (Or.inl rfl)) (fun _ _ _ _ _ => pts_one (pt_cmpR (op_neDK (K := K) rfl hr.units) (pe_dget hu1 (pv 1) (pv 2) (fun _ _ => rfl)) (pe_glob (v := .ref T.a_ZERO) (by rfl) T.m_ZERO rfl) (nomark _))) (fun _ _ _ _ _ => (pe_tupU (pa_cons (pv 2) (pa_cons (pe_dget hu1 (pv 1) (pv 2) (fun _ _ => rfl)) pa_nil))))) pa_nil)))))), ?_⟩
    refine seq_op fun N hN => ?_
    walk_at "rs"
    refine fun D hD => hN _ _ ?_
    clear hN N
    have s0 : Same H (L2.upd H D (.dK [])) := same_upd hD
    refine cut_seq (fun σ G => ∃ (x2 x3 : Option V) (kvs : List (L2.Key × V)), σ = [some (.ref a), some (.ref D), x2, x3] ∧ Same H G ∧ G D = some (.dK kvs) ∧ SumD (fun k => (Sum.inl (k.headD 0) : L2.Key)) 1 K G kvs items) (fun N hN => ?_) ?_
    · refine for_lt (K := K) (a := a) (xs := xs) (fun Q q => ⟨_, rfl, q⟩) ha (fun i σ G => ∃ (x2 x3 : Option V) (kvs : List (L2.Key × V)), σ = [some (.ref a), some (.ref D), x2, x3] ∧ Same H G ∧ G D = some (.dK kvs) ∧ SumD (fun k => (Sum.inl (k.headD 0) : L2.Key)) 1 K G kvs (items.take i)) ⟨_, _, [], rfl, s0, upd_same, ⟨?_, ?_, ?_, ?_, ?_⟩⟩ (fun i σ G ⟨_, _, _, _, s1, _⟩ => s1) ?_ ?_
      · intro k k' h1 h2 e
        match k, k', h1, h2 with
        | [x], [y], _, _ => injection e with e; rw [show x = y from e]
      · intro it hit; simp at hit
      · simp
      · intro x hx; simp at hx
      · intro it hit; simp at hit
      · rintro i x σ G hx ⟨x2, x3, kvs, rfl, s1, hG, sd⟩
        obtain ⟨p, u, ks, f, ex, ee, h1, h2⟩ := hi.get (n := i) (by rw [← lx]; exact (List.getElem?_eq_some_iff.mp hx).1)
        obtain rfl : x = .ref p := by rw [ex] at hx; exact (Option.some.inj hx).symm
        obtain ⟨lf, wf, ld, bd⟩ := fit.it _ (List.mem_of_getElem? ee)
        dsimp only at lf wf ld bd
        obtain ⟨c, rfl⟩ : ∃ c, ks = [c] := by
          match ks, ld with
          | [c], _ => exact ⟨c, rfl⟩
        refine g2_at (Same.seqT s1 h1) ?_
        walk_at "rs"
        have hl : ∀ it ∈ items.take i, low it.2 := fun it hit => (fit.it it (List.mem_of_mem_take hit)).1
        obtain ⟨la, _, wa⟩ := accF_spec hl [c]
        have wb : wt (accF (items.take i) [c]) ≤ 3900 := Nat.le_trans wa (Nat.le_trans (wtS_take items i [c]) (fit.wt [c]))
        have es : items.take (i + 1) = items.take i ++ [([c], f)] := by
          obtain ⟨hk, e⟩ := List.getElem?_eq_some_iff.mp ee
          rw [← List.take_append_getElem hk, e]
        have kl : kvs.length < sizeLine := by
          have := nodup_len sd.nd (S := items.map fun it => (Sum.inl (it.1.headD 0) : L2.Key)) fun x hx => by
            obtain ⟨it, hit, e⟩ := sd.key x hx
            exact List.mem_map.mpr ⟨it, List.mem_of_mem_take hit, e.symm⟩
          rw [List.length_map, List.length_map] at this
          exact Nat.lt_of_le_of_lt (Nat.le_trans this fit.len) (by decide)
        have fin : ∀ (v : Addr), Pr K G v (accF (items.take i) [c]).1 (accF (items.take i) [c]).2 → sp_two K (fun p q r s => p * s + r * q) (fun _ q _ s => q * s) [.ref v, .ref u] G (fun y G2 => ∃ G3, DPut G2 D (.int c) y G3 ∧ ∃ x2 x3, (some (V.int c) = x2 ∧ some (V.ref u) = x3) ∧ Same H G3 ∧ ∃ kvs, G3 D = some (.dK kvs) ∧ SumD (fun k => (Sum.inl (k.headD 0) : L2.Key)) 1 K G3 kvs (items.take (i + 1))) E0 := fun v hv => by
          refine plus_at T hv (Same.seqT s1 h2) la lf (by omega) (by omega) fun t G2 s2 t0 t1 => ?_
          have hG2 := s2 _ _ hG
          have sp := sd.put (it := ([c], f)) rfl (H' := L2.upd G2 D (.dK (putK kvs (Sum.inl c) (.ref t)))) (t := t) (fun u p q h => seqT_updO (notT_dK hG2) (Same.seqT s2 h)) (seqT_updO (notT_dK hG2) (.inl (.inl t1)))
          refine ⟨_, DPut.k (k := Sum.inl c) hG2 kl, _, _, ⟨rfl, rfl⟩, ?_, _, upd_same, ?_⟩
          · intro b o e
            have ne : b ≠ D := fun z => by rw [z, hD] at e; cases e
            rw [upd_ne ne]
            exact s2 _ _ (s1 _ _ e)
          · rw [es]
            exact sp
        refine ⟨.inl ⟨kvs, .inl hG⟩, _, DGet.k (k := Sum.inl c) hG, ?_⟩
        rcases sd.get (k := [c]) rfl with ⟨v, hv, pv⟩ | ⟨hv, ez⟩
        · rw [show valV kvs (Sum.inl c : L2.Key) = some (.ref v) from hv]
          exact fin v pv
        · rw [show valV kvs (Sum.inl c : L2.Key) = none from hv]
          have pz : Pr K G T.a_ZERO (accF (items.take i) [c]).1 (accF (items.take i) [c]).2 := by rw [ez]; exact T.s_ZERO G
          exact fin _ pz
      · rintro σ G ⟨x2, x3, kvs, rfl, s1, hG, sd⟩
        rw [lx, List.take_length] at sd
        exact hN _ _ ⟨_, _, _, rfl, s1, hG, sd⟩
    · rintro σ G ⟨x2, x3, kvs, rfl, s1, hG, sd⟩
      have hl : ∀ it ∈ items, low it.2 := fun it hit => (fit.it it hit).1
      obtain ⟨S, sS, mS⟩ := fit.few
      have ksE : ∃ ks : List Int, kvs.map (·.1) = ks.map Sum.inl := by
        have : ∀ l : List L2.Key, (∀ x ∈ l, ∃ it ∈ items, x = (Sum.inl (it.1.headD 0) : L2.Key)) → ∃ ks : List Int, l = ks.map Sum.inl := by
          intro l
          induction l with
          | nil => intro _; exact ⟨[], rfl⟩
          | cons x l ih =>
            intro h
            obtain ⟨it, _, e⟩ := h x List.mem_cons_self
            obtain ⟨ks, e2⟩ := ih fun y hy => h y (List.mem_cons_of_mem _ hy)
            exact ⟨it.1.headD 0 :: ks, by rw [List.map_cons, e, e2]⟩
        exact this _ sd.key
      obtain ⟨ks, eks⟩ := ksE
      have ndk : ks.Nodup := by
        have := sd.nd
        rw [eks] at this
        exact (List.pairwise_map.mp this).imp fun h e => h (by rw [e])
      have mk : ∀ c, c ∈ ks ↔ ∃ it ∈ items, it.1 = [c] := fun c => by
        constructor
        · intro hc
          obtain ⟨it, hit, e⟩ := sd.key (Sum.inl c) (by rw [eks]; exact List.mem_map_of_mem hc)
          have l1 := sd.len it hit
          refine ⟨it, hit, ?_⟩
          match hk : it.1, l1 with
          | [y], _ => rw [hk] at e; injection e with e; rw [show c = y from e]
        · rintro ⟨it, hit, e⟩
          obtain ⟨u, h1, _⟩ := sd.val it hit
          have := valV_mem h1
          rw [eks, e] at this
          obtain ⟨y, hy, e2⟩ := List.mem_map.mp this
          injection e2 with e2
          rw [show c = y from e2.symm]; exact hy
      have lk : ks.length < 64 := by
        have := nodup_len (l := ks.map fun c => [c]) (S := S) (List.pairwise_map.mpr (ndk.imp fun h e => h (by injection e))) fun x hx => by
          obtain ⟨c, hc, rfl⟩ := List.mem_map.mp hx
          obtain ⟨it, hit, e⟩ := (mk c).mp hc
          rw [← e]; exact mS it hit
        rw [List.length_map] at this
        omega
      walk_at "rs"
      refine ⟨_, rfl, D, rfl, kvs, .inl hG, ks, eks, lk, fun ss p pm pw p0 => ?_⟩
      have sG : Same G (L2.upd G p (.lst (ss.map V.int))) := same_upd p0
      have hp1 : (L2.upd G p (.lst (ss.map V.int))) p = some (.lst (ss.map V.int)) := upd_same
      generalize L2.upd G p (.lst (ss.map V.int)) = G1 at *
      have sd1 : SumD (fun k => (Sum.inl (k.headD 0) : L2.Key)) 1 K G1 kvs items := sd.upd fun u p q h => Same.seqT sG h
      have hG1 := sG _ _ hG
      have lss : ss.length = ks.length := pm.length_eq
      have srt : (ss.map fun c => [c]).Pairwise fun a b => cd a < cd b := by
        rw [List.pairwise_map]
        have nd := pm.nodup_iff.mpr ndk
        refine (pw.and nd).imp fun {x y} h => ?_
        have e1 : ∀ z : Int, cd [z] = z := fun z => by
          show z * 2000 ^ 0 + 0 = z
          omega
        rw [e1, e1]
        exact Int.lt_iff_le_and_ne.mpr h
      have nm := norm_of (items := items) (L := ss.map fun c => [c]) hl srt fun it hit => by
        obtain ⟨_, _, l1, _⟩ := fit.it it hit
        obtain ⟨c, ec⟩ : ∃ c, it.1 = [c] := by
          match hk : it.1, l1 with
          | [y], _ => exact ⟨y, rfl⟩
        rw [ec]
        exact List.mem_map.mpr ⟨c, pm.mem_iff.mpr ((mk c).mpr ⟨it, hit, ec⟩), rfl⟩
      refine ⟨p, rfl, ⟨_, SqL.of hp1⟩, fun M hM => lc_filtR (n := (ss.map V.int).length) walk_list (fun i H ys => Its K H ys ((((ss.take i).map fun c => [c]).filter fun k => decide (accF items k ≠ (0, 1))).map fun k => (k, accF items k))) (fun i => decide (accF items [ss.getD i 0] ≠ (0, 1))) hM (by rw [List.length_map]; omega) (fun i H H' ys s h => h.same s) (fun i H ys zs o hp h => h.updO (notT_lst hp)) (fun H => .nil) (fun H2 s2 => s2.seq (SqL.of hp1)) (fun i x H2 H3 hi s2 y => ?_) (gm_name 2) fun H2 ys s2 h2 r2 => ?_⟩
      · obtain ⟨rfl, hx⟩ := y
        rw [List.length_map] at hi
        have ei : ss[i]? = some (ss.getD i 0) := by rw [List.getD_eq_getElem?_getD, List.getElem?_eq_getElem hi]; rfl
        obtain rfl : x = .int (ss.getD i 0) := by
          have hx : (ss.map V.int)[i]? = some x := hx
          rw [List.getElem?_map, ei] at hx
          exact (Option.some.inj hx).symm
        have et : ss.take (i + 1) = ss.take i ++ [ss.getD i 0] := by
          obtain ⟨hk, e⟩ := List.getElem?_eq_some_iff.mp ei
          rw [← List.take_append_getElem hk, e]
        have hc : ss.getD i 0 ∈ ks := pm.mem_iff.mp (List.mem_of_getElem? ei)
        generalize ss.getD i 0 = c at *
        obtain ⟨it, hit, ec⟩ := (mk c).mp hc
        obtain ⟨u, hv, pu⟩ := sd1.val it hit
        rw [ec] at hv pu
        have hv : valV kvs (Sum.inl c : L2.Key) = some (.ref u) := hv
        refine ⟨Same.refl _, rfl, fun Qt hq => ?_, fun pf H4 ys h => ?_, fun pt H4 s4 Q2 hq => ?_⟩
        · walk_at "rs"
          have hd := DGet.k (k := (Sum.inl c : L2.Key)) (s2 _ _ hG1)
          rw [hv] at hd
          refine ⟨_, hd, _, _, dp_pair (Same.seqT s2 pu), dp_pair (T.s_ZERO _), rfl, rfl, _, rfl, ?_⟩
          rw [eqv_pair]
          have e : (!(decide ((accF items [c]).1 = 0) && decide ((accF items [c]).2 = 1))) = decide (accF items [c] ≠ (0, 1)) := by
            by_cases z : accF items [c] = (0, 1)
            · rw [z]; rfl
            · rw [decide_eq_true (p := accF items [c] ≠ (0, 1)) z]
              by_cases z1 : (accF items [c]).1 = 0
              · rw [decide_eq_false fun z2 => z (Prod.ext z1 z2), Bool.and_false]; rfl
              · rw [decide_eq_false z1]; rfl
          rw [e]
          exact hq _ (Same.refl _)
        · rw [et, List.map_append, List.filter_append, List.map_append]
          simp only [List.map_cons, List.map_nil, List.filter_cons, pf, List.filter_nil]
          simpa using h
        · walk_at "rs"
          have hd := DGet.k (k := (Sum.inl c : L2.Key)) (s4 _ _ (s2 _ _ hG1))
          rw [hv] at hd
          refine ⟨_, hd, by decide, fun q5 H5 s5 n5 t5 => hq _ H5 s5 fun ys h => ?_⟩
          rw [et, List.map_append, List.filter_append, List.map_append]
          refine h.app ?_
          simp only [List.map_cons, List.map_nil, List.filter_cons, pt, List.filter_nil, if_true]
          exact .cons (.inl (.inl t5)) (Same.seqT (Same.trans s2 (Same.trans s4 s5)) pu) .nil
      · rw [List.length_map, List.take_length] at r2
        refine ⟨M, rfl, ys, SqL.of h2, fun t H3 s3 t0 t1 => k t ys _ H3 (Same.trans s1 (Same.trans sG (Same.trans s2 s3))) (.inl (.inl t1)) (r2.same s3) nm ?_⟩
        rw [List.length_map]
        exact Nat.lt_of_le_of_lt (List.length_filter_le _ _) (by rw [List.length_map]; omega)
end
end LK

set_option Elab.async false
set_option linter.all false
set_option maxRecDepth 100000
namespace LK
open PySem PySem.Spec PyProof.Rows L2
local macro_rules | `(tactic| walk_at "rs") => `(tactic| simp only [cxK, cxNK, tCallZ, tAsg, tOp, rI0, rS0, rB0, rI, rU, tUn, rEq, rNe, rIxL, rIxT, rIxS, rSetL, rSlLU, rSlS, rSlU, rCatL, rCatU, rRepL, rIn, tVar, tC, gName, gSub, tIfS, tTest, tB, tAnd, tOr, tNot, tNotV, tAndV, tOrV, tIf, tCall, tCons, tNil, tCB, tDrop, tRet, tRetN, tNext, tLstU, tTupU, tM0, tM1, tPar, tPar3, tAug, ipI, tBM, tBM0, rAppend, rPop, tBreak, sDPut, tDGet, tDGet2, tCont, tChain, tSl, tPart, tNoPart, L2.start, List.map, List.length_cons, List.length_nil, List.replicate, List.cons_append, List.nil_append, List.append_nil, List.getElem?_cons_zero, List.getElem?_cons_succ, List.set_cons_zero, List.set_cons_succ, Option.some.injEq, V.int.injEq, V.ref.injEq, V.str.injEq, V.bl.injEq, exists_eq_left', exists_eq_left, exists_and_left, decide_eq_true_eq, List.cons.injEq, and_true, true_and, scal, Bool.not_eq_true', decide_eq_false_iff_not, Nat.zero_add, Nat.reduceAdd, Nat.reduceSub, reduceCtorEq, false_and, exists_false, false_or, or_false, CPow, CPowW, CMul, CDiv, Int.reduceToNat, ↓reduceIte, wipe, sw, rv3, tListKeys, tDIn, tDNotIn, List.nil_append, List.singleton_append])
local macro_rules | `(tactic| walk_at "st") => `(tactic| (refine seq_op fun N hN => ?_; walk_at "rs"))
local macro_rules | `(tactic| walk_at "sd") => `(tactic| first | assumption | decide | omega)
local macro_rules | `(tactic| walk_at "rd") => `(tactic| repeat (first
  | refine ⟨_, SqL.of (by assumption), ?_⟩ | refine ⟨_, SqL.of upd_same, ?_⟩ | refine ⟨_, .inl (SqL.of (by assumption)), ?_⟩ | refine ⟨_, (by assumption : _ = some (HO.lst _)), ?_⟩ | refine ⟨_, upd_same, ?_⟩
  | refine ⟨_, rfl, ?_⟩ | refine And.intro (by walk_at "sd") ?_))

theorem inl_inj : ∀ {l m : List Int}, l.map (Sum.inl : Int → L2.Key) = m.map Sum.inl → l = m
  | [], [], _ => rfl
  | [], _ :: _, e => by cases e
  | _ :: _, [], e => by cases e
  | x :: l, y :: m, e => by
    injection e with e1 e2
    injection e1 with e1
    rw [e1, inl_inj e2]
theorem kV_inl (k : List Int) : (k.map (Sum.inl : Int → L2.Key)).map kV = k.map V.int := by rw [List.map_map]; rfl
theorem cd_inj {x y x' y' : Int} (b : TS.Bd 2000 [x, y]) (b' : TS.Bd 2000 [x', y']) (e : cd [x, y] = cd [x', y']) : [x, y] = [x', y'] := by
  have e1 : ∀ a b : Int, cd [a, b] = a * 2000 + b := fun a b => by
    show a * 2000 ^ 1 + (b * 2000 ^ 0 + 0) = _
    omega
  rw [e1, e1] at e
  have h1 := b y (by simp)
  have h2 := b' y' (by simp)
  have : x = x' := by omega
  have : y = y' := by omega
  rw [‹x = x'›, ‹y = y'›]
section
variable {P : Program} {w : World} {K : PySem.W.Frag} {mg : Str → Option Value} {base : Heap}
theorem ok_normal_triples (T : Txt w K mg) : FnOk P w K mg base CX0 5 T.a_normal_triples T.d_normal_triples ["triples"] (sp_norm K 2) := by
  refine T.F_normal_triples.ok sc_normal_triples (fun vs H Q E h => ?_) (fun cdv A outer s H vs Q E hr h => ?_)
  · obtain ⟨a, xs, items, rfl, _⟩ := h
    rfl
  · obtain ⟨a, xs, items, rfl, ha, hi, fit, k⟩ := h
    have hr_plus : Room 4 _ := hr
    have G_plus := ok_plus (P := P) (base := base) T
    have hu1 : (A.deeper (envOfC "normal_triples" (defScope s_normal_triples) s.heap.objs.size T.a_normal_triples cdv)).units + 1 < cLine := Nat.lt_of_le_of_lt (Nat.add_le_add_left (by decide : 1 ≤ 64) _) hr.units
    have lx := hi.len
    refine ⟨_, (pss_cons (ps_set (i := 1) sc_normal_triples.nd rfl (Or.inr rfl) pe_dnewT)
      (pss_cons (ps_for PassesOwn.never rfl (pi_lt (pv 0)) (pg_tup rfl (pgs_cons (pg_name (i := 2) sc_normal_triples.nd rfl (Or.inl rfl)) (pgs_cons (pg_name (i := 3) sc_normal_triples.nd rfl (Or.inl rfl)) (pgs_cons (pg_name (i := 4) sc_normal_triples.nd rfl (Or.inl rfl)) pgs_nil)))) (pss_one (ps_dput hu1 (pv 1) (pe_tupU (pa_cons (pv 2) (pa_cons (pv 3) pa_nil))) (pe_call G_plus hr_plus (by rfl) T.m_plus T.F_plus.kp T.B_plus .nil pass0 (pa_cons (pe_dget2 hu1 (pv 1) (pe_tupU (pa_cons (pv 2) (pa_cons (pv 3) pa_nil))) (pe_glob (v := .ref T.a_ZERO) (by rfl) T.m_ZERO rfl) ⟨rfl, rfl, rfl, rfl⟩) (pa_cons (pv 4) pa_nil))) rfl)))
      (pss_one (ps_ret (pe_callTy call_tupleN (by rfl) T.n_tuple (by decide +kernel) (pa_cons (pe_lc (own := [("pair", 5)]) (g := gName 5) (tt := _) rfl sc_normal_triples.nd (pi_list (pe_callB (call_sortedDT rfl) (by rfl) T.n_sorted (by decide +kernel) (pa_cons (pv 1) pa_nil))) (blkOk_by (own := [("pair", 5)]) (N := N_normal_triples) (sc := defScope s_normal_triples) (by decide +kernel)) (fun _ _ _ _ _ => pg_name (i := 5) sc_normal_triples.nd rfl (Or.inl rfl)) (fun _ _ _ _ _ => pts_one (pt_cmpR (op_neDK (K := K) rfl hr.units) (pe_dget hu1 (pv 1) (pv 5) (fun _ _ => rfl)) (pe_glob (v := .ref T.a_ZERO) (by rfl) T.m_ZERO rfl) (nomark _))) (fun _ _ _ _ _ => (pe_op (op_catUK (K := K) rfl) (pv 5) (pe_tupU (pa_cons (pe_dget hu1 (pv 1) (pv 5) (fun _ _ => rfl)) pa_nil))))) pa_nil)))))), ?_⟩
    refine seq_op fun N hN => ?_
    walk_at "rs"
    refine fun D hD => hN _ _ ?_
    clear hN N
    have s0 : Same H (L2.upd H D (.dT [])) := same_upd hD
    refine cut_seq (fun σ G => ∃ (x2 x3 x4 : Option V) (kvs : List (List L2.Key × V)), σ = [some (.ref a), some (.ref D), x2, x3, x4, none] ∧ Same H G ∧ G D = some (.dT kvs) ∧ SumD (fun k => k.map (Sum.inl : Int → L2.Key)) 2 K G kvs items) (fun N hN => ?_) ?_
    · refine for_lt (K := K) (a := a) (xs := xs) (fun Q q => ⟨_, rfl, q⟩) ha (fun i σ G => ∃ (x2 x3 x4 : Option V) (kvs : List (List L2.Key × V)), σ = [some (.ref a), some (.ref D), x2, x3, x4, none] ∧ Same H G ∧ G D = some (.dT kvs) ∧ SumD (fun k => k.map (Sum.inl : Int → L2.Key)) 2 K G kvs (items.take i)) ⟨_, _, _, [], rfl, s0, upd_same, ⟨?_, ?_, ?_, ?_, ?_⟩⟩ (fun i σ G ⟨_, _, _, _, _, s1, _⟩ => s1) ?_ ?_
      · intro k k' h1 h2 e
        exact inl_inj e
      · intro it hit; simp at hit
      · simp
      · intro x hx; simp at hx
      · intro it hit; simp at hit
      · rintro i x σ G hx ⟨x2, x3, x4, kvs, rfl, s1, hG, sd⟩
        obtain ⟨p, u, ks, f, ex, ee, h1, h2⟩ := hi.get (n := i) (by rw [← lx]; exact (List.getElem?_eq_some_iff.mp hx).1)
        obtain rfl : x = .ref p := by rw [ex] at hx; exact (Option.some.inj hx).symm
        obtain ⟨lf, wf, ld, bd⟩ := fit.it _ (List.mem_of_getElem? ee)
        dsimp only at lf wf ld bd
        obtain ⟨c, d, rfl⟩ : ∃ c d, ks = [c, d] := by
          match ks, ld with
          | [c, d], _ => exact ⟨c, d, rfl⟩
        refine g3_at (Same.seqT s1 h1) ?_
        walk_at "rs"
        have hl : ∀ it ∈ items.take i, low it.2 := fun it hit => (fit.it it (List.mem_of_mem_take hit)).1
        obtain ⟨la, _, wa⟩ := accF_spec hl [c, d]
        have wb : wt (accF (items.take i) [c, d]) ≤ 3900 := Nat.le_trans wa (Nat.le_trans (wtS_take items i [c, d]) (fit.wt [c, d]))
        have es : items.take (i + 1) = items.take i ++ [([c, d], f)] := by
          obtain ⟨hk, e⟩ := List.getElem?_eq_some_iff.mp ee
          rw [← List.take_append_getElem hk, e]
        have kl : kvs.length < sizeLine := by
          have := nodup_len sd.nd (S := items.map fun it => it.1.map (Sum.inl : Int → L2.Key)) fun x hx => by
            obtain ⟨it, hit, e⟩ := sd.key x hx
            exact List.mem_map.mpr ⟨it, List.mem_of_mem_take hit, e.symm⟩
          rw [List.length_map, List.length_map] at this
          exact Nat.lt_of_le_of_lt (Nat.le_trans this fit.len) (by decide)
        refine ⟨.inr ⟨kvs, .inl hG⟩, by decide, fun p1 G1 s2 n1 t1 => ⟨_, DGet.t (k := [Sum.inl c, Sum.inl d]) (s2 _ _ hG) t1, ?_⟩⟩
        have hG1 := s2 _ _ hG
        have pz : ∃ v, (valV kvs ([Sum.inl c, Sum.inl d] : List L2.Key)).getD (V.ref T.a_ZERO) = .ref v ∧ Pr K G1 v (accF (items.take i) [c, d]).1 (accF (items.take i) [c, d]).2 := by
          rcases sd.get (k := [c, d]) rfl with ⟨v, hv, pv⟩ | ⟨hv, ez⟩
          · exact ⟨v, by rw [show valV kvs ([Sum.inl c, Sum.inl d] : List L2.Key) = some (.ref v) from hv]; rfl, Same.seqT s2 pv⟩
          · exact ⟨_, by rw [show valV kvs ([Sum.inl c, Sum.inl d] : List L2.Key) = none from hv]; rfl, by rw [ez]; exact T.s_ZERO G1⟩
        obtain ⟨v, ev, pv⟩ := pz
        rw [ev]
        refine plus_at T pv (Same.seqT (Same.trans s1 s2) h2) la lf (by omega) (by omega) fun t G2 s3 t0 t2 => ⟨by decide, fun p2 G3 s4 n2 t3 => ?_⟩
        have hG3 := s4 _ _ (s3 _ _ hG1)
        have s13 := Same.trans s2 (Same.trans s3 s4)
        have sp := sd.put (it := ([c, d], f)) rfl (H' := L2.upd G3 D (.dT (putK kvs [Sum.inl c, Sum.inl d] (.ref t)))) (t := t) (fun u p q h => seqT_updO (notT_dT hG3) (Same.seqT s13 h)) (seqT_updO (notT_dT hG3) (.inl (.inl (s4 _ _ t2))))
        refine ⟨_, DPut.t (k := [Sum.inl c, Sum.inl d]) hG3 t3 kl, _, _, _, ⟨rfl, rfl, rfl⟩, ?_, _, upd_same, ?_⟩
        · intro b o e
          have ne : b ≠ D := fun z => by rw [z, hD] at e; cases e
          rw [upd_ne ne]
          exact s13 _ _ (s1 _ _ e)
        · rw [es]
          exact sp
      · rintro σ G ⟨x2, x3, x4, kvs, rfl, s1, hG, sd⟩
        rw [lx, List.take_length] at sd
        exact hN _ _ ⟨_, _, _, _, rfl, s1, hG, sd⟩
    · rintro σ G ⟨x2, x3, x4, kvs, rfl, s1, hG, sd⟩
      have hl : ∀ it ∈ items, low it.2 := fun it hit => (fit.it it hit).1
      obtain ⟨S, sS, mS⟩ := fit.few
      have ksE : ∃ ks : List (List Int), kvs.map (·.1) = ks.map (fun k => k.map Sum.inl) ∧ ∀ k ∈ ks, ∃ it ∈ items, it.1 = k := by
        have : ∀ l : List (List L2.Key), (∀ x ∈ l, ∃ it ∈ items, x = it.1.map (Sum.inl : Int → L2.Key)) → ∃ ks : List (List Int), l = ks.map (fun k => k.map Sum.inl) ∧ ∀ k ∈ ks, ∃ it ∈ items, it.1 = k := by
          intro l
          induction l with
          | nil => intro _; exact ⟨[], rfl, fun k hk => by cases hk⟩
          | cons x l ih =>
            intro h
            obtain ⟨it, hit, e⟩ := h x List.mem_cons_self
            obtain ⟨ks, e2, e3⟩ := ih fun y hy => h y (List.mem_cons_of_mem _ hy)
            refine ⟨it.1 :: ks, by rw [List.map_cons, e, e2], fun k hk => ?_⟩
            rcases List.mem_cons.mp hk with rfl | hk
            · exact ⟨it, hit, rfl⟩
            · exact e3 k hk
        exact this _ sd.key
      obtain ⟨ks, eks, mk1⟩ := ksE
      have ndk : ks.Nodup := by
        have := sd.nd
        rw [eks] at this
        exact (List.pairwise_map.mp this).imp fun h e => h (by rw [e])
      have mk : ∀ c, c ∈ ks ↔ ∃ it ∈ items, it.1 = c := fun c => by
        refine ⟨mk1 c, ?_⟩
        rintro ⟨it, hit, rfl⟩
        obtain ⟨u, h1, _⟩ := sd.val it hit
        have := valV_mem h1
        rw [eks] at this
        obtain ⟨y, hy, e2⟩ := List.mem_map.mp this
        rw [← inl_inj e2]; exact hy
      have lk : ks.length < 64 := by
        have := nodup_len (S := S) ndk fun x hx => by
          obtain ⟨it, hit, e⟩ := (mk x).mp hx
          rw [← e]; exact mS it hit
        omega
      have kb : ∀ k ∈ ks, k.length = 2 ∧ TS.Bd 2000 k := fun k hk => by
        obtain ⟨it, hit, e⟩ := (mk k).mp hk
        obtain ⟨_, _, l1, l2⟩ := fit.it it hit
        rw [← e]; exact ⟨l1, l2⟩
      walk_at "rs"
      refine ⟨_, rfl, D, rfl, kvs, .inl hG, ks, eks, lk, 2, by decide, 2000, kb, fun ss p pm hs pw p0 => ?_⟩
      have sG : Same G (L2.upd G p (.lst (ss.map fun q => V.ref q.1))) := same_upd p0
      have hp1 : (L2.upd G p (.lst (ss.map fun q => V.ref q.1))) p = some (.lst (ss.map fun q => V.ref q.1)) := upd_same
      generalize L2.upd G p (.lst (ss.map fun q => V.ref q.1)) = G1 at *
      have sd1 : SumD (fun k => k.map (Sum.inl : Int → L2.Key)) 2 K G1 kvs items := sd.upd fun u p q h => Same.seqT sG h
      have hG1 := sG _ _ hG
      have lss : ss.length = ks.length := by rw [← pm.length_eq, List.length_map]
      have srt : (ss.map (·.2)).Pairwise fun a b => cd a < cd b := by
        have nd := pm.nodup_iff.mpr ndk
        have pw2 : (ss.map (·.2)).Pairwise fun a b => cd a ≤ cd b := List.pairwise_map.mpr pw
        refine (pw2.and nd).imp_of_mem fun {x y} hx hy h => ?_
        refine Int.lt_iff_le_and_ne.mpr ⟨h.1, fun e => h.2 ?_⟩
        obtain ⟨l1, b1⟩ := kb x (pm.mem_iff.mp hx)
        obtain ⟨l2, b2⟩ := kb y (pm.mem_iff.mp hy)
        match x, y, l1, l2, b1, b2, e with
        | [_, _], [_, _], _, _, b1, b2, e => exact cd_inj b1 b2 e
      have nm := norm_of (items := items) (L := ss.map (·.2)) hl srt fun it hit => pm.mem_iff.mpr ((mk it.1).mpr ⟨it, hit, rfl⟩)
      refine ⟨p, rfl, ⟨_, SqL.of hp1⟩, fun M hM => lc_filtR (n := (ss.map fun q => V.ref q.1).length) walk_list (fun i H ys => Its K H ys ((((ss.map fun q : Addr × List Int => q.2).take i).filter fun k => decide (accF items k ≠ (0, 1))).map fun k => (k, accF items k))) (fun i => decide (accF items ((ss.map fun q : Addr × List Int => q.2).getD i []) ≠ (0, 1))) hM (by rw [List.length_map]; omega) (fun i H H' ys s h => h.same s) (fun i H ys zs o hp h => h.updO (notT_lst hp)) (fun H => .nil) (fun H2 s2 => s2.seq (SqL.of hp1)) (fun i x H2 H3 hi s2 y => ?_) (gm_name 5) fun H2 ys s2 h2 r2 => ?_⟩
      · obtain ⟨rfl, hx⟩ := y
        rw [List.length_map] at hi
        have eq : ss[i]? = some ss[i] := List.getElem?_eq_getElem hi
        have ei : (ss.map (·.2))[i]? = some ss[i].2 := by rw [List.getElem?_map, eq]; rfl
        obtain rfl : x = .ref ss[i].1 := by
          have hx : (ss.map fun q => V.ref q.1)[i]? = some x := hx
          rw [List.getElem?_map, eq] at hx
          exact (Option.some.inj hx).symm
        have et : (ss.map (·.2)).take (i + 1) = (ss.map (·.2)).take i ++ [ss[i].2] := by
          obtain ⟨hk, e⟩ := List.getElem?_eq_some_iff.mp ei
          rw [← List.take_append_getElem hk, e]
        have eg : (ss.map (·.2)).getD i [] = ss[i].2 := by rw [List.getD_eq_getElem?_getD, ei]; rfl
        rw [eg]
        have hc : ss[i].2 ∈ ks := pm.mem_iff.mp (List.mem_of_getElem? ei)
        have hq1 := hs ss[i] (List.getElem_mem hi)
        generalize ss[i] = q at *
        obtain ⟨qa, c⟩ := q
        dsimp only at *
        obtain ⟨it, hit, ec⟩ := (mk c).mp hc
        obtain ⟨u, hv, pu⟩ := sd1.val it hit
        rw [ec] at hv pu
        have hv : valV kvs (c.map (Sum.inl : Int → L2.Key)) = some (.ref u) := hv
        have hqk : G1 qa = some (.tup ((c.map (Sum.inl : Int → L2.Key)).map kV)) := by rw [kV_inl]; exact sG _ _ hq1
        refine ⟨Same.refl _, rfl, fun Qt hq => ?_, fun pf H4 ys h => ?_, fun pt H4 s4 Q2 hq => ?_⟩
        · walk_at "rs"
          have hd := DGet.t (k := c.map (Sum.inl : Int → L2.Key)) (s2 _ _ hG1) (s2 _ _ hqk)
          rw [hv] at hd
          refine ⟨_, hd, _, _, dp_pair (Same.seqT s2 pu), dp_pair (T.s_ZERO _), rfl, rfl, _, rfl, ?_⟩
          rw [eqv_pair]
          have e : (!(decide ((accF items c).1 = 0) && decide ((accF items c).2 = 1))) = decide (accF items c ≠ (0, 1)) := by
            by_cases z : accF items c = (0, 1)
            · rw [z]; rfl
            · rw [decide_eq_true (p := accF items c ≠ (0, 1)) z]
              by_cases z1 : (accF items c).1 = 0
              · rw [decide_eq_false fun z2 => z (Prod.ext z1 z2), Bool.and_false]; rfl
              · rw [decide_eq_false z1]; rfl
          rw [e]
          exact hq _ (Same.refl _)
        · rw [et, List.filter_append, List.map_append]
          simp only [List.map_nil, List.filter_cons, pf, List.filter_nil]
          simpa using h
        · walk_at "rs"
          have s24 := Same.trans s2 s4
          have hd := DGet.t (k := c.map (Sum.inl : Int → L2.Key)) (s24 _ _ hG1) (s24 _ _ hqk)
          rw [hv] at hd
          refine ⟨_, hd, by decide, fun q5 H5 s5 n5 t5 => ⟨_, .inl (.inl (s5 _ _ (s24 _ _ (sG _ _ hq1)))), _, .inl (.inl t5), ?_, fun q6 H6 s6 hq6 => hq _ H6 (Same.trans s5 s6) fun ys h => ?_⟩⟩
          · rw [List.length_map, (kb c hc).1]
            exact (show 2 + 1 ≤ sizeLine by decide)
          · rw [et, List.filter_append, List.map_append]
            refine h.app ?_
            simp only [List.map_cons, List.map_nil, List.filter_cons, pt, List.filter_nil, if_true]
            exact .cons hq6 (Same.seqT (Same.trans s24 (Same.trans s5 s6)) pu) .nil
      · rw [List.length_map, show ss.length = (ss.map (·.2)).length from (List.length_map ..).symm, List.take_length] at r2
        refine ⟨M, rfl, ys, SqL.of h2, fun t H3 s3 t0 t1 => k t ys _ H3 (Same.trans s1 (Same.trans sG (Same.trans s2 s3))) (.inl (.inl t1)) (r2.same s3) nm ?_⟩
        rw [List.length_map]
        exact Nat.lt_of_le_of_lt (List.length_filter_le _ _) (by rw [List.length_map]; omega)
end
end LK

set_option Elab.async false
set_option linter.all false
set_option maxRecDepth 100000
namespace LK
open PySem PySem.Spec PyProof.Rows L2
local macro_rules | `(tactic| walk_at "rs") => `(tactic| simp only [cxK, cxNK, tCallZ, tAsg, tOp, rI0, rS0, rB0, rI, rU, tUn, rEq, rNe, rIxL, rIxT, rIxS, rSetL, rSlLU, rSlS, rSlU, rCatL, rCatU, rRepL, rIn, tVar, tC, gName, gSub, tIfS, tTest, tB, tAnd, tOr, tNot, tNotV, tAndV, tOrV, tIf, tCall, tCons, tNil, tCB, tDrop, tRet, tRetN, tNext, tLstU, tTupU, tM0, tM1, tPar, tPar3, tAug, ipI, tBM, tBM0, rAppend, rPop, tBreak, sDPut, tDGet, tDGet2, tCont, tChain, tSl, tPart, tNoPart, L2.start, List.map, List.length_cons, List.length_nil, List.replicate, List.cons_append, List.nil_append, List.append_nil, List.getElem?_cons_zero, List.getElem?_cons_succ, List.set_cons_zero, List.set_cons_succ, Option.some.injEq, V.int.injEq, V.ref.injEq, V.str.injEq, V.bl.injEq, exists_eq_left', exists_eq_left, exists_and_left, decide_eq_true_eq, List.cons.injEq, and_true, true_and, scal, Bool.not_eq_true', decide_eq_false_iff_not, Nat.zero_add, Nat.reduceAdd, Nat.reduceSub, reduceCtorEq, false_and, exists_false, false_or, or_false, CPow, CPowW, CMul, CDiv, Int.reduceToNat, ↓reduceIte, wipe, sw, rv3, tListKeys, tDIn, tDNotIn, List.nil_append, List.singleton_append])
local macro_rules | `(tactic| walk_at "st") => `(tactic| (refine seq_op fun N hN => ?_; walk_at "rs"))
local macro_rules | `(tactic| walk_at "sd") => `(tactic| first | assumption | decide | omega)
local macro_rules | `(tactic| walk_at "rd") => `(tactic| repeat (first
  | refine ⟨_, SqL.of (by assumption), ?_⟩ | refine ⟨_, SqL.of upd_same, ?_⟩ | refine ⟨_, .inl (SqL.of (by assumption)), ?_⟩ | refine ⟨_, (by assumption : _ = some (HO.lst _)), ?_⟩ | refine ⟨_, upd_same, ?_⟩
  | refine ⟨_, rfl, ?_⟩ | refine And.intro (by walk_at "sd") ?_))

theorem lc_accD {J : L2.It} {n : Nat} {G : Hp → Prop} {Y : Nat → Hp → V → Hp → Prop} (w : Walk J n G Y) {g : TG} {te : TE} {vs : List Nat} {σ : L2.St} {H1 : Hp} {D : Addr} {Qd : Hp → Prop} (R : Nat → Hp → List V → Prop) (hD : H1 D = none) (hn : n ≤ 1000000)
    (mono : ∀ i H H' ys, Same H H' → R i H ys → R i H' ys) (up : ∀ i H ys zs o, H D = some (.lst zs) → R i H ys → R i (L2.upd H D o) ys) (r0 : R 0 (L2.upd H1 D (.lst [])) []) (hG : ∀ H, Same H1 H → G H)
    (hs : ∀ i x H H', i < n → Same H1 H → H D ≠ none → Y i H x H' → g x (wipe σ vs) H' fun σ2 H2 => Same H H2 ∧ wipe σ2 vs = wipe σ vs ∧ ∀ Q2 : V → Hp → Prop, (∀ v H3, Same H2 H3 → (∀ ys, R i H3 ys → R (i + 1) H3 (ys ++ [v])) → Q2 v H3) → te σ2 H2 Q2)
    (gm : ∀ x σ0 H0 Q0 Q1, (∀ σ2 H2, Q0 σ2 H2 → Q1 σ2 H2) → g x σ0 H0 Q0 → g x σ0 H0 Q1)
    (hq : ∀ H' ys, Same H1 H' → H' D = some (.lst ys) → ys.length = n → R n H' ys → Qd H') :
    ∃ W : Nat → Nat → Hp → Prop, (∃ m, W 0 m (L2.upd H1 D (.lst []))) ∧ ∀ i m H, W i m H →
      (J.stop i H ∧ Qd H) ∨ (J.go i H ∧ ∃ Nx : Hp → Prop, (∀ H', Nx H' → ∃ m', m' < m ∧ W (i + 1) m' H') ∧ ∀ x H', J.yld i H x H' → g x (wipe σ vs) H' fun σ2 H2 => wipe σ2 vs = wipe σ vs ∧ tYes σ2 H2 fun b H3 =>
        if b = true then te σ2 H3 fun y H4 => ∃ acc, H4 D = some (.lst acc) ∧ acc.length < sizeLine ∧ Nx (L2.upd H4 D (.lst (acc ++ [y]))) else Nx H3) := by
  have keep : ∀ {H : Hp} {o : HO}, Same H1 H → Same H1 (L2.upd H D o) := fun s a u e => by
    rw [upd_ne (ne_of_none e hD)]; exact s _ _ e
  refine lc_it w (fun i H => Same H1 H ∧ ∃ ys, H D = some (.lst ys) ∧ ys.length = i ∧ R i H ys) ⟨keep (Same.refl _), [], upd_same, rfl, r0⟩ (fun i H _ h => hG H h.1) (fun i x H H' hi ⟨s1, ys, h1, hl, hr⟩ hY => ?_) (fun H ⟨s1, ys, h1, hl, hr⟩ => hq H ys s1 h1 hl hr)
  refine gm _ _ _ _ _ (fun σ2 H2 ⟨s2, e2, kq⟩ => ⟨e2, ?_⟩) (hs i x H H' hi s1 (by rw [h1]; exact Option.some_ne_none _) hY)
  simp only [tYes, eq_self, ite_true]
  refine kq _ fun v H3 s3 st => ?_
  have s13 := Same.trans s2 s3
  have hD3 := s13 _ _ h1
  refine ⟨ys, hD3, ?_, keep (Same.trans s1 s13), ys ++ [v], upd_same, by rw [List.length_append, hl]; rfl, up _ _ _ _ _ hD3 (st ys (mono _ _ _ _ s13 hr))⟩
  rw [hl]
  exact Nat.lt_of_lt_of_le (Nat.lt_of_lt_of_le hi hn) (by decide)
theorem lc_lt2 {K : PySem.W.Frag} {a : Addr} {xs : List V} {g : TG} {te tl : TE} {vs : List Nat} {σ : L2.St} {H1 : Hp} {Q : VK} (hv : ∀ Q : VK, Q (.ref a) H1 → tl σ H1 Q) (h : SqL K H1 a xs ∨ SqT K H1 a xs) (R : Nat → Hp → List V → Prop) (hn : xs.length ≤ 1000000)
    (mono : ∀ i H H' ys, Same H H' → R i H ys → R i H' ys) (up : ∀ D i H ys zs o, H D = some (.lst zs) → R i H ys → R i (L2.upd H D o) ys) (r0 : ∀ H, R 0 H [])
    (hs : ∀ i x H, i < xs.length → Same H1 H → xs[i]? = some x → g x (wipe σ vs) H fun σ2 H2 => Same H H2 ∧ wipe σ2 vs = wipe σ vs ∧ ∀ Q2 : VK, (∀ v H3, Same H2 H3 → (∀ ys, R i H3 ys → R (i + 1) H3 (ys ++ [v])) → Q2 v H3) → te σ2 H2 Q2)
    (gm : ∀ x σ0 H0 Q0 Q1, (∀ σ2 H2, Q0 σ2 H2 → Q1 σ2 H2) → g x σ0 H0 Q0 → g x σ0 H0 Q1)
    (hq : ∀ D H' ys, Same H1 H' → H1 D = none → H' D = some (.lst ys) → ys.length = xs.length → R xs.length H' ys → Q (.ref D) H') : tLc (iLT K tl) g tYes te vs σ H1 Q := by
  have core : ∀ {J : L2.It} {G : Hp → Prop} (w : Walk J xs.length G (YAt xs)) (hG : ∀ H, Same H1 H → G H) (D : Addr) (hD : H1 D = none), _ := fun w hG D hD => lc_accD w (g := g) (te := te) (vs := vs) (σ := σ) (D := D) (Qd := fun H => Q (.ref D) H) R hD hn mono (up D) (r0 _) hG (fun i x H H' hi s n ⟨e, hx⟩ => by
    subst e
    exact hs i x _ hi s hx) gm fun H' ys s e l p => hq D H' ys s hD e l p
  rcases h with h | h
  · exact .inl (hv _ ⟨a, rfl, ⟨xs, h⟩, fun D hD => core walk_list (fun H s => s.seq h) D hD⟩)
  · exact .inr (hv _ ⟨a, rfl, ⟨xs, h⟩, fun D hD => core walk_tup (fun H s => Same.seqT s h) D hD⟩)
end LK

set_option Elab.async false
set_option linter.all false
set_option maxRecDepth 100000
namespace LK
open PySem PySem.Spec PyProof.Rows L2
local macro_rules | `(tactic| walk_at "rs") => `(tactic| simp only [cxK, cxNK, tCallZ, tAsg, tOp, rI0, rS0, rB0, rI, rU, tUn, rEq, rNe, rIxL, rIxT, rIxS, rSetL, rSlLU, rSlS, rSlU, rCatL, rCatU, rRepL, rIn, tVar, tC, gName, gSub, tIfS, tTest, tB, tAnd, tOr, tNot, tNotV, tAndV, tOrV, tIf, tCall, tCons, tNil, tCB, tDrop, tRet, tRetN, tNext, tLstU, tTupU, tM0, tM1, tPar, tPar3, tAug, ipI, tBM, tBM0, rAppend, rPop, tBreak, sDPut, tDGet, tDGet2, tCont, tChain, tSl, tPart, tNoPart, L2.start, List.map, List.length_cons, List.length_nil, List.replicate, List.cons_append, List.nil_append, List.append_nil, List.getElem?_cons_zero, List.getElem?_cons_succ, List.set_cons_zero, List.set_cons_succ, Option.some.injEq, V.int.injEq, V.ref.injEq, V.str.injEq, V.bl.injEq, exists_eq_left', exists_eq_left, exists_and_left, decide_eq_true_eq, List.cons.injEq, and_true, true_and, scal, Bool.not_eq_true', decide_eq_false_iff_not, Nat.zero_add, Nat.reduceAdd, Nat.reduceSub, reduceCtorEq, false_and, exists_false, false_or, or_false, CPow, CPowW, CMul, CDiv, Int.reduceToNat, ↓reduceIte, wipe, sw, rv3, tListKeys, tDIn, tDNotIn, List.nil_append, List.singleton_append])
local macro_rules | `(tactic| walk_at "st") => `(tactic| (refine seq_op fun N hN => ?_; walk_at "rs"))
local macro_rules | `(tactic| walk_at "sd") => `(tactic| first | assumption | decide | omega)
local macro_rules | `(tactic| walk_at "rd") => `(tactic| repeat (first
  | refine ⟨_, SqL.of (by assumption), ?_⟩ | refine ⟨_, SqL.of upd_same, ?_⟩ | refine ⟨_, .inl (SqL.of (by assumption)), ?_⟩ | refine ⟨_, (by assumption : _ = some (HO.lst _)), ?_⟩ | refine ⟨_, upd_same, ?_⟩
  | refine ⟨_, rfl, ?_⟩ | refine And.intro (by walk_at "sd") ?_))

theorem dep_tup (ds : List PyData) : dep (.tuple ds) = depAll ds + 1 := rfl
theorem dep_lst (ds : List PyData) : dep (.list ds) = depAll ds + 1 := rfl
theorem depAll_get : ∀ {ds : List PyData} {i : Nat} {d : PyData}, ds[i]? = some d → dep d ≤ depAll ds
  | [], _, _, e => by simp at e
  | a :: r, 0, _, e => by simp at e; subst e; exact Nat.le_max_left _ _
  | a :: r, i + 1, _, e => Nat.le_trans (depAll_get (ds := r) (i := i) (by simpa using e)) (Nat.le_max_right _ _)
theorem dpa_get4 {K : PySem.W.Frag} {H : Hp} : ∀ {vs : List V} {ds : List PyData} {i : Nat} {v : V}, DpAll K H vs ds → vs[i]? = some v → ∃ d, ds[i]? = some d ∧ Dp K H v d
  | _, _, _, _, .nil, e => by simp at e
  | _, _, 0, _, .cons r _, e => by simp at e; subst e; exact ⟨_, rfl, r⟩
  | _, _, i + 1, _, .cons _ t, e => by
    obtain ⟨d, h1, h2⟩ := dpa_get4 (i := i) t (by simpa using e)
    exact ⟨d, by simpa using h1, h2⟩
theorem dpa_len4 {K : PySem.W.Frag} {H : Hp} : ∀ {vs : List V} {ds : List PyData}, DpAll K H vs ds → vs.length = ds.length
  | _, _, .nil => rfl
  | _, _, .cons _ t => by simp [dpa_len4 t]
theorem ok_get4 : ∀ {ds : List PyData} {i : Nat} {d : PyData}, okAll ds = true → ds[i]? = some d → okD d = true
  | [], _, _, _, e => by simp at e
  | a :: r, 0, _, h, e => by
    simp at e; subst e
    unfold okAll at h; rw [Bool.and_eq_true] at h; exact h.1
  | a :: r, i + 1, _, h, e => by
    unfold okAll at h; rw [Bool.and_eq_true] at h
    exact ok_get4 (i := i) h.2 (by simpa using e)
theorem isTy_leaf {d : PyData} (h1 : ∀ ds, d ≠ .list ds) (h2 : ∀ ds, d ≠ .tuple ds) : isTy "list" d = false ∧ isTy "tuple" d = false := by
  cases d <;> simp [isTy] <;> first | exact absurd rfl (h1 _) | exact absurd rfl (h2 _)
theorem walk_zipT {K : PySem.W.Frag} {a b : Addr} {xs ys : List V} {n : Nat} (hx : xs.length = n) (hy : ys.length = n) : Walk (RZ.ItzT K a b) n (fun H => SqT K H a xs ∧ SqT K H b ys) (YPair (fun i => xs[i]?) (fun i => ys[i]?)) := by
  refine ⟨fun i _ hi q => ?_, fun _ q => ⟨xs, ys, q.1, q.2, by omega⟩, fun i H v H' _ q y => ?_⟩
  · have h1 : i < xs.length := by omega
    have h2 : i < ys.length := by omega
    exact ⟨xs, ys, xs[i], ys[i], q.1, q.2, by simp [h1], by simp [h2]⟩
  · obtain ⟨T, x, z, h1, h2, h3, h4, h5⟩ := y
    exact ⟨T, x, z, h1, h2, h3, h4 xs q.1, h5 ys q.2⟩
section
variable {P : Program} {w : World} {K : PySem.W.Frag} {mg : Str → Option Value} {base : Heap}
theorem like_step (T : Txt w K mg) (n : Nat) (ih : ∀ m, m + 1 = n → FnOk P w K mg base CX0 (m + 1) T.a__law_like T.d__law_like ["got", "due"] (sp__law_like K m)) : FnOk P w K mg base CX0 (n + 1) T.a__law_like T.d__law_like ["got", "due"] (sp__law_like K n) := by
  refine T.F__law_like.ok sc__law_like (fun vs H Q E h => ?_) (fun cdv A outer s H vs Q E hr h => ?_)
  · obtain ⟨v, u, d, rfl, _⟩ := h
    rfl
  · obtain ⟨v, u, d, rfl, hv, hu, hok, hdep, k⟩ := h
    have leaf : isTy "list" d = false ∧ isTy "tuple" d = false ∨ (∃ ds, (d = .list ds ∨ d = .tuple ds)) := by
      cases d <;> first | exact .inr ⟨_, .inl rfl⟩ | exact .inr ⟨_, .inr rfl⟩ | exact .inl ⟨rfl, rfl⟩
    rcases leaf with ⟨el, et⟩ | ⟨ds, hds⟩
    · refine ⟨_, (pss_cons (ps_if (pt_val (pe_callB call_isiDT (by rfl) T.n_isinstance (by decide +kernel) (pa_cons (pv 1) (pa_cons (pe_tupU (pa_cons (pe_bltn (v := .ty "list") (u := .type "list") (by rfl) T.n_list (by decide +kernel) rfl) (pa_cons (pe_bltn (v := .ty "tuple") (u := .type "tuple") (by rfl) T.n_tuple (by decide +kernel) rfl) pa_nil))) pa_nil)))) pss_never pss_nil) (pss_cons (ps_if (PW.pt (pw_or (pt_cmpR op_isN (pv 1) pe_non (nomark _)) (pw_or1 (pt_cmpR op_isN (pv 0) pe_non (nomark _))))) (pss_one (ps_ret (pe_and (pe_cmpR op_isN (pv 1) pe_non (nomark _)) (pe_one (pe_cmpR op_isN (pv 0) pe_non (nomark _)))))) pss_nil)
      (pss_cons (ps_if (PW.pt (pw_or (pt_val (pe_callB call_isiDT (by rfl) T.n_isinstance (by decide +kernel) (pa_cons (pv 0) (pa_cons (pe_tupU (pa_cons (pe_bltn (v := .ty "list") (u := .type "list") (by rfl) T.n_list (by decide +kernel) rfl) (pa_cons (pe_bltn (v := .ty "tuple") (u := .type "tuple") (by rfl) T.n_tuple (by decide +kernel) rfl) pa_nil))) pa_nil)))) (pw_or1 (pt_cmpR op_neB (pe_callB (call_isiDK (K := K) rfl) (by rfl) T.n_isinstance (by decide +kernel) (pa_cons (pv 0) (pa_cons (pe_bltn (v := .ty "bool") (u := .type "bool") (by rfl) T.n_bool (by decide +kernel) rfl) pa_nil))) (pe_callB (call_isiDK (K := K) rfl) (by rfl) T.n_isinstance (by decide +kernel) (pa_cons (pv 1) (pa_cons (pe_bltn (v := .ty "bool") (u := .type "bool") (by rfl) T.n_bool (by decide +kernel) rfl) pa_nil))) (nomark _))))) (pss_one (ps_ret pe_bl)) pss_nil)
      (pss_cons (ps_if (PW.pt (pw_or (pt_cmpR op_neB (pe_callB (call_isiDK (K := K) rfl) (by rfl) T.n_isinstance (by decide +kernel) (pa_cons (pv 0) (pa_cons (pe_bltn (v := .ty "str") (u := .type "str") (by rfl) T.n_str (by decide +kernel) rfl) pa_nil))) (pe_callB (call_isiDK (K := K) rfl) (by rfl) T.n_isinstance (by decide +kernel) (pa_cons (pv 1) (pa_cons (pe_bltn (v := .ty "str") (u := .type "str") (by rfl) T.n_str (by decide +kernel) rfl) pa_nil))) (nomark _)) (pw_or1 (pt_cmpR op_neB (pe_callB (call_isiDK (K := K) rfl) (by rfl) T.n_isinstance (by decide +kernel) (pa_cons (pv 0) (pa_cons (pe_bltn (v := .ty "int") (u := .type "int") (by rfl) T.n_int (by decide +kernel) rfl) pa_nil))) (pe_callB (call_isiDK (K := K) rfl) (by rfl) T.n_isinstance (by decide +kernel) (pa_cons (pv 1) (pa_cons (pe_bltn (v := .ty "int") (u := .type "int") (by rfl) T.n_int (by decide +kernel) rfl) pa_nil))) (nomark _))))) (pss_one (ps_ret pe_bl)) pss_nil)
      (pss_one (ps_ret (pe_cmpR op_eq (pv 0) (pv 1) (nomark _)))))))), ?_⟩
      refine seq_op fun N hN => ?_
      walk_at "rs"
      refine ⟨by decide, fun p H1 s1 h0 h1 => ⟨_, p, ⟨rfl, rfl⟩, h1, _, dp_same s1 hu, iteFF (by rw [el, et]; decide) (hN _ _ ?_)⟩⟩
      clear hN N h1
      have hv1 := dp_same s1 hv
      have hu1 := dp_same s1 hu
      have k1 := fun H' (s : Same H1 H') => k H' (Same.trans s1 s)
      refine seq_op fun N hN => ?_
      walk_at "rs"
      by_cases cn : d = .none
      · subst cn
        cases hu
        cases hv
        exact iteTT rfl (iteTT rfl (k1 H1 (Same.refl _)))
      · have vn : v ≠ .non := fun e => by subst e; cases hv; exact cn rfl
        have un : u ≠ .non := fun e => by subst e; cases hu; exact cn rfl
        refine iteFF un (iteFF vn (hN _ _ ?_))
        clear hN N
        refine seq_op fun N hN => ?_
        walk_at "rs"
        refine ⟨by decide, fun p2 H2 s2 h02 h12 => ⟨_, p2, ⟨rfl, rfl⟩, h12, _, dp_same s2 hv1, iteFF (by rw [el, et]; decide) ?_⟩⟩
        refine ⟨_, "bool", ⟨rfl, rfl⟩, _, dp_same s2 hv1, by simp, _, "bool", ⟨rfl, rfl⟩, _, dp_same s2 hu1, by simp, iteFF (by simp) (hN _ _ ?_)⟩
        clear hN N
        refine seq_op fun N hN => ?_
        walk_at "rs"
        refine ⟨_, "str", ⟨rfl, rfl⟩, _, dp_same s2 hv1, by simp, _, "str", ⟨rfl, rfl⟩, _, dp_same s2 hu1, by simp, iteFF (by simp) ?_⟩
        refine ⟨_, "int", ⟨rfl, rfl⟩, _, dp_same s2 hv1, by simp, _, "int", ⟨rfl, rfl⟩, _, dp_same s2 hu1, by simp, iteFF (by simp) (hN _ _ ?_)⟩
        clear hN N
        walk_at "rs"
        have kk := k1 H2 s2
        have fin : scal v u = true ∧ Q (.bl (decide (v = u))) H2 := by
          cases hv with
          | non => exact absurd rfl cn
          | bl b => cases hu; exact ⟨rfl, by rw [decide_eq_true rfl]; exact kk⟩
          | int b => cases hu; exact ⟨rfl, by rw [decide_eq_true rfl]; exact kk⟩
          | str b => cases hu; exact ⟨rfl, by rw [decide_eq_true rfl]; exact kk⟩
          | lst _ _ => simp [isTy] at el
          | tup _ _ => simp [isTy] at et
        exact fin
    · obtain ⟨m, rfl⟩ : ∃ m, n = m + 1 := by
        rcases hds with rfl | rfl
        · rw [dep_lst] at hdep; exact ⟨n - 1, by omega⟩
        · rw [dep_tup] at hdep; exact ⟨n - 1, by omega⟩
      have hr__law_like : Room (m + 1) _ := hr
      have G__law_like := ih m rfl
      have hdm : depAll ds ≤ m := by
        rcases hds with rfl | rfl
        · rw [dep_lst] at hdep; omega
        · rw [dep_tup] at hdep; omega
      refine ⟨_, (pss_cons (ps_if (pt_val (pe_callB call_isiDT (by rfl) T.n_isinstance (by decide +kernel) (pa_cons (pv 1) (pa_cons (pe_tupU (pa_cons (pe_bltn (v := .ty "list") (u := .type "list") (by rfl) T.n_list (by decide +kernel) rfl) (pa_cons (pe_bltn (v := .ty "tuple") (u := .type "tuple") (by rfl) T.n_tuple (by decide +kernel) rfl) pa_nil))) pa_nil)))) (pss_cons (ps_if (PW.pt (pw_or (pt_cmpR op_neB (pe_callB (call_isiDK (K := K) rfl) (by rfl) T.n_isinstance (by decide +kernel) (pa_cons (pv 0) (pa_cons (pe_bltn (v := .ty "list") (u := .type "list") (by rfl) T.n_list (by decide +kernel) rfl) pa_nil))) (pe_callB (call_isiDK (K := K) rfl) (by rfl) T.n_isinstance (by decide +kernel) (pa_cons (pv 1) (pa_cons (pe_bltn (v := .ty "list") (u := .type "list") (by rfl) T.n_list (by decide +kernel) rfl) pa_nil))) (nomark _)) (pw_or1 (pt_cmpR op_neB (pe_callB (call_isiDK (K := K) rfl) (by rfl) T.n_isinstance (by decide +kernel) (pa_cons (pv 0) (pa_cons (pe_bltn (v := .ty "tuple") (u := .type "tuple") (by rfl) T.n_tuple (by decide +kernel) rfl) pa_nil))) (pe_callB (call_isiDK (K := K) rfl) (by rfl) T.n_isinstance (by decide +kernel) (pa_cons (pv 1) (pa_cons (pe_bltn (v := .ty "tuple") (u := .type "tuple") (by rfl) T.n_tuple (by decide +kernel) rfl) pa_nil))) (nomark _))))) (pss_one (ps_ret pe_bl)) pss_nil)
      (pss_one (ps_ret (pe_and (pe_cmpR op_eqI (pe_callB call_lenD (by rfl) T.n_len (by decide +kernel) (pa_cons (pv 0) pa_nil)) (pe_callB call_lenD (by rfl) T.n_len (by decide +kernel) (pa_cons (pv 1) pa_nil)) (nomark _)) (pe_one (pe_callB (cr_all rfl) (by rfl) T.n_all (by decide +kernel) (pa_cons (pe_lc (own := [("one", 2), ("two", 3)]) (g := gTup K 2 (gCons (gName 2) (gCons (gName 3) (gNil)))) (tt := tYes) rfl sc__law_like.nd (RZ.pi_zipA (by rfl) T.n_zip (pa_cons (pv 0) (pa_cons (pv 1) pa_nil))) (blkOk_by (own := [("one", 2), ("two", 3)]) (N := N__law_like) (sc := defScope s__law_like) (by decide +kernel)) (fun _ _ _ _ _ => by exact (pg_tup rfl (pgs_cons (pg_name (i := 2) sc__law_like.nd rfl (Or.inl rfl)) (pgs_cons (pg_name (i := 3) sc__law_like.nd rfl (Or.inl rfl)) pgs_nil)))) (fun _ _ _ _ _ => pts_nil) (fun _ _ _ _ _ => (pe_call G__law_like hr__law_like (by rfl) T.m__law_like T.F__law_like.kp T.B__law_like .nil pass0 (pa_cons (pv 2) (pa_cons (pv 3) pa_nil))))) pa_nil))))))) pss_nil) pss_never), ?_⟩
      refine seq_op fun N hN => ?_
      clear hN
      walk_at "rs"
      refine ⟨by decide, fun p H1 s1 h0 h1 => ⟨_, p, ⟨rfl, rfl⟩, h1, _, dp_same s1 hu, iteTT (by rcases hds with rfl | rfl <;> simp [isTy]) ?_⟩⟩
      clear h1
      have hv1 := dp_same s1 hv
      have hu1 := dp_same s1 hu
      have k1 := fun H' (s : Same H1 H') => k H' (Same.trans s1 s)
      refine seq_op fun N2 hN2 => ?_
      walk_at "rs"
      refine ⟨_, "list", ⟨rfl, rfl⟩, _, hv1, by simp, _, "list", ⟨rfl, rfl⟩, _, hu1, by simp, iteFF (by simp) ?_⟩
      refine ⟨_, "tuple", ⟨rfl, rfl⟩, _, hv1, by simp, _, "tuple", ⟨rfl, rfl⟩, _, hu1, by simp, iteFF (by simp) (hN2 _ _ ?_)⟩
      clear hN2 N2
      walk_at "rs"
      have gm : ∀ (x : V) (σ0 : L2.St) (H0 : Hp) (Q0 Q1 : L2.St → Hp → Prop), (∀ σ2 H2, Q0 σ2 H2 → Q1 σ2 H2) → gTup K 2 (gCons (gName 2) (gCons (gName 3) gNil)) x σ0 H0 Q0 → gTup K 2 (gCons (gName 2) (gCons (gName 3) gNil)) x σ0 H0 Q1 :=
        fun x σ0 H0 Q0 Q1 h ⟨a, xs, e1, e2, e3, v, r, e4, v2, r2, e5, e6, q⟩ => ⟨a, xs, e1, e2, e3, v, r, e4, v2, r2, e5, e6, h _ _ q⟩
      have turn : ∀ {xs ys : List V} (hx : DpAll K H1 xs ds) (hy : DpAll K H1 ys ds) (i : Nat) (x : V) (H2 H' : Hp), Same H1 H2 → YPair (fun i => xs[i]?) (fun i => ys[i]?) i H2 x H' →
          gTup K 2 (gCons (gName 2) (gCons (gName 3) gNil)) x (wipe [some v, some u, none, none] [2, 3]) H' fun σ2 H3 => Same H2 H3 ∧ wipe σ2 [2, 3] = wipe [some v, some u, none, none] [2, 3] ∧ ∀ Q2 : V → Hp → Prop, (∀ H4, Same H3 H4 → Q2 (.bl true) H4) → tCall (sp__law_like K m) [] E0 (tCons (tVar 2) (tCons (tVar 3) tNil)) σ2 H3 Q2 := by
        rintro xs ys hx hy i x H2 H' s2 ⟨T0, y1, y2, rfl, hT, rfl, h1, h2⟩
        obtain ⟨d1, e1, hd1⟩ := dpa_get4 hx h1
        obtain ⟨d2, e2, hd2⟩ := dpa_get4 hy h2
        rw [e1] at e2
        cases e2
        have s3 := Same.trans s2 (same_upd (o := .tup [y1, y2]) hT)
        refine ⟨T0, [y1, y2], rfl, .inl (.inl upd_same), rfl, y1, [y2], rfl, y2, [], rfl, rfl, same_upd hT, rfl, fun Q2 hq => ?_⟩
        refine ⟨_, rfl, _, rfl, y1, y2, d1, rfl, dp_same s3 hd1, dp_same s3 hd2, ?_, Nat.le_trans (depAll_get e1) hdm, hq⟩
        refine ok_get4 ?_ e1
        rcases hds with rfl | rfl
        · exact (okD_lst.mp hok).2
        · exact (okD_tup.mp hok).2
      have fin : ∀ {D : Addr} {H' : Hp} {n : Nat}, Same H1 H' → H' D = some (.lst ((List.range n).map fun _ => V.bl true)) → rAll K [V.ref D] H' Q := by
        intro D H' n s h
        refine ⟨D, (List.range n).map fun _ => true, rfl, SqL.of (by rw [h, List.map_map]; rfl), ?_⟩
        rw [all_map_id]
        have e : ((List.range n).all fun _ => true) = true := by simp
        rw [e]
        exact k1 H' s
      refine ⟨_, hv1, .inl ⟨ds, hds, _, hu1, .inl ⟨ds, hds, iteTT rfl ?_⟩⟩⟩
      rcases hds with rfl | rfl
      · cases hv1 with
        | @lst a xs _ ha hda =>
          cases hu1 with
          | @lst b ys _ hb hdb =>
            have lx := dpa_len4 hda
            have ly := dpa_len4 hdb
            have small : ds.length ≤ 1000000 := Nat.le_trans (okD_lst.mp hok).1 (by decide)
            exact ⟨_, rfl, _, rfl, a, b, xs, ys, rfl, .inl ⟨ha, hb, fun D hD => lc_pure (walk_zip (n := ds.length) (by omega)) hD small (fun _ => .bl true) (fun H s => ⟨Same.seq s ha, Same.seq s hb⟩) (fun i x H2 H' _ s2 y => turn hda hdb i x H2 H' s2 y) gm fun H' s h => fin s h⟩⟩
      · cases hv1 with
        | @tup a xs _ ha hda =>
          cases hu1 with
          | @tup b ys _ hb hdb =>
            have lx := dpa_len4 hda
            have ly := dpa_len4 hdb
            have small : ds.length ≤ 1000000 := Nat.le_trans (okD_tup.mp hok).1 (by decide)
            exact ⟨_, rfl, _, rfl, a, b, xs, ys, rfl, .inr ⟨ha, hb, fun D hD => lc_pure (walk_zipT (n := ds.length) lx ly) hD small (fun _ => .bl true) (fun H s => ⟨Same.seqT s ha, Same.seqT s hb⟩) (fun i x H2 H' _ s2 y => turn hda hdb i x H2 H' s2 y) gm fun H' s h => fin s h⟩⟩
theorem ok__law_like (T : Txt w K mg) : ∀ n : Nat, FnOk P w K mg base CX0 (n + 1) T.a__law_like T.d__law_like ["got", "due"] (sp__law_like K n) := by
  intro n
  induction n with
  | zero => exact like_step T 0 fun m e => by omega
  | succ n ih =>
    refine like_step T (n + 1) fun m e => ?_
    obtain rfl : m = n := by omega
    exact ih
end
end LK

set_option Elab.async false
set_option linter.all false
set_option maxRecDepth 100000
namespace LK
open PySem PySem.Spec PyProof.Rows L2
local macro_rules | `(tactic| walk_at "rs") => `(tactic| simp only [cxK, cxNK, tCallZ, tAsg, tOp, rI0, rS0, rB0, rI, rU, tUn, rEq, rNe, rIxL, rIxT, rIxS, rSetL, rSlLU, rSlS, rSlU, rCatL, rCatU, rRepL, rIn, tVar, tC, gName, gSub, tIfS, tTest, tB, tAnd, tOr, tNot, tNotV, tAndV, tOrV, tIf, tCall, tCons, tNil, tCB, tDrop, tRet, tRetN, tNext, tLstU, tTupU, tM0, tM1, tPar, tPar3, tAug, ipI, tBM, tBM0, rAppend, rPop, tBreak, sDPut, tDGet, tDGet2, tCont, tChain, tSl, tPart, tNoPart, L2.start, List.map, List.length_cons, List.length_nil, List.replicate, List.cons_append, List.nil_append, List.append_nil, List.getElem?_cons_zero, List.getElem?_cons_succ, List.set_cons_zero, List.set_cons_succ, Option.some.injEq, V.int.injEq, V.ref.injEq, V.str.injEq, V.bl.injEq, exists_eq_left', exists_eq_left, exists_and_left, decide_eq_true_eq, List.cons.injEq, and_true, true_and, scal, Bool.not_eq_true', decide_eq_false_iff_not, Nat.zero_add, Nat.reduceAdd, Nat.reduceSub, reduceCtorEq, false_and, exists_false, false_or, or_false, CPow, CPowW, CMul, CDiv, Int.reduceToNat, ↓reduceIte, wipe, sw, rv3, tListKeys, tDIn, tDNotIn, List.nil_append, List.singleton_append])
local macro_rules | `(tactic| walk_at "st") => `(tactic| (refine seq_op fun N hN => ?_; walk_at "rs"))
local macro_rules | `(tactic| walk_at "sd") => `(tactic| first | assumption | decide | omega)
local macro_rules | `(tactic| walk_at "rd") => `(tactic| repeat (first
  | refine ⟨_, SqL.of (by assumption), ?_⟩ | refine ⟨_, SqL.of upd_same, ?_⟩ | refine ⟨_, .inl (SqL.of (by assumption)), ?_⟩ | refine ⟨_, (by assumption : _ = some (HO.lst _)), ?_⟩ | refine ⟨_, upd_same, ?_⟩
  | refine ⟨_, rfl, ?_⟩ | refine And.intro (by walk_at "sd") ?_))

/-! ### units -/
def SeqI (K : PySem.W.Frag) (H : Hp) (a : Addr) (xs : List V) : Prop := SqL K H a xs ∨ SqT K H a xs
theorem SeqI.same {K : PySem.W.Frag} {H H' : Hp} {a : Addr} {xs : List V} (s : Same H H') (h : SeqI K H a xs) : SeqI K H' a xs := h.imp s.seq (Same.seqT s)
theorem wtS_cons (x : It) (b : List It) (k : List Int) : wtS (x :: b) k = (if x.1 = k then wt x.2 + 1 else 0) + wtS b k := by
  have key : ∀ (b : List It) (n : Nat), b.foldl (fun acc it => if it.1 = k then acc + (wt it.2 + 1) else acc) n + 1 = n + wtS b k := by
    intro b
    induction b with
    | nil => intro n; rfl
    | cons it b ih =>
      intro n
      unfold wtS
      simp only [List.foldl_cons]
      by_cases e : it.1 = k
      · rw [if_pos e, if_pos e]
        have h1 := ih (n + (wt it.2 + 1))
        have h2 := ih (1 + (wt it.2 + 1))
        omega
      · rw [if_neg e, if_neg e]
        exact ih n
  have h := key b (1 + (if x.1 = k then wt x.2 + 1 else 0))
  have e : wtS (x :: b) k = b.foldl (fun acc it => if it.1 = k then acc + (wt it.2 + 1) else acc) (1 + (if x.1 = k then wt x.2 + 1 else 0)) := by
    show (x :: b).foldl _ 1 = _
    rw [List.foldl_cons]
    split <;> rfl
  omega
theorem wtS_le {B : Nat} (k : List Int) : ∀ {l : List It}, (∀ x ∈ l, wt x.2 ≤ B) → wtS l k ≤ l.length * (B + 1) + 1
  | [], _ => by show 1 ≤ _; omega
  | a :: l, h => by
    have ih := wtS_le k (l := l) fun x hx => h x (List.mem_cons_of_mem _ hx)
    have := h a List.mem_cons_self
    rw [wtS_cons, List.length_cons, Nat.add_mul, Nat.one_mul]
    split <;> omega
def one1 : Fr := (1, 1)
theorem low_one : low (1, 1) := ⟨by decide, by decide⟩
/-- the terms of a row -/
def tms (cols : List Int) (rest m : Int) : List It := cols.map (fun c => ([c], ((1, 1) : Fr))) ++ [([rest], (-m, 1))]
theorem low_int (m : Int) : low (m, 1) := ⟨Int.le_refl 1, Nat.gcd_one_right _⟩
def InR (c : Int) : Prop := 0 ≤ c ∧ c < 2000
theorem bd_one {c : Int} (h : InR c) : TS.Bd 2000 [c] := fun m hm => by
  obtain rfl := List.mem_singleton.mp hm
  exact h
theorem wt_int {m : Int} (h : m.natAbs < 2 ^ 60) : wt (m, 1) ≤ 60 := wt_le (by decide) h (by show (1 : Int).natAbs < 2 ^ 60; decide)
theorem tms_fit {cols : List Int} {rest m : Int} (hc : ∀ c ∈ cols, InR c) (hr : InR rest) (l : cols.length ≤ 30) (hm : m.natAbs < 2 ^ 60) : Fit 1 (tms cols rest m) := by
  have mem : ∀ x ∈ tms cols rest m, low x.2 ∧ wt x.2 ≤ 60 ∧ x.1.length = 1 ∧ TS.Bd 2000 x.1 := fun x hx => by
    rcases List.mem_append.mp hx with hx | hx
    · obtain ⟨c, hcm, rfl⟩ := List.mem_map.mp hx
      exact ⟨low_one, wt_int (by decide), rfl, bd_one (hc c hcm)⟩
    · obtain rfl := List.mem_singleton.mp hx
      exact ⟨low_int _, wt_int (by rw [Int.natAbs_neg]; exact hm), rfl, bd_one hr⟩
  have len : (tms cols rest m).length ≤ 31 := by
    unfold tms
    rw [List.length_append, List.length_map]
    simp only [List.length_cons, List.length_nil]
    omega
  refine ⟨fun x hx => ⟨(mem x hx).1, Nat.le_trans (mem x hx).2.1 (by decide), (mem x hx).2.2⟩, fun k => ?_, ⟨(tms cols rest m).map (·.1), by rw [List.length_map]; omega, fun x hx => List.mem_map_of_mem hx⟩, by omega⟩
  have := wtS_le (B := 60) k fun x hx => (mem x hx).2.1
  omega
/-- a unit at the heap: normal terms, shift, normal givings -/
def UnitAt (K : PySem.W.Frag) (H : Hp) (v : V) (R : List Int → Rat) (f : Fr) (G : List Int → Rat) : Prop := ∃ (p a s g : Addr) (ys gs : List V) (its gits : List It), v = .ref p ∧ SqT K H p [.ref a, .ref s, .ref g] ∧ SqT K H a ys ∧ Its K H ys its ∧ Norm R its ∧ its.length < 64 ∧ Pr K H s f.1 f.2 ∧ SqT K H g gs ∧ Its K H gs gits ∧ Norm G gits ∧ gits.length < 64
theorem UnitAt.same {K : PySem.W.Frag} {H H' : Hp} {v : V} {R G : List Int → Rat} {f : Fr} (s : Same H H') : UnitAt K H v R f G → UnitAt K H' v R f G := fun ⟨p, a, c, g, ys, gs, its, gits, e, h1, h2, h3, h4, h5, h6, h7, h8, h9⟩ => ⟨p, a, c, g, ys, gs, its, gits, e, Same.seqT s h1, Same.seqT s h2, h3.same s, h4, h5, Same.seqT s h6, Same.seqT s h7, h8.same s, h9⟩
section
variable {P : Program} {w : World} {K : PySem.W.Frag} {mg : Str → Option Value} {base : Heap}
def sp_part (K : PySem.W.Frag) : Sp := fun vs H Q _ => ∃ (p a s g : Addr) (xs gs : List V) (items gits : List It) (f : Fr), vs = [.str "bend", .ref p] ∧ SqT K H p [.ref a, .ref s, .ref g] ∧ SeqI K H a xs ∧ Its K H xs items ∧ Fit 1 items ∧ Pr K H s f.1 f.2 ∧ SeqI K H g gs ∧ Its K H gs gits ∧ Fit 1 gits ∧
  ∀ v H', Same H H' → UnitAt K H' v (accR items) f (accR gits) → Q v H'
theorem ok_normal_part (T : Txt w K mg) : FnOk P w K mg base CX0 6 T.a_normal_part T.d_normal_part ["kind", "part"] (sp_part K) := by
  refine T.F_normal_part.ok sc_normal_part (fun vs H Q E h => ?_) (fun cdv A outer s H vs Q E hr h => ?_)
  · obtain ⟨p, a, s, g, xs, gs, items, gits, f, rfl, _⟩ := h
    rfl
  · obtain ⟨p, a, sh, g, xs, gs, items, gits, f, rfl, hp, ha, ia, fa, hs, hg, ig, fg, k⟩ := h
    have hr_normal_entries : Room 5 _ := hr
    have G_normal_entries := ok_normal_entries (P := P) (base := base) T
    have hr_normal_triples : Room 5 _ := hr
    have G_normal_triples := ok_normal_triples (P := P) (base := base) T
    refine ⟨_, (pss_cons (ps_if (pt_cmpR op_eqS (pv 0) pe_str (nomark _)) (pss_one (ps_ret (pe_tupU (pa_cons (pe_call G_normal_triples hr_normal_triples (by rfl) T.m_normal_triples T.F_normal_triples.kp T.B_normal_triples .nil pass0 (pa_cons (pe_ix ix_tup (pv 1) pe_int (fun _ _ => rfl)) pa_nil)) (pa_cons (pe_call G_normal_triples hr_normal_triples (by rfl) T.m_normal_triples T.F_normal_triples.kp T.B_normal_triples .nil pass0 (pa_cons (pe_ix ix_tup (pv 1) pe_int (fun _ _ => rfl)) pa_nil)) pa_nil))))) pss_nil)
      (pss_one (ps_ret (pe_tupU (pa_cons (pe_call G_normal_entries hr_normal_entries (by rfl) T.m_normal_entries T.F_normal_entries.kp T.B_normal_entries .nil pass0 (pa_cons (pe_ix ix_tup (pv 1) pe_int (fun _ _ => rfl)) pa_nil)) (pa_cons (pe_ix ix_tup (pv 1) pe_int (fun _ _ => rfl)) (pa_cons (pe_call G_normal_entries hr_normal_entries (by rfl) T.m_normal_entries T.F_normal_entries.kp T.B_normal_entries .nil pass0 (pa_cons (pe_ix ix_tup (pv 1) pe_int (fun _ _ => rfl)) pa_nil)) pa_nil))))))), ?_⟩
    refine seq_op fun N hN => ?_
    walk_at "rs"
    refine iteFF (by decide) (hN _ _ ?_)
    clear hN N
    walk_at "rs"
    refine ⟨_, hp, _, rfl, a, xs, items, rfl, ha, ia, fa, fun t1 ys its1 H1 s1 h1 i1 n1 l1 => ⟨_, Same.seqT s1 hp, _, rfl, _, Same.seqT s1 hp, _, rfl, g, gs, gits, rfl, hg.same s1, ig.same s1, fg, fun t2 zs its2 H2 s2 h2 i2 n2 l2 => ⟨by decide, fun p3 H3 s3 n3 t3 => ?_⟩⟩⟩
    have s23 := Same.trans s2 s3
    exact k _ _ (Same.trans s1 s23) ⟨p3, t1, sh, t2, ys, zs, its1, its2, rfl, .inl (.inl t3), Same.seqT s23 h1, i1.same s23, n1, l1, Same.seqT (Same.trans s1 s23) hs, Same.seqT s3 h2, i2.same s3, n2, l2⟩
def sp_unit (K : PySem.W.Frag) : Sp := fun vs H Q _ => ∃ (c s g : Addr) (cols : List Int) (gs : List V) (gits : List It) (rest steep : Int) (f : Fr), vs = [.ref c, .int rest, .int steep, .ref s, .ref g] ∧ SeqI K H c (cols.map V.int) ∧ (∀ x ∈ cols, InR x) ∧ cols.length ≤ 30 ∧ InR rest ∧ steep.natAbs < 2 ^ 60 ∧ Pr K H s f.1 f.2 ∧ SeqI K H g gs ∧ Its K H gs gits ∧ Fit 1 gits ∧
  ∀ v H', Same H H' → UnitAt K H' v (accR (tms cols rest steep)) f (accR gits) → Q v H'
theorem fraction_whole (T : Txt w K mg) {H : Hp} {Q : VK} {E : XK} {p : Int} (hp : p.natAbs < 2 ^ 61) (k : ∀ t H', Same H H' → H t = none → H' t = some (.tup [.int p, .int 1]) → Q (.ref t) H') : sp_fraction T.C_BadValue [.int p, .int 1] H Q E := by
  obtain ⟨e1, e2⟩ := fr_low (p := p) (q := 1) (Int.le_refl 1) (Nat.gcd_one_right _)
  refine ⟨p, 1, rfl, Nat.lt_trans (log_lt (by decide) hp) (by decide), by decide, fun _ t H' s h0 h1 => k t H' s h0 (by rw [e1, e2] at h1; exact h1), fun z => absurd z (by decide)⟩
theorem lc_itn {K : PySem.W.Frag} {a : Addr} {xs : List V} {tl te : TE} {i0 : Nat} {σ : L2.St} {H1 : Hp} {Q : VK} (hv : ∀ Q : VK, Q (.ref a) H1 → tl σ H1 Q) (h : SeqI K H1 a xs) (F : Nat → Hp → List V → Prop) (n : xs.length ≤ 1000000)
    (mono : ∀ i H H' ys, Same H H' → F i H ys → F i H' ys) (up : ∀ D i H ys zs o, H D = some (.lst zs) → F i H ys → F i (L2.upd H D o) ys) (r0 : ∀ H, F 0 H [])
    (hs : ∀ i x G, xs[i]? = some x → Same H1 G → ∀ Q2 : VK, (∀ v G2, Same G G2 → (∀ ys, F i G2 ys → F (i + 1) G2 (ys ++ [v])) → Q2 v G2) → te ((wipe σ [i0]).set i0 (some x)) G Q2)
    (hq : ∀ (D : Addr) H2 ys, Same H1 H2 → H1 D = none → H2 D = some (.lst ys) → ys.length = xs.length → F xs.length H2 ys → Q (.ref D) H2) : tLc (iLT K tl) (gName i0) tYes te [i0] σ H1 Q := by
  refine lc_lt2 (K := K) (a := a) (xs := xs) hv h F n mono up r0 (fun i x G hi s e => ?_) (gm_name i0) hq
  refine ⟨Same.refl _, ?_, fun Q2 k => hs i x G e s Q2 fun v G2 s2 st => k v G2 s2 st⟩
  show ((σ.set i0 none).set i0 (some x)).set i0 none = σ.set i0 none
  rw [List.set_set, List.set_set]
theorem ok_unit_of (T : Txt w K mg) : FnOk P w K mg base CX0 7 T.a_unit_of T.d_unit_of ["columns", "rest", "steep", "shift", "givings"] (sp_unit K) := by
  refine T.F_unit_of.ok sc_unit_of (fun vs H Q E h => ?_) (fun cdv A outer s H vs Q E hr h => ?_)
  · obtain ⟨c, s, g, cols, gs, gits, rest, steep, f, rfl, _⟩ := h
    rfl
  · obtain ⟨c, sh, g, cols, gs, gits, rest, steep, f, rfl, hc, rc, lc, rr, st, hs, hg, ig, fg, k⟩ := h
    have hr_fraction : Room 3 _ := hr.mono (by decide)
    have G_fraction := ok_fraction (P := P) (base := base) T
    obtain ⟨ds_fraction, dv_fraction, Db_fraction⟩ := T.D_fraction
    have hr_normal_part : Room 6 _ := hr
    have G_normal_part := ok_normal_part (P := P) (base := base) T
    refine ⟨_, (pss_cons (ps_set (i := 5) sc_unit_of.nd rfl (Or.inl rfl) (pe_op op_catL (pe_lc (own := [("column", 6)]) (g := gName 6) (tt := tYes) rfl sc_unit_of.nd (pi_lt (pv 0)) (blkOk_by (own := [("column", 6)]) (N := N_unit_of) (sc := defScope s_unit_of) (by decide +kernel)) (fun _ _ _ _ _ => pg_name (i := 6) sc_unit_of.nd rfl (Or.inl rfl)) (fun _ _ _ _ _ => pts_nil) (fun _ _ _ _ _ => (pe_tupU (pa_cons (pv 6) (pa_cons (pe_glob (v := .ref T.a_ONE) (by rfl) T.m_ONE rfl) pa_nil))))) (pe_lstU (pa_cons (pe_tupU (pa_cons (pv 1) (pa_cons (pe_call G_fraction hr_fraction (by rfl) T.m_fraction T.F_fraction.kp Db_fraction dv_fraction passL (pa_cons (pe_un un_neg (pv 2)) pa_nil)) pa_nil))) pa_nil))))
      (pss_one (ps_ret (pe_call G_normal_part hr_normal_part (by rfl) T.m_normal_part T.F_normal_part.kp T.B_normal_part .nil pass0 (pa_cons pe_str (pa_cons (pe_tupU (pa_cons (pv 5) (pa_cons (pv 3) (pa_cons (pv 4) pa_nil)))) pa_nil)))))), ?_⟩
    refine seq_op fun N hN => ?_
    walk_at "rs"
    have lcols : cols.length ≤ 1000000 := by omega
    refine lc_itn (fun Q q => ⟨_, rfl, q⟩) hc (fun i H ys => Its K H ys ((cols.take i).map fun c => ([c], ((1, 1) : Fr)))) (by rw [List.length_map]; exact lcols) (fun i H H' ys s h => h.same s) (fun D i H ys zs o hp h => h.updO (notT_lst hp)) (fun H => .nil) (fun i x G ex s1 Q2 hq => ?_) fun D1 H1 ys s1 D10 D11 ly iy => ?_
    · obtain ⟨cc, rfl, ei⟩ : ∃ cc, x = V.int cc ∧ cols[i]? = some cc := by
        rw [List.getElem?_map] at ex
        obtain ⟨cc, h1, h2⟩ := Option.map_eq_some_iff.mp ex
        exact ⟨cc, h2.symm, h1⟩
      walk_at "rs"
      refine ⟨by decide, fun p G2 s2 n2 t2 => hq _ G2 s2 fun ys h => ?_⟩
      have et : cols.take (i + 1) = cols.take i ++ [cc] := by
        obtain ⟨hk, e⟩ := List.getElem?_eq_some_iff.mp ei
        rw [← List.take_append_getElem hk, e]
      rw [et, List.map_append]
      exact h.app (.cons (k := [cc]) (f := (1, 1)) (.inl (.inl t2)) (T.s_ONE _) .nil)
    · rw [List.length_map, List.take_length] at iy
      rw [List.length_map] at ly
      refine fraction_whole T (by rw [Int.natAbs_neg]; exact Nat.lt_trans st (by decide)) fun t H2 s2 t0 t1 => ⟨by decide, fun p3 H3 s3 n3 t3 => ⟨by decide, fun p4 H4 s4 n4 t4 => ?_⟩⟩
      have s24 := Same.trans s2 (Same.trans s3 s4)
      refine ⟨D1, rfl, ys, s24 _ _ D11, _, t4, Nat.le_trans (show ys.length + 1 ≤ 31 by omega) (by decide), fun p5 H5 s5 n5 t5 => hN _ _ ?_⟩
      clear hN N
      have s25 := Same.trans s24 s5
      have s15 := Same.trans s1 s25
      have it5 : Its K H5 (ys ++ [.ref p3]) (tms cols rest steep) := (iy.same s25).app (.cons (k := [rest]) (f := (-steep, 1)) (.inl (.inl (s5 _ _ (s4 _ _ t3)))) (.inl (.inl (s5 _ _ (s4 _ _ (s3 _ _ t1))))) .nil)
      walk_at "rs"
      refine ⟨by decide, fun p6 H6 s6 n6 t6 => ?_⟩
      have s16 := Same.trans s15 s6
      exact ⟨p6, p5, sh, g, _, gs, tms cols rest steep, gits, f, rfl, .inl (.inl t6), .inl (SqL.of (s6 _ _ t5)), it5.same s6, tms_fit rc rr lc st, Same.seqT s16 hs, hg.same s16, ig.same s16, fg, fun v H7 s7 u => k v H7 (Same.trans s16 s7) u⟩
/-! ### the units of expressions -/
def gv1 (t : Int) : List It := [([t], ((1, 1) : Fr))]
theorem gv1_fit {t : Int} (h : InR t) : Fit 1 (gv1 t) := by
  have e : ∀ x ∈ gv1 t, low x.2 ∧ wt x.2 ≤ 60 ∧ x.1.length = 1 ∧ TS.Bd 2000 x.1 := fun x hx => by
    obtain rfl := List.mem_singleton.mp hx
    exact ⟨low_one, wt_int (by decide), rfl, bd_one h⟩
  refine ⟨fun x hx => ⟨(e x hx).1, Nat.le_trans (e x hx).2.1 (by decide), (e x hx).2.2⟩, fun k => ?_, ⟨[[t]], (show 1 ≤ 62 by decide), fun x hx => by rw [List.mem_singleton.mp hx]; exact List.mem_cons_self⟩, by show 1 ≤ 1000; decide⟩
  have := wtS_le (B := 60) k fun x hx => (e x hx).2.1
  have l : (gv1 t).length = 1 := rfl
  omega
/-- the unit of a row and a target -/
def EUnit (K : PySem.W.Frag) (H : Hp) (rest : Int) (v : V) (r : List Int) (t : Int) : Prop := UnitAt K H v (accR (tms r rest 1)) (1 - (r.length : Int), 1) (accR (gv1 t))
/-- rows at the heap -/
inductive RowsT (K : PySem.W.Frag) (H : Hp) : List V → List (List Int) → Prop
  | nil : RowsT K H [] []
  | cons {a : Addr} {r : List Int} {xs : List V} {rs : List (List Int)} : SqT K H a (r.map V.int) → RowsT K H xs rs → RowsT K H (.ref a :: xs) (r :: rs)
theorem RowsT.same {K : PySem.W.Frag} {H H' : Hp} (s : Same H H') : ∀ {xs : List V} {rs : List (List Int)}, RowsT K H xs rs → RowsT K H' xs rs
  | _, _, .nil => .nil
  | _, _, .cons h q => .cons (Same.seqT s h) (q.same s)
theorem RowsT.len {K : PySem.W.Frag} {H : Hp} : ∀ {xs : List V} {rs : List (List Int)}, RowsT K H xs rs → xs.length = rs.length
  | _, _, .nil => rfl
  | _, _, .cons _ q => congrArg Nat.succ q.len
theorem RowsT.app {K : PySem.W.Frag} {H : Hp} : ∀ {xs ys : List V} {rs ss : List (List Int)}, RowsT K H xs rs → RowsT K H ys ss → RowsT K H (xs ++ ys) (rs ++ ss)
  | _, _, _, _, .nil, r => r
  | _, _, _, _, .cons h q, r => .cons h (q.app r)
theorem RowsT.updO {K : PySem.W.Frag} {H : Hp} {p : Addr} {o : HO} (hp : ∀ ys, ¬ Rd H p (.tup ys)) : ∀ {xs : List V} {rs : List (List Int)}, RowsT K H xs rs → RowsT K (L2.upd H p o) xs rs
  | _, _, .nil => .nil
  | _, _, .cons h q => .cons (seqT_updO hp h) (q.updO hp)
theorem RowsT.kp {K : PySem.W.Frag} {N : Nat} {H H' : Hp} {b c : Addr} (B : Bag N H b c) (k : Kp b H H') : ∀ {xs : List V} {rs : List (List Int)}, RowsT K H xs rs → RowsT K H' xs rs
  | _, _, .nil => .nil
  | _, _, .cons h q => .cons (seqT_kp B k h) (q.kp B k)
theorem RowsT.get {K : PySem.W.Frag} {H : Hp} : ∀ {xs : List V} {rs : List (List Int)} {i : Nat} {x : V}, RowsT K H xs rs → xs[i]? = some x → ∃ (a : Addr) (r : List Int), x = .ref a ∧ rs[i]? = some r ∧ SqT K H a (r.map V.int)
  | _, _, _, _, .nil, h => by simp at h
  | _, _, 0, _, .cons h _, e => ⟨_, _, (Option.some.inj e).symm, rfl, h⟩
  | _, _, i + 1, _, .cons _ q, e => by
    obtain ⟨a, r, h1, h2, h3⟩ := q.get (i := i) e
    exact ⟨a, r, h1, h2, h3⟩
/-- units, one for each row -/
inductive EUnits (K : PySem.W.Frag) (H : Hp) (rest : Int) : List V → List (List Int) → List Int → Prop
  | nil : EUnits K H rest [] [] []
  | cons {v : V} {r : List Int} {t : Int} {us : List V} {rs : List (List Int)} {ts : List Int} : EUnit K H rest v r t → EUnits K H rest us rs ts → EUnits K H rest (v :: us) (r :: rs) (t :: ts)
theorem EUnits.same {K : PySem.W.Frag} {H H' : Hp} {rest : Int} (s : Same H H') : ∀ {us : List V} {rs : List (List Int)} {ts : List Int}, EUnits K H rest us rs ts → EUnits K H' rest us rs ts
  | _, _, _, .nil => .nil
  | _, _, _, .cons h q => .cons (UnitAt.same s h) (q.same s)
theorem EUnits.app {K : PySem.W.Frag} {H : Hp} {rest : Int} : ∀ {us ws : List V} {rs qs : List (List Int)} {ts ss : List Int}, EUnits K H rest us rs ts → EUnits K H rest ws qs ss → EUnits K H rest (us ++ ws) (rs ++ qs) (ts ++ ss)
  | _, _, _, _, _, _, .nil, r => r
  | _, _, _, _, _, _, .cons h q, r => .cons h (q.app r)
theorem EUnits.len {K : PySem.W.Frag} {H : Hp} {rest : Int} : ∀ {us : List V} {rs : List (List Int)} {ts : List Int}, EUnits K H rest us rs ts → us.length = rs.length ∧ ts.length = rs.length
  | _, _, _, .nil => ⟨rfl, rfl⟩
  | _, _, _, .cons _ q => ⟨congrArg Nat.succ q.len.1, congrArg Nat.succ q.len.2⟩
theorem UnitAt.updO {K : PySem.W.Frag} {H : Hp} {p : Addr} {o : HO} (hp : ∀ ys, ¬ Rd H p (.tup ys)) {v : V} {R G : List Int → Rat} {f : Fr} : UnitAt K H v R f G → UnitAt K (L2.upd H p o) v R f G := fun ⟨q, a, c, g, ys, gs, its, gits, e, h1, h2, h3, h4, h5, h6, h7, h8, h9⟩ => ⟨q, a, c, g, ys, gs, its, gits, e, seqT_updO hp h1, seqT_updO hp h2, h3.updO hp, h4, h5, seqT_updO hp h6, seqT_updO hp h7, h8.updO hp, h9⟩
theorem UnitAt.kp {K : PySem.W.Frag} {N : Nat} {H H' : Hp} {b c : Addr} (B : Bag N H b c) (k : Kp b H H') {v : V} {R G : List Int → Rat} {f : Fr} : UnitAt K H v R f G → UnitAt K H' v R f G := fun ⟨q, a, c, g, ys, gs, its, gits, e, h1, h2, h3, h4, h5, h6, h7, h8, h9⟩ => ⟨q, a, c, g, ys, gs, its, gits, e, seqT_kp B k h1, seqT_kp B k h2, h3.kp B k, h4, h5, seqT_kp B k h6, seqT_kp B k h7, h8.kp B k, h9⟩
theorem EUnits.updO {K : PySem.W.Frag} {H : Hp} {rest : Int} {p : Addr} {o : HO} (hp : ∀ ys, ¬ Rd H p (.tup ys)) : ∀ {us : List V} {rs : List (List Int)} {ts : List Int}, EUnits K H rest us rs ts → EUnits K (L2.upd H p o) rest us rs ts
  | _, _, _, .nil => .nil
  | _, _, _, .cons h q => .cons (UnitAt.updO hp h) (q.updO hp)
theorem EUnits.kp {K : PySem.W.Frag} {N : Nat} {H H' : Hp} {b c : Addr} {rest : Int} (B : Bag N H b c) (k : Kp b H H') : ∀ {us : List V} {rs : List (List Int)} {ts : List Int}, EUnits K H rest us rs ts → EUnits K H' rest us rs ts
  | _, _, _, .nil => .nil
  | _, _, _, .cons h q => .cons (UnitAt.kp B k h) (q.kp B k)
/-- a for over zip of two lists or two tuples -/
theorem for_zA {K : PySem.W.Frag} {a c : Addr} {xs ys : List V} {g : TG} {tb : TS} {D : Ends} {σ : L2.St} {H : Hp} {ta : TA} {H0 : Hp} {n : Nat} (hv : ∀ R : List V → Hp → Prop, R [.ref a, .ref c] H → ta σ H R) (h : SqL K H0 a xs ∧ SqL K H0 c ys ∨ SqT K H0 a xs ∧ SqT K H0 c ys) (lx : xs.length = n) (ly : ys.length = n) (Pv : Nat → L2.St → Hp → Prop) (h0 : Pv 0 σ H) (hl : ∀ i σ H', Pv i σ H' → Same H0 H')
    (hs : ∀ i x y T σ H, xs[i]? = some x → ys[i]? = some y → Pv i σ H → H T = none → g (.ref T) σ (L2.upd H T (.tup [x, y])) fun σ2 H2 => tb { D with nx := Pv (i + 1), ct := Pv (i + 1), bk := D.nx } σ2 H2) (hd : ∀ σ H, Pv n σ H → D.nx σ H) : tFor (RZ.iZipA K ta) g tb D σ H := by
  have s0 := hl _ _ _ h0
  have step : ∀ (i : Nat) (x : V) (σ : L2.St) (H H' : Hp), i < n → Pv i σ H → YPair (fun i => xs[i]?) (fun i => ys[i]?) i H x H' → g x σ H' fun σ2 H2 => tb { D with nx := Pv (i + 1), ct := Pv (i + 1), bk := D.nx } σ2 H2 := fun i x σ H H' _ p ⟨T, u, v, e1, e2, e3, e4, e5⟩ => by
    subst e1 e3
    exact hs i u v T σ H e4 e5 p e2
  refine hv _ ⟨a, c, xs, ys, rfl, ?_⟩
  rcases h with ⟨h1, h2⟩ | ⟨h1, h2⟩
  · exact .inl ⟨s0.seq h1, s0.seq h2, for_it (walk_zip (by rw [lx, ly, Nat.min_self])) Pv h0 (fun i σ H' _ p => ⟨(hl i σ H' p).seq h1, (hl i σ H' p).seq h2⟩) step hd⟩
  · exact .inr ⟨Same.seqT s0 h1, Same.seqT s0 h2, for_it (walk_zipT lx ly) Pv h0 (fun i σ H' _ p => ⟨Same.seqT (hl i σ H' p) h1, Same.seqT (hl i σ H' p) h2⟩) step hd⟩
structure RowsOk (rs : List (List Int)) (ts : List Int) (rest : Int) : Prop where
  len : ts.length = rs.length
  few : rs.length ≤ 100
  row : ∀ r ∈ rs, r.length ≤ 30 ∧ ∀ x ∈ r, InR x
  tg : ∀ t ∈ ts, InR t
  rst : InR rest
def sp_units (K : PySem.W.Frag) : Sp := fun vs H Q _ => ∃ (a c : Addr) (xs : List V) (rs : List (List Int)) (ts : List Int) (rest : Int), vs = [.ref a, .ref c, .int rest] ∧ (SqL K H a xs ∧ SqL K H c (ts.map V.int) ∨ SqT K H a xs ∧ SqT K H c (ts.map V.int)) ∧ RowsT K H xs rs ∧ RowsOk rs ts rest ∧
  ∀ (t : Addr) (us : List V) H', Same H H' → H' t = some (.tup us) → EUnits K H' rest us rs ts → Q (.ref t) H'
theorem ok_expression_units (T : Txt w K mg) : FnOk P w K mg base CX0 8 T.a_expression_units T.d_expression_units ["rows", "targets", "rest"] (sp_units K) := by
  refine T.F_expression_units.ok sc_expression_units (fun vs H Q E h => ?_) (fun cdv A outer s H vs Q E hr h => ?_)
  · obtain ⟨a, c, xs, rs, ts, rest, rfl, _⟩ := h
    rfl
  · obtain ⟨a, c, xs, rs, ts, rest, rfl, hac, hrs, ok, k⟩ := h
    have hr_fraction : Room 3 _ := hr.mono (by decide)
    have G_fraction := ok_fraction (P := P) (base := base) T
    obtain ⟨ds_fraction, dv_fraction, Db_fraction⟩ := T.D_fraction
    have hr_unit_of : Room 7 _ := hr
    have G_unit_of := ok_unit_of (P := P) (base := base) T
    refine ⟨_, (pss_cons (ps_set (i := 3) sc_expression_units.nd rfl (Or.inl rfl) (pe_lstU pa_nil))
      (pss_cons (ps_for PassesOwn.never rfl (RZ.pi_zipA (by rfl) T.n_zip (pa_cons (pv 0) (pa_cons (pv 1) pa_nil))) (pg_tup rfl (pgs_cons (pg_name (i := 4) sc_expression_units.nd rfl (Or.inl rfl)) (pgs_cons (pg_name (i := 5) sc_expression_units.nd rfl (Or.inl rfl)) pgs_nil))) (pss_one (ps_expr (pe_bm PySem.F.plainAttrs_list PySem.F.slot_list_append PySem.F.type_list_append mt_append (pv 3) (pa_cons (pe_call G_unit_of hr_unit_of (by rfl) T.m_unit_of T.F_unit_of.kp T.B_unit_of .nil pass0 (pa_cons (pv 4) (pa_cons (pv 2) (pa_cons pe_int (pa_cons (pe_call G_fraction hr_fraction (by rfl) T.m_fraction T.F_fraction.kp Db_fraction dv_fraction passL (pa_cons (pe_op op_sub pe_int (pe_callB call_len_seq (by rfl) T.n_len (by decide +kernel) (pa_cons (pv 4) pa_nil))) pa_nil)) (pa_cons (pe_lstU (pa_cons (pe_tupU (pa_cons (pv 5) (pa_cons (pe_glob (v := .ref T.a_ONE) (by rfl) T.m_ONE rfl) pa_nil))) pa_nil)) pa_nil)))))) pa_nil)))))
      (pss_one (ps_ret (pe_callTy call_tupleN (by rfl) T.n_tuple (by decide +kernel) (pa_cons (pv 3) pa_nil)))))), ?_⟩
    refine seq_op fun N hN => ?_
    walk_at "rs"
    refine ⟨by decide, fun p H1 s1 p0 p1 => hN _ _ ?_⟩
    clear hN N
    refine seq_op fun N hN => ?_
    walk_at "rs"
    have lx := hrs.len
    refine for_zA (xs := xs) (ys := ts.map V.int) (n := rs.length) (H0 := H) (fun R q => ⟨_, rfl, _, rfl, q⟩) hac lx (by rw [List.length_map]; exact ok.len) (fun i σ G => ∃ (x4 x5 : Option V) (us : List V), σ = [some (.ref a), some (.ref c), some (.int rest), some (.ref p), x4, x5] ∧ Same H G ∧ G p = some (.lst us) ∧ EUnits K G rest us (rs.take i) (ts.take i)) ⟨_, _, [], rfl, s1, p1, .nil⟩ (fun i σ G ⟨_, _, _, _, s, _⟩ => s) (fun i x y q0 σ G ex ey ⟨x4, x5, us, eσ, sG, hp, hu⟩ hT => ?_) fun σ G ⟨x4, x5, us, eσ, sG, hp, hu⟩ => hN _ _ ?_
    · subst eσ
      obtain ⟨ra, r, rfl, er, hr1⟩ := hrs.get ex
      obtain ⟨t, rfl, et⟩ : ∃ t, y = V.int t ∧ ts[i]? = some t := by
        rw [List.getElem?_map] at ey
        obtain ⟨t, h1, h2⟩ := Option.map_eq_some_iff.mp ey
        exact ⟨t, h2.symm, h1⟩
      have sT : Same G (L2.upd G q0 (.tup [.ref ra, .int t])) := same_upd hT
      have hT1 : (L2.upd G q0 (.tup [.ref ra, .int t])) q0 = some (.tup [.ref ra, .int t]) := upd_same
      generalize L2.upd G q0 (.tup [.ref ra, .int t]) = G1 at sT hT1 ⊢
      have sG1 := Same.trans sG sT
      obtain ⟨lr, inr⟩ := ok.row r (List.mem_of_getElem? er)
      have int := ok.tg t (List.mem_of_getElem? et)
      refine g2_at (.inl (.inl hT1)) ?_
      walk_at "rs"
      have hp1 := sT _ _ hp
      have lu := hu.len
      have lr2 : (rs.take i).length ≤ 100 := by rw [List.length_take]; have := ok.few; omega
      refine ⟨.inl ⟨rfl, _, SqL.of hp1⟩, _, .inr (Same.seqT sG1 hr1), ?_⟩
      rw [List.length_map]
      refine fraction_whole T (by omega) fun t2 H2 s2 t20 t21 => ⟨by decide, fun p3 H3 s3 n3 t3 => ⟨by decide, fun p4 H4 s4 n4 t4 => ?_⟩⟩
      have s24 := Same.trans s2 (Same.trans s3 s4)
      have sG4 := Same.trans sG1 s24
      refine ⟨ra, t2, p4, r, [.ref p3], gv1 t, rest, 1, (1 - (r.length : Int), 1), rfl, .inr (Same.seqT sG4 hr1), inr, lr, ok.rst, by decide, .inl (.inl (s4 _ _ (s3 _ _ t21))), .inl (SqL.of t4), .cons (k := [t]) (f := (1, 1)) (.inl (.inl (s4 _ _ t3))) (T.s_ONE _) .nil, gv1_fit int, fun v H5 s5 u => ?_⟩
      have s45 := Same.trans s24 s5
      have hp5 := s45 _ _ hp1
      refine ⟨us, hp5, Nat.lt_of_le_of_lt (show us.length ≤ 100 by omega) (by decide), _, _, ⟨rfl, rfl⟩, ?_, _, upd_same, ?_⟩
      · intro b o e
        have ne : b ≠ p := fun z => by rw [z, p0] at e; cases e
        rw [upd_ne ne]
        exact Same.trans sG1 s45 _ _ e
      · obtain ⟨hk, e⟩ := List.getElem?_eq_some_iff.mp er
        obtain ⟨hk2, e2⟩ := List.getElem?_eq_some_iff.mp et
        rw [← List.take_append_getElem hk, e, ← List.take_append_getElem hk2, e2]
        exact ((hu.same (Same.trans sT s45)).app (.cons u .nil)).updO (notT_lst hp5)
    · subst eσ
      clear hN N
      walk_at "rs"
      rw [List.take_length, show rs.length = ts.length from ok.len.symm, List.take_length] at hu
      exact ⟨us, SqL.of hp, fun q H2 s2 n2 t2 => k q us H2 (Same.trans sG s2) t2 (hu.same s2)⟩
end
end LK

set_option Elab.async false
set_option linter.all false
set_option maxRecDepth 100000
namespace LK
open PySem PySem.Spec PyProof.Rows L2
local macro_rules | `(tactic| walk_at "rs") => `(tactic| simp only [cxK, cxNK, tCallZ, tAsg, tOp, rI0, rS0, rB0, rI, rU, tUn, rEq, rNe, rIxL, rIxT, rIxS, rSetL, rSlLU, rSlS, rSlU, rCatL, rCatU, rRepL, rIn, tVar, tC, gName, gSub, tIfS, tTest, tB, tAnd, tOr, tNot, tNotV, tAndV, tOrV, tIf, tCall, tCons, tNil, tCB, tDrop, tRet, tRetN, tNext, tLstU, tTupU, tM0, tM1, tPar, tPar3, tAug, ipI, tBM, tBM0, rAppend, rPop, tBreak, sDPut, tDGet, tDGet2, tCont, tChain, tSl, tPart, tNoPart, L2.start, List.map, List.length_cons, List.length_nil, List.replicate, List.cons_append, List.nil_append, List.append_nil, List.getElem?_cons_zero, List.getElem?_cons_succ, List.set_cons_zero, List.set_cons_succ, Option.some.injEq, V.int.injEq, V.ref.injEq, V.str.injEq, V.bl.injEq, exists_eq_left', exists_eq_left, exists_and_left, decide_eq_true_eq, List.cons.injEq, and_true, true_and, scal, Bool.not_eq_true', decide_eq_false_iff_not, Nat.zero_add, Nat.reduceAdd, Nat.reduceSub, reduceCtorEq, false_and, exists_false, false_or, or_false, CPow, CPowW, CMul, CDiv, Int.reduceToNat, ↓reduceIte, wipe, sw, rv3, tListKeys, tDIn, tDNotIn, List.nil_append, List.singleton_append])
local macro_rules | `(tactic| walk_at "st") => `(tactic| (refine seq_op fun N hN => ?_; walk_at "rs"))
local macro_rules | `(tactic| walk_at "sd") => `(tactic| first | assumption | decide | omega)
local macro_rules | `(tactic| walk_at "rd") => `(tactic| repeat (first
  | refine ⟨_, SqL.of (by assumption), ?_⟩ | refine ⟨_, SqL.of upd_same, ?_⟩ | refine ⟨_, .inl (SqL.of (by assumption)), ?_⟩ | refine ⟨_, (by assumption : _ = some (HO.lst _)), ?_⟩ | refine ⟨_, upd_same, ?_⟩
  | refine ⟨_, rfl, ?_⟩ | refine And.intro (by walk_at "sd") ?_))

/-! ### the law's own arithmetic -/
section
variable {P : Program} {w : World} {K : PySem.W.Frag} {mg : Str → Option Value} {base : Heap}
def sp_low : Sp := fun vs H Q _ => ∃ p q : Int, vs = [.int p, .int q] ∧ 1 ≤ q ∧ p.natAbs < 2 ^ 8001 ∧ q.natAbs < 2 ^ 8001 ∧ ∀ t H', Same H H' → H t = none → H' t = some (.tup [.int (frP p q), .int (frQ p q)]) → Q (.ref t) H'
theorem ok__law_low (T : Txt w K mg) : FnOk P w K mg base CX0 1 T.a__law_low T.d__law_low ["top", "low"] sp_low := by
  refine T.F__law_low.ok sc__law_low (fun vs H Q E h => ?_) (fun cdv A outer s H vs Q E hr h => ?_)
  · obtain ⟨p, q, rfl, _⟩ := h
    rfl
  · obtain ⟨p, q, rfl, q1, lp, lq, k⟩ := h
    refine ⟨_, (pss_cons (ps_if (pt_cmpR op_eqI (pv 1) pe_int (nomark _)) (pss_one (ps_ret (pe_tupU (pa_cons (pv 0) (pa_cons pe_int pa_nil))))) pss_nil)
      (pss_cons (ps_par (i := 2) (j := 3) (by rfl) sc__law_low.nd rfl rfl (by decide) rfl rfl (pa_cons (pe_callB call_abs (by rfl) T.n_abs (by decide +kernel) (pa_cons (pv 0) pa_nil)) (pa_cons (pv 1) pa_nil)) (by rfl))
      (pss_cons (ps_while PassesOwn.never (pt_cmpR op_neI (pv 3) pe_int (nomark _)) (pss_one (ps_par (i := 2) (j := 3) (by rfl) sc__law_low.nd rfl rfl (by decide) rfl rfl (pa_cons (pv 3) (pa_cons (pe_op op_mod (pe_callTy call_intI (by rfl) T.n_int (by decide +kernel) (pa_cons (pv 2) pa_nil)) (pv 3)) pa_nil)) (by rfl))))
      (pss_one (ps_ret (pe_tupU (pa_cons (pe_op op_fdivF (pv 0) (pv 2)) (pa_cons (pe_op op_fdivF (pv 1) (pv 2)) pa_nil)))))))), ?_⟩
    refine seq_op fun N hN => ?_
    walk_at "rs"
    have q0 : q ≠ 0 := by omega
    refine ite2 (fun z => ?_) (fun _ => hN _ _ ?_)
    · subst z
      obtain ⟨e1, e2⟩ := fr_low (p := p) (q := 1) (Int.le_refl 1) (Nat.gcd_one_right _)
      refine ⟨by decide, fun t H1 s1 t0 t1 => k t H1 s1 t0 (by rw [e1, e2]; exact t1)⟩
    clear hN N
    refine seq_op fun N hN => ?_
    walk_at "rs"
    refine ⟨_, _, ⟨rfl, rfl⟩, hN _ _ ?_⟩
    clear hN N
    refine cut_seq (fun σ H2 => σ = [some (.int p), some (.int q), some (.int ((Nat.gcd p.natAbs q.natAbs : Nat) : Int)), some (.int 0)] ∧ H2 = H) (fun N hN => ?_) ?_
    · refine while_by (fun σ H2 => ∃ a b : Nat, σ = [some (.int p), some (.int q), some (.int (a : Int)), some (.int (b : Int))] ∧ H2 = H ∧ Nat.gcd a b = Nat.gcd p.natAbs q.natAbs) (fun (σ : L2.St) (_ : Hp) => match σ[3]? with
          | some (some (V.int b)) => b.toNat
          | _ => 0) ⟨p.natAbs, q.natAbs, by rw [abs_if, show ((q.natAbs : Nat) : Int) = q by omega], rfl, rfl⟩ ?_ ?_
      · rintro σ H2 ⟨a, b, rfl, rfl, hg⟩
        walk_at "rs"
        refine ite2 (fun hb => ?_) (fun hb => ?_)
        · refine ⟨by omega, _, _, ⟨rfl, rfl⟩, ⟨b, a % b, ⟨rfl, rfl⟩, ?_⟩, ?_⟩
          · rw [← hg, Nat.gcd_comm a b, Nat.gcd_rec b a, Nat.gcd_comm]
          · show ((a : Int) % (b : Int)).toNat < (b : Int).toNat
            have := Int.emod_lt_of_pos (a : Int) (show (0 : Int) < (b : Int) by omega)
            have := Int.emod_nonneg (a : Int) hb
            omega
        · have b0 : b = 0 := by omega
          subst b0
          rw [Nat.gcd_zero_right] at hg
          rw [hg]
          exact hN _ _ ⟨rfl, rfl⟩
      · intro σ H2 Q1 Q2 h hq
        revert hq
        walk_at "rs"
        rintro ⟨v, e, i, rfl, hq⟩
        exact ⟨_, e, i, rfl, h _ _ hq⟩
    · rintro σ H2 ⟨rfl, rfl⟩
      have g0 : (Nat.gcd p.natAbs q.natAbs : Nat) ≠ 0 := fun z => q0 (by have := Nat.eq_zero_of_gcd_eq_zero_right z; omega)
      have gl := gcd_log (p := p) q0
      have ql := logL lq (by decide) (by decide)
      have eg : frG p q = ((Nat.gcd p.natAbs q.natAbs : Nat) : Int) := by
        unfold frG
        rw [if_neg (by omega)]
      walk_at "rs"
      have n0 : ((Nat.gcd p.natAbs q.natAbs : Nat) : Int) ≠ 0 := by omega
      have nl : ((Nat.gcd p.natAbs q.natAbs : Nat) : Int).natAbs.log2 < 9000 := by
        rw [Int.natAbs_natCast]; omega
      refine ⟨⟨n0, nl⟩, ⟨n0, nl⟩, by decide, ?_⟩
      rw [← eg]
      exact k
theorem lows {p q : Int} {H : Hp} {Q : VK} {E : XK} (hq : 1 ≤ q) (lp : p.natAbs < 2 ^ 8001) (lq : q.natAbs < 2 ^ 8001) (k : ∀ t H', Same H H' → H t = none → H' t = some (.tup [.int (frP p q), .int (frQ p q)]) → Q (.ref t) H') : sp_low [.int p, .int q] H Q E := ⟨p, q, rfl, hq, lp, lq, k⟩
def sp_plus2 (K : PySem.W.Frag) : Sp := fun vs H Q _ => ∃ (a b : Addr) (f g : Fr), vs = [.ref a, .ref b] ∧ Pr K H a f.1 f.2 ∧ Pr K H b g.1 g.2 ∧ low f ∧ low g ∧ wt f ≤ 3990 ∧ wt g ≤ 3990 ∧
  ∀ t H', Same H H' → H t = none → H' t = some (.tup [.int (plusF f g).1, .int (plusF f g).2]) → Q (.ref t) H'
theorem plus_whole {f g : Fr} (h1 : f.2 = 1) (h2 : g.2 = 1) : plusF f g = (f.1 + g.1, 1) := by
  unfold plusF
  rw [h1, h2, Int.mul_one, Int.mul_one, Int.mul_one]
  obtain ⟨e1, e2⟩ := fr_low (p := f.1 + g.1) (q := 1) (Int.le_refl 1) (Nat.gcd_one_right _)
  rw [e1, e2]
theorem ok__law_plus (T : Txt w K mg) : FnOk P w K mg base CX0 2 T.a__law_plus T.d__law_plus ["one", "two"] (sp_plus2 K) := by
  refine T.F__law_plus.ok sc__law_plus (fun vs H Q E h => ?_) (fun cdv A outer s H vs Q E hr h => ?_)
  · obtain ⟨a, b, f, g, rfl, _⟩ := h
    rfl
  · obtain ⟨a, b, f, g, rfl, ha, hb, lf, lg, wf, wg, k⟩ := h
    have hr__law_low : Room 1 _ := hr
    have G__law_low := ok__law_low (P := P) (base := base) T
    refine ⟨_, (pss_cons (ps_if (PW.pt (pw_and (pt_cmpR op_eqI (pe_ix ix_tup (pv 0) pe_int (fun _ _ => rfl)) pe_int (nomark _)) (pw_and1 (pt_cmpR op_eqI (pe_ix ix_tup (pv 1) pe_int (fun _ _ => rfl)) pe_int (nomark _))))) (pss_one (ps_ret (pe_tupU (pa_cons (pe_op op_add (pe_ix ix_tup (pv 0) pe_int (fun _ _ => rfl)) (pe_ix ix_tup (pv 1) pe_int (fun _ _ => rfl))) (pa_cons pe_int pa_nil))))) pss_nil)
      (pss_one (ps_ret (pe_call G__law_low hr__law_low (by rfl) T.m__law_low T.F__law_low.kp T.B__law_low .nil pass0 (pa_cons (pe_op op_add (pe_op op_mulW (pe_ix ix_tup (pv 0) pe_int (fun _ _ => rfl)) (pe_ix ix_tup (pv 1) pe_int (fun _ _ => rfl))) (pe_op op_mulW (pe_ix ix_tup (pv 1) pe_int (fun _ _ => rfl)) (pe_ix ix_tup (pv 0) pe_int (fun _ _ => rfl)))) (pa_cons (pe_op op_mulW (pe_ix ix_tup (pv 0) pe_int (fun _ _ => rfl)) (pe_ix ix_tup (pv 1) pe_int (fun _ _ => rfl))) pa_nil)))))), ?_⟩
    obtain ⟨a1, a2⟩ := wt_lt f
    obtain ⟨b1, b2⟩ := wt_lt g
    have lp : f.1.natAbs < 2 ^ 4000 := pow_le a1 (by omega)
    have lq : f.2.natAbs < 2 ^ 4000 := pow_le a2 (by omega)
    have lr : g.1.natAbs < 2 ^ 4000 := pow_le b1 (by omega)
    have ls : g.2.natAbs < 2 ^ 4000 := pow_le b2 (by omega)
    have go : sp_low [.int (f.1 * g.2 + g.1 * f.2), .int (f.2 * g.2)] H Q E0 := lows (by have := Int.mul_le_mul lf.1 lg.1 (by decide) (by have := lf.1; omega); omega) (two_add (mulL lp ls) (mulL lr lq)) (pow_le (mulL lq ls) (by decide)) k
    refine seq_op fun N hN => ?_
    walk_at "rs"
    have rest : N [some (.ref a), some (.ref b)] H := hN _ _ (by
      walk_at "rs"
      refine ⟨_, ha, _, rfl, _, hb, _, rfl, _, rfl, _, rfl, mulW lp ls, _, hb, _, rfl, _, ha, _, rfl, _, rfl, _, rfl, mulW lr lq, _, ha, _, rfl, _, hb, _, rfl, _, rfl, _, rfl, mulW lq ls, ?_⟩
      exact go)
    refine ⟨_, ha, _, rfl, _, rfl, ite2 (fun z1 => ⟨_, hb, _, rfl, _, rfl, ite2 (fun z2 => ?_) (fun _ => rest)⟩) (fun _ => rest)⟩
    refine ⟨_, ha, _, rfl, _, hb, _, rfl, _, rfl, _, rfl, by decide, fun t H1 s1 t0 t1 => k t H1 s1 t0 ?_⟩
    rw [plus_whole z1 z2]
    exact t1
def sp_times2 (K : PySem.W.Frag) : Sp := fun vs H Q _ => ∃ (a b : Addr) (f g : Fr), vs = [.ref a, .ref b] ∧ Pr K H a f.1 f.2 ∧ Pr K H b g.1 g.2 ∧ low f ∧ low g ∧ wt f ≤ 3990 ∧ wt g ≤ 3990 ∧
  ∀ t H', Same H H' → H t = none → H' t = some (.tup [.int (frP (f.1 * g.1) (f.2 * g.2)), .int (frQ (f.1 * g.1) (f.2 * g.2))]) → Q (.ref t) H'
theorem ok__law_times (T : Txt w K mg) : FnOk P w K mg base CX0 2 T.a__law_times T.d__law_times ["one", "two"] (sp_times2 K) := by
  refine T.F__law_times.ok sc__law_times (fun vs H Q E h => ?_) (fun cdv A outer s H vs Q E hr h => ?_)
  · obtain ⟨a, b, f, g, rfl, _⟩ := h
    rfl
  · obtain ⟨a, b, f, g, rfl, ha, hb, lf, lg, wf, wg, k⟩ := h
    have hr__law_low : Room 1 _ := hr
    have G__law_low := ok__law_low (P := P) (base := base) T
    refine ⟨_, (pss_one (ps_ret (pe_call G__law_low hr__law_low (by rfl) T.m__law_low T.F__law_low.kp T.B__law_low .nil pass0 (pa_cons (pe_op op_mulW (pe_ix ix_tup (pv 0) pe_int (fun _ _ => rfl)) (pe_ix ix_tup (pv 1) pe_int (fun _ _ => rfl))) (pa_cons (pe_op op_mulW (pe_ix ix_tup (pv 0) pe_int (fun _ _ => rfl)) (pe_ix ix_tup (pv 1) pe_int (fun _ _ => rfl))) pa_nil))))), ?_⟩
    obtain ⟨a1, a2⟩ := wt_lt f
    obtain ⟨b1, b2⟩ := wt_lt g
    have lp : f.1.natAbs < 2 ^ 4000 := pow_le a1 (by omega)
    have lq : f.2.natAbs < 2 ^ 4000 := pow_le a2 (by omega)
    have lr : g.1.natAbs < 2 ^ 4000 := pow_le b1 (by omega)
    have ls : g.2.natAbs < 2 ^ 4000 := pow_le b2 (by omega)
    walk_at "rs"
    refine ⟨_, ha, _, rfl, _, hb, _, rfl, _, rfl, _, rfl, mulW lp lr, _, ha, _, rfl, _, hb, _, rfl, _, rfl, _, rfl, mulW lq ls, ?_⟩
    exact lows (by have := Int.mul_le_mul lf.1 lg.1 (by decide) (by have := lf.1; omega); omega) (pow_le (mulL lp lr) (by decide)) (pow_le (mulL lq ls) (by decide)) k
end
end LK

set_option Elab.async false
set_option linter.all false
set_option maxRecDepth 100000
namespace LK
open PySem PySem.Spec PyProof.Rows L2
local macro_rules | `(tactic| walk_at "rs") => `(tactic| simp only [cxK, cxNK, tCallZ, tAsg, tOp, rI0, rS0, rB0, rI, rU, tUn, rEq, rNe, rIxL, rIxT, rIxS, rSetL, rSlLU, rSlS, rSlU, rCatL, rCatU, rRepL, rIn, tVar, tC, gName, gSub, tIfS, tTest, tB, tAnd, tOr, tNot, tNotV, tAndV, tOrV, tIf, tCall, tCons, tNil, tCB, tDrop, tRet, tRetN, tNext, tLstU, tTupU, tM0, tM1, tPar, tPar3, tAug, ipI, tBM, tBM0, rAppend, rPop, tBreak, sDPut, tDGet, tDGet2, tCont, tChain, tSl, tPart, tNoPart, L2.start, List.map, List.length_cons, List.length_nil, List.replicate, List.cons_append, List.nil_append, List.append_nil, List.getElem?_cons_zero, List.getElem?_cons_succ, List.set_cons_zero, List.set_cons_succ, Option.some.injEq, V.int.injEq, V.ref.injEq, V.str.injEq, V.bl.injEq, exists_eq_left', exists_eq_left, exists_and_left, decide_eq_true_eq, List.cons.injEq, and_true, true_and, scal, Bool.not_eq_true', decide_eq_false_iff_not, Nat.zero_add, Nat.reduceAdd, Nat.reduceSub, reduceCtorEq, false_and, exists_false, false_or, or_false, CPow, CPowW, CMul, CDiv, Int.reduceToNat, ↓reduceIte, wipe, sw, rv3, tListKeys, tDIn, tDNotIn, List.nil_append, List.singleton_append])
local macro_rules | `(tactic| walk_at "st") => `(tactic| (refine seq_op fun N hN => ?_; walk_at "rs"))
local macro_rules | `(tactic| walk_at "sd") => `(tactic| first | assumption | decide | omega)
local macro_rules | `(tactic| walk_at "rd") => `(tactic| repeat (first
  | refine ⟨_, SqL.of (by assumption), ?_⟩ | refine ⟨_, SqL.of upd_same, ?_⟩ | refine ⟨_, .inl (SqL.of (by assumption)), ?_⟩ | refine ⟨_, (by assumption : _ = some (HO.lst _)), ?_⟩ | refine ⟨_, upd_same, ?_⟩
  | refine ⟨_, rfl, ?_⟩ | refine And.intro (by walk_at "sd") ?_))

theorem keys_lift {H : Hp} : ∀ {kvs : List (List L2.Key × V)} {bs : List Addr} {ks : List (List Int)}, IsKeys H kvs bs → kvs.map (·.1) = ks.map (fun k => k.map Sum.inl) → ∃ L : List (Addr × List Int), bs = L.map (·.1) ∧ L.map (·.2) = ks ∧ ∀ q ∈ L, H q.1 = some (.tup (q.2.map V.int))
  | _, _, [], .nil, _ => ⟨[], rfl, rfl, fun q hq => absurd hq (by simp)⟩
  | _, _, _ :: _, .nil, e => by cases e
  | _, _, [], .cons _ _, e => by cases e
  | _, _, k :: ks, .cons (a := p) (b := b) h t, e => by
    injection e with e1 e2
    obtain ⟨L, h1, h2, h3⟩ := keys_lift t e2
    refine ⟨(b, k) :: L, by rw [List.map_cons, ← h1], by rw [List.map_cons, h2], fun q hq => ?_⟩
    rcases List.mem_cons.mp hq with rfl | hq
    · have h : H b = some (.tup (p.1.map kV)) := h
      rw [show p.1 = k.map Sum.inl from e1, kV_inl] at h
      exact h
    · exact h3 q hq
section
variable {P : Program} {w : World} {K : PySem.W.Frag} {mg : Str → Option Value} {base : Heap}
theorem ok__law_normal (T : Txt w K mg) : FnOk P w K mg base CX0 3 T.a__law_normal T.d__law_normal ["things"] (sp_norm K 1) := by
  refine T.F__law_normal.ok sc__law_normal (fun vs H Q E h => ?_) (fun cdv A outer s H vs Q E hr h => ?_)
  · obtain ⟨a, xs, items, rfl, _⟩ := h
    rfl
  · obtain ⟨a, xs, items, rfl, ha, hi, fit, k⟩ := h
    have hr__law_plus : Room 2 _ := hr
    have G__law_plus := ok__law_plus (P := P) (base := base) T
    have hu1 : (A.deeper (envOfC "_law_normal" (defScope s__law_normal) s.heap.objs.size T.a__law_normal cdv)).units + 1 < cLine := Nat.lt_of_le_of_lt (Nat.add_le_add_left (by decide : 1 ≤ 64) _) hr.units
    have lx := hi.len
    refine ⟨_, (pss_cons (ps_set (i := 1) sc__law_normal.nd rfl (Or.inr rfl) pe_dnewT)
      (pss_cons (ps_for PassesOwn.never rfl (pi_lt (pv 0)) (pg_name (i := 2) sc__law_normal.nd rfl (Or.inl rfl)) (pss_cons (ps_set (i := 3) sc__law_normal.nd rfl (Or.inl rfl) (pe_slice sl_tup (pv 2) po_none (po_some (pe_un un_neg pe_int))))
      (pss_one (ps_dput hu1 (pv 1) (pv 3) (pe_call G__law_plus hr__law_plus (by rfl) T.m__law_plus T.F__law_plus.kp T.B__law_plus .nil pass0 (pa_cons (pe_dget2 hu1 (pv 1) (pv 3) (pe_tupU (pa_cons pe_int (pa_cons pe_int pa_nil))) ⟨rfl, rfl, rfl, rfl⟩) (pa_cons (pe_ix ix_tup (pv 2) (pe_un un_neg pe_int) (fun _ _ => rfl)) pa_nil))) rfl))))
      (pss_one (ps_ret (pe_callTy call_tupleN (by rfl) T.n_tuple (by decide +kernel) (pa_cons (pe_lc (own := [("key", 3)]) (g := gName 3) (tt := _) rfl sc__law_normal.nd (pi_list (pe_callB (cr_sortT (d := 1) (B := 2000) (by decide)) (by rfl) T.n_sorted (by decide +kernel) (pa_cons (pe_listKeys rfl (pv 1) (by rfl) T.n_list (by decide +kernel)) pa_nil))) (blkOk_by (own := [("key", 3)]) (N := N__law_normal) (sc := defScope s__law_normal) (by decide +kernel)) (fun _ _ _ _ _ => pg_name (i := 3) sc__law_normal.nd rfl (Or.inl rfl)) (fun _ _ _ _ _ => pts_one (pt_cmpR op_neI (pe_ix (ix_tupK (K := K) rfl) (pe_dget hu1 (pv 1) (pv 3) (fun _ _ => rfl)) pe_int (fun _ _ => rfl)) pe_int (nomark _))) (fun _ _ _ _ _ => (pe_op (op_catUK (K := K) rfl) (pv 3) (pe_tupU (pa_cons (pe_dget hu1 (pv 1) (pv 3) (fun _ _ => rfl)) pa_nil))))) pa_nil)))))), ?_⟩
    refine seq_op fun N hN => ?_
    walk_at "rs"
    refine fun D hD => hN _ _ ?_
    clear hN N
    have s0 : Same H (L2.upd H D (.dT [])) := same_upd hD
    refine cut_seq (fun σ G => ∃ (x2 x3 : Option V) (kvs : List (List L2.Key × V)), σ = [some (.ref a), some (.ref D), x2, x3] ∧ Same H G ∧ G D = some (.dT kvs) ∧ SumD (fun k => k.map (Sum.inl : Int → L2.Key)) 1 K G kvs items) (fun N hN => ?_) ?_
    · refine for_lt (K := K) (a := a) (xs := xs) (fun Q q => ⟨_, rfl, q⟩) ha (fun i σ G => ∃ (x2 x3 : Option V) (kvs : List (List L2.Key × V)), σ = [some (.ref a), some (.ref D), x2, x3] ∧ Same H G ∧ G D = some (.dT kvs) ∧ SumD (fun k => k.map (Sum.inl : Int → L2.Key)) 1 K G kvs (items.take i)) ⟨_, _, [], rfl, s0, upd_same, ⟨?_, ?_, ?_, ?_, ?_⟩⟩ (fun i σ G ⟨_, _, _, _, s1, _⟩ => s1) ?_ ?_
      · intro k k' h1 h2 e
        exact inl_inj e
      · intro it hit; simp at hit
      · simp
      · intro x hx; simp at hx
      · intro it hit; simp at hit
      · rintro i x σ G hx ⟨x2, x3, kvs, rfl, s1, hG, sd⟩
        obtain ⟨p, u, ks, f, ex, ee, h1, h2⟩ := hi.get (n := i) (by rw [← lx]; exact (List.getElem?_eq_some_iff.mp hx).1)
        obtain rfl : x = .ref p := by rw [ex] at hx; exact (Option.some.inj hx).symm
        obtain ⟨lf, wf, ld, bd⟩ := fit.it _ (List.mem_of_getElem? ee)
        dsimp only at lf wf ld bd
        obtain ⟨c, rfl⟩ : ∃ c, ks = [c] := by
          match ks, ld with
          | [c], _ => exact ⟨c, rfl⟩
        show tSeq _ _ _ [some (V.ref a), some (V.ref D), some (V.ref p), x3] G
        refine seq_op fun N1 hN1 => ?_
        walk_at "rs"
        refine ⟨p, _, rfl, Same.seqT s1 h1, (fun z => absurd z.2 (show ¬ HT.sIx 2 2 (some (-1)) = 2 by decide)), fun kq kq0 => hN1 _ _ ?_⟩
        clear hN1 N1
        have s2 : Same G (L2.upd G kq (.tup [.int c])) := same_upd kq0
        have hkq : (L2.upd G kq (.tup [.int c])) kq = some (.tup [.int c]) := upd_same
        have ekc : cutV (List.map V.int [c] ++ [V.ref u]) none (some (-1)) = [.int c] := rfl
        rw [ekc]
        generalize L2.upd G kq (.tup [.int c]) = G1 at s2 hkq ⊢
        walk_at "rs"
        have hl : ∀ it ∈ items.take i, low it.2 := fun it hit => (fit.it it (List.mem_of_mem_take hit)).1
        obtain ⟨la, _, wa⟩ := accF_spec hl [c]
        have wb : wt (accF (items.take i) [c]) ≤ 3900 := Nat.le_trans wa (Nat.le_trans (wtS_take items i [c]) (fit.wt [c]))
        have es : items.take (i + 1) = items.take i ++ [([c], f)] := by
          obtain ⟨hk, e⟩ := List.getElem?_eq_some_iff.mp ee
          rw [← List.take_append_getElem hk, e]
        have kl : kvs.length < sizeLine := by
          have := nodup_len sd.nd (S := items.map fun it => it.1.map (Sum.inl : Int → L2.Key)) fun x hx => by
            obtain ⟨it, hit, e⟩ := sd.key x hx
            exact List.mem_map.mpr ⟨it, List.mem_of_mem_take hit, e.symm⟩
          rw [List.length_map, List.length_map] at this
          exact Nat.lt_of_le_of_lt (Nat.le_trans this fit.len) (by decide)
        have hG1 := s2 _ _ hG
        refine ⟨.inr ⟨kvs, .inl hG1⟩, by decide, fun z0 G2 s3 n3 t3 => ⟨_, DGet.t (k := [Sum.inl c]) (s3 _ _ hG1) (s3 _ _ hkq), _, Same.seqT (Same.trans s1 (Same.trans s2 s3)) h1, _, rfl, ?_⟩⟩
        have s23 := Same.trans s2 s3
        have pz : ∃ v, (valV kvs ([Sum.inl c] : List L2.Key)).getD (V.ref z0) = .ref v ∧ Pr K G2 v (accF (items.take i) [c]).1 (accF (items.take i) [c]).2 := by
          rcases sd.get (k := [c]) rfl with ⟨v, hv, pv⟩ | ⟨hv, ez⟩
          · exact ⟨v, by rw [show valV kvs ([Sum.inl c] : List L2.Key) = some (.ref v) from hv]; rfl, Same.seqT s23 pv⟩
          · exact ⟨_, by rw [show valV kvs ([Sum.inl c] : List L2.Key) = none from hv]; rfl, by rw [ez]; exact .inl (.inl t3)⟩
        obtain ⟨v, ev, pv⟩ := pz
        rw [ev]
        refine ⟨v, u, _, f, rfl, pv, Same.seqT (Same.trans s1 s23) h2, la, lf, by omega, by omega, fun t G3 s4 t0 t1 => ?_⟩
        have hG3 := s4 _ _ (s3 _ _ hG1)
        have s24 := Same.trans s23 s4
        have sp := sd.put (it := ([c], f)) rfl (H' := L2.upd G3 D (.dT (putK kvs [Sum.inl c] (.ref t)))) (t := t) (fun u p q h => seqT_updO (notT_dT hG3) (Same.seqT s24 h)) (seqT_updO (notT_dT hG3) (.inl (.inl t1)))
        refine ⟨_, DPut.t (k := [Sum.inl c]) hG3 (s4 _ _ (s3 _ _ hkq)) kl, _, _, ⟨rfl, rfl⟩, ?_, _, upd_same, ?_⟩
        · intro b o e
          have ne : b ≠ D := fun z => by rw [z, hD] at e; cases e
          rw [upd_ne ne]
          exact s24 _ _ (s1 _ _ e)
        · rw [es]
          exact sp
      · rintro σ G ⟨x2, x3, kvs, rfl, s1, hG, sd⟩
        rw [lx, List.take_length] at sd
        exact hN _ _ ⟨_, _, _, rfl, s1, hG, sd⟩
    · rintro σ G ⟨x2, x3, kvs, rfl, s1, hG, sd⟩
      walk_at "rs"
      have hl : ∀ it ∈ items, low it.2 := fun it hit => (fit.it it hit).1
      obtain ⟨S, sS, mS⟩ := fit.few
      have ksE : ∃ ks : List (List Int), kvs.map (·.1) = ks.map (fun k => k.map Sum.inl) ∧ ∀ k ∈ ks, ∃ it ∈ items, it.1 = k := by
        have : ∀ l : List (List L2.Key), (∀ x ∈ l, ∃ it ∈ items, x = it.1.map (Sum.inl : Int → L2.Key)) → ∃ ks : List (List Int), l = ks.map (fun k => k.map Sum.inl) ∧ ∀ k ∈ ks, ∃ it ∈ items, it.1 = k := by
          intro l
          induction l with
          | nil => intro _; exact ⟨[], rfl, fun k hk => by cases hk⟩
          | cons x l ih =>
            intro h
            obtain ⟨it, hit, e⟩ := h x List.mem_cons_self
            obtain ⟨ks, e2, e3⟩ := ih fun y hy => h y (List.mem_cons_of_mem _ hy)
            refine ⟨it.1 :: ks, by rw [List.map_cons, e, e2], fun k hk => ?_⟩
            rcases List.mem_cons.mp hk with rfl | hk
            · exact ⟨it, hit, rfl⟩
            · exact e3 k hk
        exact this _ sd.key
      obtain ⟨ks, eks, mk1⟩ := ksE
      have ndk : ks.Nodup := by
        have := sd.nd
        rw [eks] at this
        exact (List.pairwise_map.mp this).imp fun h e => h (by rw [e])
      have mk : ∀ c, c ∈ ks ↔ ∃ it ∈ items, it.1 = c := fun c => by
        refine ⟨mk1 c, ?_⟩
        rintro ⟨it, hit, rfl⟩
        obtain ⟨u, h1, _⟩ := sd.val it hit
        have := valV_mem h1
        rw [eks] at this
        obtain ⟨y, hy, e2⟩ := List.mem_map.mp this
        rw [← inl_inj e2]; exact hy
      have lk : ks.length < 64 := by
        have := nodup_len (S := S) ndk fun x hx => by
          obtain ⟨it, hit, e⟩ := (mk x).mp hx
          rw [← e]; exact mS it hit
        omega
      have kb : ∀ k ∈ ks, k.length = 1 ∧ TS.Bd 2000 k := fun k hk => by
        obtain ⟨it, hit, e⟩ := (mk k).mp hk
        obtain ⟨_, _, l1, l2⟩ := fit.it it hit
        rw [← e]; exact ⟨l1, l2⟩
      simp only [iList, tCB, tCons, tNil, tListKeys, tVar, List.getElem?_cons_succ, List.getElem?_cons_zero, Option.some.injEq, exists_eq_left', tLc]
      refine ⟨D, kvs, rfl, .inl hG, fun l bs l0 hbs => ?_⟩
      obtain ⟨L, rfl, eL, hL⟩ := keys_lift hbs eks
      have sl : Same G (L2.upd G l (.lst ((L.map (·.1)).map V.ref))) := same_upd l0
      have hl1 : (L2.upd G l (.lst ((L.map (·.1)).map V.ref))) l = some (.lst ((L.map (·.1)).map V.ref)) := upd_same
      generalize L2.upd G l (.lst ((L.map (·.1)).map V.ref)) = G0 at sl hl1 ⊢
      refine ⟨l, _, rfl, SqL.of hl1, by rw [List.length_map, List.length_map, ← List.length_map (f := (·.2)), eL]; exact lk, fun x hx => ?_, fun yy p pm srt0 p0 => ?_⟩
      · rw [List.map_map] at hx
        obtain ⟨q, hq, rfl⟩ := List.mem_map.mp hx
        have hk2 : q.2 ∈ ks := by rw [← eL]; exact List.mem_map_of_mem hq
        exact ⟨q.2, ⟨q.1, rfl, .inl (.inl (sl _ _ (hL q hq)))⟩, (kb _ hk2).1, (kb _ hk2).2⟩
      rw [List.map_map] at pm
      obtain ⟨ss, rfl, pmL⟩ := perm_lift (f := fun q : Addr × List Int => V.ref q.1) (L := L) pm rfl
      have hs : ∀ q ∈ ss, G0 q.1 = some (.tup (q.2.map V.int)) := fun q hq => sl _ _ (hL q (pmL.mem_iff.mp hq))
      have pm : (ss.map (·.2)).Perm ks := by rw [← eL]; exact pmL.map _
      have pw : ss.Pairwise fun q r => cd q.2 ≤ cd r.2 := by
        have := List.pairwise_map.mp srt0
        exact this.imp_of_mem fun {q r} hq hr h => h q.2 r.2 ⟨q.1, rfl, .inl (.inl (hs q hq))⟩ ⟨r.1, rfl, .inl (.inl (hs r hr))⟩
      clear srt0 pmL hL hbs
      have sG : Same G (L2.upd G0 p (.lst (ss.map fun q => V.ref q.1))) := Same.trans sl (same_upd p0)
      have sg0 : Same G0 (L2.upd G0 p (.lst (ss.map fun q => V.ref q.1))) := same_upd p0
      have hp1 : (L2.upd G0 p (.lst (ss.map fun q => V.ref q.1))) p = some (.lst (ss.map fun q => V.ref q.1)) := upd_same
      generalize L2.upd G0 p (.lst (ss.map fun q => V.ref q.1)) = G1 at *
      have sd1 : SumD (fun k => k.map (Sum.inl : Int → L2.Key)) 1 K G1 kvs items := sd.upd fun u p q h => Same.seqT sG h
      have hG1 := sG _ _ hG
      have lss : ss.length = ks.length := by rw [← pm.length_eq, List.length_map]
      have o : ∀ z : Int, cd [z] = z := fun z => by
        show z * 2000 ^ 0 + 0 = z
        omega
      have srt : (ss.map (·.2)).Pairwise fun a b => cd a < cd b := by
        have nd := pm.nodup_iff.mpr ndk
        have pw2 : (ss.map (·.2)).Pairwise fun a b => cd a ≤ cd b := List.pairwise_map.mpr pw
        refine (pw2.and nd).imp_of_mem fun {x y} hx hy h => ?_
        refine Int.lt_iff_le_and_ne.mpr ⟨h.1, fun e => h.2 ?_⟩
        obtain ⟨l1, b1⟩ := kb x (pm.mem_iff.mp hx)
        obtain ⟨l2, b2⟩ := kb y (pm.mem_iff.mp hy)
        match x, y, l1, l2, e with
        | [u], [v], _, _, e => rw [o, o] at e; rw [e]
      have nm := norm_of (items := items) (L := ss.map (·.2)) hl srt fun it hit => pm.mem_iff.mpr ((mk it.1).mpr ⟨it, hit, rfl⟩)
      refine ⟨p, rfl, ⟨_, SqL.of hp1⟩, fun M hM => lc_filtR (n := (ss.map fun q => V.ref q.1).length) walk_list (fun i H ys => Its K H ys ((((ss.map fun q : Addr × List Int => q.2).take i).filter fun k => decide (accF items k ≠ (0, 1))).map fun k => (k, accF items k))) (fun i => decide (accF items ((ss.map fun q : Addr × List Int => q.2).getD i []) ≠ (0, 1))) hM (by rw [List.length_map]; omega) (fun i H H' ys s h => h.same s) (fun i H ys zs o hp h => h.updO (notT_lst hp)) (fun H => .nil) (fun H2 s2 => s2.seq (SqL.of hp1)) (fun i x H2 H3 hi s2 y => ?_) (gm_name 3) fun H2 ys s2 h2 r2 => ?_⟩
      · obtain ⟨rfl, hx⟩ := y
        rw [List.length_map] at hi
        have eq : ss[i]? = some ss[i] := List.getElem?_eq_getElem hi
        have ei : (ss.map (·.2))[i]? = some ss[i].2 := by rw [List.getElem?_map, eq]; rfl
        obtain rfl : x = .ref ss[i].1 := by
          have hx : (ss.map fun q => V.ref q.1)[i]? = some x := hx
          rw [List.getElem?_map, eq] at hx
          exact (Option.some.inj hx).symm
        have et : (ss.map (·.2)).take (i + 1) = (ss.map (·.2)).take i ++ [ss[i].2] := by
          obtain ⟨hk, e⟩ := List.getElem?_eq_some_iff.mp ei
          rw [← List.take_append_getElem hk, e]
        have eg : (ss.map (·.2)).getD i [] = ss[i].2 := by rw [List.getD_eq_getElem?_getD, ei]; rfl
        rw [eg]
        have hc : ss[i].2 ∈ ks := pm.mem_iff.mp (List.mem_of_getElem? ei)
        have hq1 := hs ss[i] (List.getElem_mem hi)
        generalize ss[i] = q at *
        obtain ⟨qa, c⟩ := q
        dsimp only at *
        obtain ⟨it, hit, ec⟩ := (mk c).mp hc
        obtain ⟨u, hv, pu⟩ := sd1.val it hit
        rw [ec] at hv pu
        have hv : valV kvs (c.map (Sum.inl : Int → L2.Key)) = some (.ref u) := hv
        have hqk : G1 qa = some (.tup ((c.map (Sum.inl : Int → L2.Key)).map kV)) := by rw [kV_inl]; exact sg0 _ _ hq1
        refine ⟨Same.refl _, rfl, fun Qt hq => ?_, fun pf H4 ys h => ?_, fun pt H4 s4 Q2 hq => ?_⟩
        · walk_at "rs"
          have hd := DGet.t (k := c.map (Sum.inl : Int → L2.Key)) (s2 _ _ hG1) (s2 _ _ hqk)
          rw [hv] at hd
          refine ⟨_, hd, u, rfl, _, Same.seqT s2 pu, _, rfl, _, rfl, ?_⟩
          have e : (!decide ((accF items c).1 = 0)) = decide (accF items c ≠ (0, 1)) := by
            by_cases z : accF items c = (0, 1)
            · rw [z]; rfl
            · have n1 : (accF items c).1 ≠ 0 := fun z1 => z ((low_null (accF_spec hl c).1).mp z1)
              rw [decide_eq_true (p := accF items c ≠ (0, 1)) z, decide_eq_false n1]
              rfl
          rw [e]
          exact hq _ (Same.refl _)
        · rw [et, List.filter_append, List.map_append]
          simp only [List.map_nil, List.filter_cons, pf, List.filter_nil]
          simpa using h
        · walk_at "rs"
          have s24 := Same.trans s2 s4
          have hd := DGet.t (k := c.map (Sum.inl : Int → L2.Key)) (s24 _ _ hG1) (s24 _ _ hqk)
          rw [hv] at hd
          refine ⟨_, hd, by decide, fun q5 H5 s5 n5 t5 => ⟨_, .inl (.inl (s5 _ _ (s24 _ _ (sg0 _ _ hq1)))), _, .inl (.inl t5), ?_, fun q6 H6 s6 hq6 => hq _ H6 (Same.trans s5 s6) fun ys h => ?_⟩⟩
          · rw [List.length_map, (kb c hc).1]
            exact (show 1 + 1 ≤ sizeLine by decide)
          · rw [et, List.filter_append, List.map_append]
            refine h.app ?_
            simp only [List.map_cons, List.map_nil, List.filter_cons, pt, List.filter_nil, if_true]
            exact .cons hq6 (Same.seqT (Same.trans s24 (Same.trans s5 s6)) pu) .nil
      · rw [List.length_map, show ss.length = (ss.map (·.2)).length from (List.length_map ..).symm, List.take_length] at r2
        refine ⟨M, rfl, ys, SqL.of h2, fun t H3 s3 t0 t1 => k t ys _ H3 (Same.trans s1 (Same.trans sG (Same.trans s2 s3))) (.inl (.inl t1)) (r2.same s3) nm ?_⟩
        rw [List.length_map]
        exact Nat.lt_of_le_of_lt (List.length_filter_le _ _) (by rw [List.length_map]; omega)
end
end LK

set_option Elab.async false
set_option linter.all false
set_option maxRecDepth 100000
namespace LK
open PySem PySem.Spec PyProof.Rows L2
local macro_rules | `(tactic| walk_at "rs") => `(tactic| simp only [cxK, cxNK, tCallZ, tAsg, tOp, rI0, rS0, rB0, rI, rU, tUn, rEq, rNe, rIxL, rIxT, rIxS, rSetL, rSlLU, rSlS, rSlU, rCatL, rCatU, rRepL, rIn, tVar, tC, gName, gSub, tIfS, tTest, tB, tAnd, tOr, tNot, tNotV, tAndV, tOrV, tIf, tCall, tCons, tNil, tCB, tDrop, tRet, tRetN, tNext, tLstU, tTupU, tM0, tM1, tPar, tPar3, tAug, ipI, tBM, tBM0, rAppend, rPop, tBreak, sDPut, tDGet, tDGet2, tCont, tChain, tSl, tPart, tNoPart, L2.start, List.map, List.length_cons, List.length_nil, List.replicate, List.cons_append, List.nil_append, List.append_nil, List.getElem?_cons_zero, List.getElem?_cons_succ, List.set_cons_zero, List.set_cons_succ, Option.some.injEq, V.int.injEq, V.ref.injEq, V.str.injEq, V.bl.injEq, exists_eq_left', exists_eq_left, exists_and_left, decide_eq_true_eq, List.cons.injEq, and_true, true_and, scal, Bool.not_eq_true', decide_eq_false_iff_not, Nat.zero_add, Nat.reduceAdd, Nat.reduceSub, reduceCtorEq, false_and, exists_false, false_or, or_false, CPow, CPowW, CMul, CDiv, Int.reduceToNat, ↓reduceIte, wipe, sw, rv3, tListKeys, tDIn, tDNotIn, List.nil_append, List.singleton_append])
local macro_rules | `(tactic| walk_at "st") => `(tactic| (refine seq_op fun N hN => ?_; walk_at "rs"))
local macro_rules | `(tactic| walk_at "sd") => `(tactic| first | assumption | decide | omega)
local macro_rules | `(tactic| walk_at "rd") => `(tactic| repeat (first
  | refine ⟨_, SqL.of (by assumption), ?_⟩ | refine ⟨_, SqL.of upd_same, ?_⟩ | refine ⟨_, .inl (SqL.of (by assumption)), ?_⟩ | refine ⟨_, (by assumption : _ = some (HO.lst _)), ?_⟩ | refine ⟨_, upd_same, ?_⟩
  | refine ⟨_, rfl, ?_⟩ | refine And.intro (by walk_at "sd") ?_))

/-! ### dicts of whole numbers as fractions -/
theorem valV_of_nd {κ : Type} [DecidableEq κ] : ∀ {kvs : List (κ × V)} {p : κ × V}, (kvs.map (·.1)).Nodup → p ∈ kvs → valV kvs p.1 = some p.2
  | [], _, _, h => by cases h
  | q :: r, p, nd, h => by
    rw [List.map_cons, List.nodup_cons] at nd
    rcases List.mem_cons.mp h with rfl | h
    · exact valV_pos rfl
    · rw [valV_neg fun e => nd.1 (e ▸ List.mem_map_of_mem h)]
      exact valV_of_nd nd.2 h
theorem valV_none {κ : Type} [DecidableEq κ] : ∀ {kvs : List (κ × V)} {k : κ}, k ∉ kvs.map (·.1) → valV kvs k = none
  | [], _, _ => rfl
  | q :: r, k, h => by
    rw [List.map_cons, List.mem_cons, not_or] at h
    rw [valV_neg (Ne.symm h.1)]
    exact valV_none h.2
/-- the sums so far -/
structure Gvn (K : PySem.W.Frag) (H : Hp) (kvs : List (L2.Key × V)) (R : Int → Int) : Prop where
  nd : (kvs.map (·.1)).Nodup
  val : ∀ p ∈ kvs, ∃ (c : Int) (u : Addr), p = (Sum.inl c, V.ref u) ∧ Pr K H u (R c) 1
  out : ∀ c, (Sum.inl c : L2.Key) ∉ kvs.map (·.1) → R c = 0
theorem Gvn.upd {K : PySem.W.Frag} {H H' : Hp} {kvs : List (L2.Key × V)} {R : Int → Int} (g : Gvn K H kvs R) (carry : ∀ u p q, Pr K H u p q → Pr K H' u p q) : Gvn K H' kvs R := ⟨g.nd, fun p hp => let ⟨c, u, e, h⟩ := g.val p hp; ⟨c, u, e, carry _ _ _ h⟩, g.out⟩
theorem Gvn.get {K : PySem.W.Frag} {H : Hp} {kvs : List (L2.Key × V)} {R : Int → Int} (g : Gvn K H kvs R) (c : Int) : (∃ u, valV kvs (Sum.inl c) = some (.ref u) ∧ Pr K H u (R c) 1) ∨ (valV kvs (Sum.inl c) = none ∧ R c = 0) := by
  by_cases h : (Sum.inl c : L2.Key) ∈ kvs.map (·.1)
  · obtain ⟨p, hp, e⟩ := List.mem_map.mp h
    obtain ⟨c2, u, rfl, hu⟩ := g.val p hp
    injection e with e
    obtain rfl : c2 = c := e
    exact .inl ⟨u, valV_of_nd g.nd hp, hu⟩
  · exact .inr ⟨valV_none h, g.out c h⟩
theorem nodup_put {κ : Type} [DecidableEq κ] {kvs : List (κ × V)} {k : κ} {v : V} (nd : (kvs.map (·.1)).Nodup) : ((putK kvs k v).map (·.1)).Nodup := by
  rw [keys_put]
  by_cases c : (valV kvs k).isSome = true
  · rw [if_pos c]; exact nd
  · rw [if_neg c]
    refine List.nodup_append.mpr ⟨nd, by simp, fun x hx y hy e => ?_⟩
    obtain rfl := List.mem_singleton.mp hy
    subst e
    obtain ⟨p, hp, e2⟩ := List.mem_map.mp hx
    rw [← e2, valV_of_nd nd hp] at c
    exact c rfl
theorem mem_put {κ : Type} [DecidableEq κ] {kvs : List (κ × V)} {k : κ} {v : V} {p : κ × V} (nd : (kvs.map (·.1)).Nodup) (h : p ∈ putK kvs k v) : (p = (k, v)) ∨ (p ∈ kvs ∧ p.1 ≠ k) := by
  have e := valV_of_nd (nodup_put (k := k) (v := v) nd) h
  rw [valV_put] at e
  by_cases c : p.1 = k
  · rw [if_pos c] at e
    exact .inl (Prod.ext c (Option.some.inj e).symm)
  · rw [if_neg c] at e
    refine .inr ⟨?_, c⟩
    have : p.1 ∈ kvs.map (·.1) := valV_mem e
    obtain ⟨q, hq, e2⟩ := List.mem_map.mp this
    have e3 := valV_of_nd nd hq
    rw [e2, e] at e3
    rw [show p = q from Prod.ext e2.symm (Option.some.inj e3)]
    exact hq
theorem key_put {κ : Type} [DecidableEq κ] {kvs : List (κ × V)} {k x : κ} {v : V} : x ∈ (putK kvs k v).map (·.1) ↔ x = k ∨ x ∈ kvs.map (·.1) := by
  rw [keys_put]
  by_cases c : (valV kvs k).isSome = true
  · rw [if_pos c]
    refine ⟨.inr, fun h => h.elim (fun e => ?_) id⟩
    subst e
    obtain ⟨v, hv⟩ := Option.isSome_iff_exists.mp c
    exact valV_mem hv
  · rw [if_neg c, List.mem_append, List.mem_singleton]
    exact or_comm
theorem Gvn.put {K : PySem.W.Frag} {H H' : Hp} {kvs : List (L2.Key × V)} {R : Int → Int} (g : Gvn K H kvs R) {t : Int} {u : Addr} {z : Int} (carry : ∀ u p q, Pr K H u p q → Pr K H' u p q) (hu : Pr K H' u (R t + z) 1) : Gvn K H' (putK kvs (Sum.inl t) (.ref u)) (fun c => R c + (if t = c then z else 0)) := by
  refine ⟨nodup_put g.nd, fun p hp => ?_, fun c hc => ?_⟩
  · rcases mem_put g.nd hp with rfl | ⟨hp, ne⟩
    · exact ⟨t, u, rfl, by rw [if_pos rfl]; exact hu⟩
    · obtain ⟨c, v, rfl, h⟩ := g.val p hp
      refine ⟨c, v, rfl, ?_⟩
      rw [if_neg fun e => ne (by rw [e]), Int.add_zero]
      exact carry _ _ _ h
  · rw [key_put, not_or] at hc
    rw [if_neg fun e => hc.1 (by rw [e]), Int.add_zero]
    exact g.out c hc.2
/-- a dict with just the numbers that are no 0 -/
structure Gft (K : PySem.W.Frag) (H : Hp) (kvs : List (L2.Key × V)) (R : Int → Int) : Prop where
  g : Gvn K H kvs R
  nz : ∀ c, (Sum.inl c : L2.Key) ∈ kvs.map (·.1) → R c ≠ 0
theorem Gft.upd {K : PySem.W.Frag} {H H' : Hp} {kvs : List (L2.Key × V)} {R : Int → Int} (g : Gft K H kvs R) (carry : ∀ u p q, Pr K H u p q → Pr K H' u p q) : Gft K H' kvs R := ⟨g.g.upd carry, g.nz⟩
theorem Gft.keys {K : PySem.W.Frag} {H H' : Hp} {kvs : List (L2.Key × V)} {R : Int → Int} (g : Gft K H kvs R) (c : Int) : (Sum.inl c : L2.Key) ∈ kvs.map (·.1) ↔ R c ≠ 0 := ⟨g.nz c, fun h => Classical.byContradiction fun n => h (g.g.out c n)⟩
theorem shp {z : Int} : SeqAt.shaped (.tuple [.int z, .int 1]) = true := rfl
theorem Gft.sameD {K : PySem.W.Frag} {H : Hp} {ks ls : List (L2.Key × V)} {R : Int → Int} (g : Gft K H ks R) (h : Gft K H ls R) : SameD K H ks ls := by
  have sub : ∀ {ks ls : List (L2.Key × V)}, Gft K H ks R → Gft K H ls R → ∀ x ∈ ks.map (·.1), x ∈ ls.map (·.1) := fun {ks ls} g h x hx => by
    obtain ⟨p, hp, rfl⟩ := List.mem_map.mp hx
    obtain ⟨c, u, rfl, _⟩ := g.g.val p hp
    exact (h.keys (H' := H) c).mpr (g.nz c hx)
  refine ⟨?_, fun p hp => ?_⟩
  · have a := nodup_len g.g.nd (sub g h)
    have b := nodup_len h.g.nd (sub h g)
    rw [List.length_map, List.length_map] at a b
    omega
  · obtain ⟨c, u, rfl, hu⟩ := g.g.val p hp
    have hx := sub g h _ (List.mem_map_of_mem hp)
    obtain ⟨q, hq, e⟩ := List.mem_map.mp hx
    obtain ⟨c2, u2, rfl, hu2⟩ := h.g.val q hq
    injection e with e
    obtain rfl : c2 = c := e
    exact ⟨.ref u2, .tuple [.int (R c2), .int 1], valV_of_nd h.g.nd hq, dp_pair hu, dp_pair hu2, shp⟩
/-- mergeK of pairs that are all ones -/
theorem merge_ones {K : PySem.W.Frag} {H : Hp} : ∀ (more kvs : List (L2.Key × V)) (S T : List Int), Gft K H kvs (fun c => if c ∈ S then 1 else 0) → more.map (·.1) = T.map Sum.inl → (∀ p ∈ more, ∃ u, p.2 = .ref u ∧ Pr K H u 1 1) → Gft K H (mergeK kvs more) (fun c => if c ∈ S ++ T then 1 else 0)
  | [], kvs, S, T, g, e, _ => by
    cases T with
    | nil => rw [List.append_nil]; exact g
    | cons _ _ => cases e
  | p :: more, kvs, S, T, g, e, h => by
    cases T with
    | nil => cases e
    | cons t T =>
      injection e with e1 e2
      obtain ⟨u, eu, hu⟩ := h p List.mem_cons_self
      have step : Gft K H (putK kvs p.1 p.2) (fun c => if c ∈ S ++ [t] then 1 else 0) := by
        rw [show p.1 = Sum.inl t from e1, eu]
        refine ⟨⟨nodup_put g.g.nd, fun q hq => ?_, fun c hc => ?_⟩, fun c hc => ?_⟩
        · rcases mem_put g.g.nd hq with rfl | ⟨hq, ne⟩
          · exact ⟨t, u, rfl, by rw [if_pos (by simp)]; exact hu⟩
          · obtain ⟨c, v, rfl, hv⟩ := g.g.val q hq
            have nz := g.nz c (List.mem_map_of_mem hq)
            refine ⟨c, v, rfl, ?_⟩
            by_cases m : c ∈ S
            · rw [if_pos m] at hv
              rw [if_pos (List.mem_append_left _ m)]; exact hv
            · rw [if_neg m] at nz
              exact absurd rfl nz
        · rw [key_put, not_or] at hc
          have := g.g.out c hc.2
          rw [if_neg]
          intro m
          rcases List.mem_append.mp m with m | m
          · rw [if_pos m] at this; cases this
          · exact hc.1 (by rw [List.mem_singleton.mp m])
        · rw [key_put] at hc
          rw [if_pos]
          · decide
          · rcases hc with e | hc
            · injection e with e
              rw [show c = t from e]; simp
            · have := g.nz c hc
              refine List.mem_append_left _ (Classical.byContradiction fun n => ?_)
              rw [if_neg n] at this
              exact this rfl
      have := merge_ones more (putK kvs p.1 p.2) (S ++ [t]) T step e2 fun q hq => h q (List.mem_cons_of_mem _ hq)
      rw [List.append_assoc] at this
      exact this
section
variable {P : Program} {w : World} {K : PySem.W.Frag} {mg : Str → Option Value} {base : Heap}
theorem paired_of {F : Addr → (L2.Key × V) → Prop} : ∀ {L : List (Addr × (L2.Key × V))}, (∀ q ∈ L, F q.1 q.2) → Paired F (L.map (·.1)) (L.map (·.2))
  | [], _ => .nil
  | q :: L, h => .cons (h q List.mem_cons_self) (paired_of fun r hr => h r (List.mem_cons_of_mem _ hr))
theorem gft_nil {H : Hp} {R : Int → Int} (h : ∀ c, R c = 0) : Gft K H [] R := ⟨⟨List.nodup_nil, fun p hp => absurd hp (by simp), fun c _ => h c⟩, fun c hc => absurd hc (by simp)⟩
def sp_ones (K : PySem.W.Frag) : Sp := fun vs H Q _ => ∃ (a : Addr) (S : List Int), vs = [.ref a] ∧ SqL K H a (S.map V.int) ∧ S.length ≤ 1000 ∧
  ∀ (D : Addr) (kvs : List (L2.Key × V)) H', Same H H' → H D = none → H' D = some (.dK kvs) → Gft K H' kvs (fun c => if c ∈ S then 1 else 0) → Q (.ref D) H'
theorem ok__law_ones (T : Txt w K mg) : FnOk P w K mg base CX0 1 T.a__law_ones T.d__law_ones ["some"] (sp_ones K) := by
  refine T.F__law_ones.ok sc__law_ones (fun vs H Q E h => ?_) (fun cdv A outer s H vs Q E hr h => ?_)
  · obtain ⟨a, S, rfl, _⟩ := h
    rfl
  · obtain ⟨a, S, rfl, ha, lS, k⟩ := h
    refine ⟨_, (pss_one (ps_ret (pe_callTy (call_dictP rfl) (by rfl) T.n_dict (by decide +kernel) (pa_cons (pe_lc (own := [("one", 1)]) (g := gName 1) (tt := tYes) rfl sc__law_ones.nd (pi_lt (pv 0)) (blkOk_by (own := [("one", 1)]) (N := N__law_ones) (sc := defScope s__law_ones) (by decide +kernel)) (fun _ _ _ _ _ => pg_name (i := 1) sc__law_ones.nd rfl (Or.inl rfl)) (fun _ _ _ _ _ => pts_nil) (fun _ _ _ _ _ => (pe_tupU (pa_cons (pv 1) (pa_cons (pe_tupU (pa_cons pe_int (pa_cons pe_int pa_nil))) pa_nil))))) pa_nil)))), ?_⟩
    walk_at "rs"
    refine lc_itn (K := K) (a := a) (xs := S.map V.int) (fun Q q => ⟨_, rfl, q⟩) (.inl ha) (fun i H ys => ∃ L : List (Addr × (L2.Key × V)), ys = L.map (fun q => V.ref q.1) ∧ (∀ q ∈ L, SqT K H q.1 [kV q.2.1, q.2.2] ∧ ∃ u, q.2.2 = .ref u ∧ Pr K H u 1 1) ∧ L.map (fun q => q.2.1) = (S.take i).map Sum.inl) (by rw [List.length_map]; omega)
      (fun i H H' ys s ⟨L, e1, e2, e3⟩ => ⟨L, e1, fun q hq => let ⟨h1, u, h2, h3⟩ := e2 q hq; ⟨Same.seqT s h1, u, h2, Same.seqT s h3⟩, e3⟩) (fun D i H ys zs o hp ⟨L, e1, e2, e3⟩ => ⟨L, e1, fun q hq => let ⟨h1, u, h2, h3⟩ := e2 q hq; ⟨seqT_updO (notT_lst hp) h1, u, h2, seqT_updO (notT_lst hp) h3⟩, e3⟩)
      (fun H => ⟨[], rfl, fun q hq => absurd hq (by simp), rfl⟩) (fun i x G ex s1 Q2 hq => ?_) fun D1 H1 ys s1 D10 D11 ly ⟨L, e1, e2, e3⟩ => ?_
    · obtain ⟨cc, rfl, ei⟩ : ∃ cc, x = V.int cc ∧ S[i]? = some cc := by
        rw [List.getElem?_map] at ex
        obtain ⟨cc, h1, h2⟩ := Option.map_eq_some_iff.mp ex
        exact ⟨cc, h2.symm, h1⟩
      walk_at "rs"
      refine ⟨by decide, fun p1 G1 s2 n1 t1 => ⟨by decide, fun p2 G2 s3 n2 t2 => hq _ G2 (Same.trans s2 s3) fun ys ⟨L, e1, e2, e3⟩ => ⟨L ++ [(p2, (Sum.inl cc, V.ref p1))], by rw [e1, List.map_append]; rfl, fun q hq => ?_, ?_⟩⟩⟩
      · rcases List.mem_append.mp hq with hq | hq
        · exact e2 q hq
        · rw [List.mem_singleton.mp hq]
          exact ⟨.inl (.inl t2), p1, rfl, .inl (.inl (s3 _ _ t1))⟩
      · obtain ⟨hk, e⟩ := List.getElem?_eq_some_iff.mp ei
        rw [← List.take_append_getElem hk, e, List.map_append, List.map_append, e3]
        rfl
    · rw [List.length_map, List.take_length] at e3
      refine ⟨D1, rfl, L.map (·.1), SqL.of (by rw [List.map_map, show (V.ref ∘ fun q : Addr × (L2.Key × V) => q.1) = fun q => V.ref q.1 from rfl, ← e1]; exact D11), L.map (·.2), paired_of fun q hq => (e2 q hq).1, fun p p0 => ?_⟩
      have s2 : Same H1 (L2.upd H1 p (.dK (mergeK [] (L.map (·.2))))) := same_upd p0
      refine k p _ _ (Same.trans s1 s2) (Same.dom s1 _ p0) upd_same ?_
      have := merge_ones (K := K) (H := H1) (L.map (·.2)) [] [] S (gft_nil fun c => rfl) (by rw [List.map_map]; exact e3) fun p hp => by
        obtain ⟨q, hq, rfl⟩ := List.mem_map.mp hp
        exact (e2 q hq).2
      exact this.upd fun u p q h => Same.seqT s2 h
end
end LK

set_option Elab.async false
set_option linter.all false
set_option maxRecDepth 100000
namespace LK
open PySem PySem.Spec PyProof.Rows L2
local macro_rules | `(tactic| walk_at "rs") => `(tactic| simp only [cxK, cxNK, tCallZ, tAsg, tOp, rI0, rS0, rB0, rI, rU, tUn, rEq, rNe, rIxL, rIxT, rIxS, rSetL, rSlLU, rSlS, rSlU, rCatL, rCatU, rRepL, rIn, tVar, tC, gName, gSub, tIfS, tTest, tB, tAnd, tOr, tNot, tNotV, tAndV, tOrV, tIf, tCall, tCons, tNil, tCB, tDrop, tRet, tRetN, tNext, tLstU, tTupU, tM0, tM1, tPar, tPar3, tAug, ipI, tBM, tBM0, rAppend, rPop, tBreak, sDPut, tDGet, tDGet2, tCont, tChain, tSl, tPart, tNoPart, L2.start, List.map, List.length_cons, List.length_nil, List.replicate, List.cons_append, List.nil_append, List.append_nil, List.getElem?_cons_zero, List.getElem?_cons_succ, List.set_cons_zero, List.set_cons_succ, Option.some.injEq, V.int.injEq, V.ref.injEq, V.str.injEq, V.bl.injEq, exists_eq_left', exists_eq_left, exists_and_left, decide_eq_true_eq, List.cons.injEq, and_true, true_and, scal, Bool.not_eq_true', decide_eq_false_iff_not, Nat.zero_add, Nat.reduceAdd, Nat.reduceSub, reduceCtorEq, false_and, exists_false, false_or, or_false, CPow, CPowW, CMul, CDiv, Int.reduceToNat, ↓reduceIte, wipe, sw, rv3, tListKeys, tDIn, tDNotIn, List.nil_append, List.singleton_append])
local macro_rules | `(tactic| walk_at "st") => `(tactic| (refine seq_op fun N hN => ?_; walk_at "rs"))
local macro_rules | `(tactic| walk_at "sd") => `(tactic| first | assumption | decide | omega)
local macro_rules | `(tactic| walk_at "rd") => `(tactic| repeat (first
  | refine ⟨_, SqL.of (by assumption), ?_⟩ | refine ⟨_, SqL.of upd_same, ?_⟩ | refine ⟨_, .inl (SqL.of (by assumption)), ?_⟩ | refine ⟨_, (by assumption : _ = some (HO.lst _)), ?_⟩ | refine ⟨_, upd_same, ?_⟩
  | refine ⟨_, rfl, ?_⟩ | refine And.intro (by walk_at "sd") ?_))

/-! ### the law's own gifts -/
def inC (cont : List Int) (x : It) : Bool := decide (x.1.headD 0 ∈ cont)
def hgt (cont : List Int) (sh : Int) (its : List It) : Int := its.foldl (fun h x => if x.1.headD 0 ∈ cont then h + x.2.1 else h) sh
theorem hgt_snoc (cont : List Int) (sh : Int) (its : List It) (x : It) : hgt cont sh (its ++ [x]) = if x.1.headD 0 ∈ cont then hgt cont sh its + x.2.1 else hgt cont sh its := by
  unfold hgt
  rw [List.foldl_append]
  rfl
theorem hgt_bd (cont : List Int) {sh : Int} : ∀ {its : List It}, (∀ x ∈ its, x.2.1.natAbs ≤ 1) → (hgt cont sh its).natAbs ≤ sh.natAbs + its.length := by
  have key : ∀ {its : List It} (s : Int), (∀ x ∈ its, x.2.1.natAbs ≤ 1) → (its.foldl (fun h x => if x.1.headD 0 ∈ cont then h + x.2.1 else h) s).natAbs ≤ s.natAbs + its.length := by
    intro its
    induction its with
    | nil => intro s _; exact Nat.le_refl _
    | cons x its ih =>
      intro s h
      have h1 := h x List.mem_cons_self
      rw [List.foldl_cons, List.length_cons]
      split
      · have := ih (s + x.2.1) fun y hy => h y (List.mem_cons_of_mem _ hy)
        omega
      · have := ih s fun y hy => h y (List.mem_cons_of_mem _ hy)
        omega
  intro its h
  exact key sh h
/-- a unit of whole numbers: terms, shift, the column of its gift -/
abbrev GU := List It × Int × Int
def gOne (cont : List Int) (u : GU) (c : Int) : Int := if 0 < hgt cont u.2.1 u.1 then (if u.2.2 = c then hgt cont u.2.1 u.1 else 0) else 0
def gTot (cont : List Int) (us : List GU) (c : Int) : Int := us.foldl (fun s u => s + gOne cont u c) 0
theorem gTot_snoc (cont : List Int) (us : List GU) (u : GU) (c : Int) : gTot cont (us ++ [u]) c = gTot cont us c + gOne cont u c := by
  unfold gTot
  rw [List.foldl_append]
  rfl
structure GuOk (u : GU) : Prop where
  t : ∀ x ∈ u.1, ∃ c z : Int, x = ([c], (z, 1)) ∧ z.natAbs ≤ 1
  len : u.1.length ≤ 40
  sh : u.2.1.natAbs ≤ 40
theorem GuOk.bd {u : GU} (o : GuOk u) (cont : List Int) : (hgt cont u.2.1 u.1).natAbs ≤ 80 := by
  have := hgt_bd cont (sh := u.2.1) (its := u.1) fun x hx => by
    obtain ⟨c, z, rfl, h⟩ := o.t x hx
    exact h
  have := o.len
  have := o.sh
  omega
theorem gOne_bd {u : GU} (o : GuOk u) (cont : List Int) (c : Int) : (gOne cont u c).natAbs ≤ 80 := by
  have := o.bd cont
  unfold gOne
  split
  · split
    · exact this
    · decide
  · decide
theorem gTot_bd (cont : List Int) (c : Int) : ∀ {us : List GU}, (∀ u ∈ us, GuOk u) → (gTot cont us c).natAbs ≤ us.length * 80 := by
  have key : ∀ {us : List GU} (s : Int), (∀ u ∈ us, GuOk u) → (us.foldl (fun s u => s + gOne cont u c) s).natAbs ≤ s.natAbs + us.length * 80 := by
    intro us
    induction us with
    | nil => intro s _; exact Nat.le_add_right _ _
    | cons u us ih =>
      intro s h
      have h1 := gOne_bd (h u List.mem_cons_self) cont c
      have := ih (s + gOne cont u c) fun y hy => h y (List.mem_cons_of_mem _ hy)
      rw [List.foldl_cons, List.length_cons]
      omega
  intro us h
  have := key 0 h
  rw [Int.natAbs_zero, Nat.zero_add] at this
  exact this
/-- such units at the heap -/
def GuAt (K : PySem.W.Frag) (H : Hp) (v : V) (u : GU) : Prop := ∃ (p a s g gp gu : Addr) (ys : List V), v = .ref p ∧ SqT K H p [.ref a, .ref s, .ref g] ∧ SqT K H a ys ∧ Its K H ys u.1 ∧ Pr K H s u.2.1 1 ∧ SqT K H g [.ref gp] ∧ SqT K H gp [.int u.2.2, .ref gu] ∧ Pr K H gu 1 1
inductive GUs (K : PySem.W.Frag) (H : Hp) : List V → List GU → Prop
  | nil : GUs K H [] []
  | cons {v : V} {u : GU} {vs : List V} {us : List GU} : GuAt K H v u → GUs K H vs us → GUs K H (v :: vs) (u :: us)
theorem GuAt.same {K : PySem.W.Frag} {H H' : Hp} {v : V} {u : GU} (s : Same H H') : GuAt K H v u → GuAt K H' v u := fun ⟨p, a, c, g, gp, gu, ys, e, h1, h2, h3, h4, h5, h6, h7⟩ => ⟨p, a, c, g, gp, gu, ys, e, Same.seqT s h1, Same.seqT s h2, h3.same s, Same.seqT s h4, Same.seqT s h5, Same.seqT s h6, Same.seqT s h7⟩
theorem GUs.len {K : PySem.W.Frag} {H : Hp} : ∀ {vs : List V} {us : List GU}, GUs K H vs us → vs.length = us.length
  | _, _, .nil => rfl
  | _, _, .cons _ q => congrArg Nat.succ q.len
theorem GUs.get {K : PySem.W.Frag} {H : Hp} : ∀ {vs : List V} {us : List GU} {i : Nat} {v : V}, GUs K H vs us → vs[i]? = some v → ∃ u, us[i]? = some u ∧ GuAt K H v u
  | _, _, _, _, .nil, h => by simp at h
  | _, _, 0, _, .cons h _, e => by
    obtain rfl := Option.some.inj e
    exact ⟨_, rfl, h⟩
  | _, _, i + 1, _, .cons _ q, e => q.get (i := i) e
theorem fr_int (z : Int) : frP z 1 = z ∧ frQ z 1 = 1 := fr_low (p := z) (q := 1) (Int.le_refl 1) (Nat.gcd_one_right _)
section
variable {P : Program} {w : World} {K : PySem.W.Frag} {mg : Str → Option Value} {base : Heap}
theorem plus_int {H : Hp} {Q : VK} {E : XK} {a b : Addr} {x y : Int} (ha : Pr K H a x 1) (hb : Pr K H b y 1) (lx : x.natAbs < 2 ^ 60) (ly : y.natAbs < 2 ^ 60) (k : ∀ t H', Same H H' → H t = none → H' t = some (.tup [.int (x + y), .int 1]) → Q (.ref t) H') : sp_plus2 K [.ref a, .ref b] H Q E := by
  refine ⟨a, b, (x, 1), (y, 1), rfl, ha, hb, low_int x, low_int y, Nat.le_trans (wt_int lx) (by decide), Nat.le_trans (wt_int ly) (by decide), fun t H' s t0 t1 => k t H' s t0 ?_⟩
  rw [plus_whole rfl rfl] at t1
  exact t1
theorem times_int {H : Hp} {Q : VK} {E : XK} {a b : Addr} {x y : Int} (ha : Pr K H a x 1) (hb : Pr K H b y 1) (lx : x.natAbs < 2 ^ 60) (ly : y.natAbs < 2 ^ 60) (k : ∀ t H', Same H H' → H t = none → H' t = some (.tup [.int (x * y), .int 1]) → Q (.ref t) H') : sp_times2 K [.ref a, .ref b] H Q E := by
  refine ⟨a, b, (x, 1), (y, 1), rfl, ha, hb, low_int x, low_int y, Nat.le_trans (wt_int lx) (by decide), Nat.le_trans (wt_int ly) (by decide), fun t H' s t0 t1 => k t H' s t0 ?_⟩
  replace t1 : H' t = some (.tup [.int (frP (x * y) (1 * 1)), .int (frQ (x * y) (1 * 1))]) := t1
  rw [Int.one_mul, (fr_int (x * y)).1, (fr_int (x * y)).2] at t1
  exact t1
theorem for_tp {K : PySem.W.Frag} {a : Addr} {xs : List V} {g : TG} {tb : TS} {D : Ends} {σ : L2.St} {H : Hp} {tl : TE} (hv : ∀ Q : VK, Q (.ref a) H → tl σ H Q) {H0 : Hp} (h : SqT K H0 a xs) (Pv : Nat → L2.St → Hp → Prop) (h0 : Pv 0 σ H) (hl : ∀ i σ H', Pv i σ H' → Same H0 H')
    (hs : ∀ i x σ H, xs[i]? = some x → Pv i σ H → g x σ H fun σ2 H2 => tb { D with nx := Pv (i + 1), ct := Pv (i + 1), bk := D.nx } σ2 H2) (hd : ∀ σ H, Pv xs.length σ H → D.nx σ H) : tFor (iTup K tl) g tb D σ H :=
  hv _ ⟨a, rfl, ⟨xs, Same.seqT (hl _ _ _ h0) h⟩, for_tup (K := K) (a := a) (xs := xs) Pv h0 (fun i σ H2 _ p => Same.seqT (hl i σ H2 p) h) hs hd⟩
theorem notT_frz {H : Hp} {p : Addr} {od : Obj} {ys : List (L2.Key × V)} (h : H p = some (.frz od (.dK ys))) : ∀ zs, ¬ Rd H p (.tup zs) := fun zs r => by
  rcases r with r | ⟨u, r⟩ <;> (rw [h] at r; cases r)
theorem putK_new {κ : Type} [DecidableEq κ] {kvs : List (κ × V)} {k : κ} {v : V} (h : k ∉ kvs.map (·.1)) : putK kvs k v = kvs ++ [(k, v)] := by
  unfold putK
  rw [valV_any, valV_none h]
  rfl
theorem mergeK_new : ∀ {more kvs : List (L2.Key × V)}, ((kvs ++ more).map (·.1)).Nodup → mergeK kvs more = kvs ++ more
  | [], kvs, _ => by rw [List.append_nil]; rfl
  | p :: more, kvs, h => by
    have e : p.1 ∉ kvs.map (·.1) := fun m => by
      rw [List.map_append] at h
      exact (List.nodup_append.mp h).2.2 _ m _ (by rw [List.map_cons]; exact List.mem_cons_self) rfl
    show mergeK (putK kvs p.1 p.2) more = _
    rw [putK_new e, mergeK_new (by rw [List.append_assoc]; exact h), List.append_assoc]
    rfl
def nzK (R : Int → Int) (p : L2.Key × V) : Bool := match p.1 with
  | .inl c => decide (R c ≠ 0)
  | .inr _ => false
theorem Gvn.gft {K : PySem.W.Frag} {H H' : Hp} {kvs : List (L2.Key × V)} {R : Int → Int} (g : Gvn K H kvs R) (carry : ∀ u p q, Pr K H u p q → Pr K H' u p q) : Gft K H' (kvs.filter (nzK R)) R := by
  refine ⟨⟨(List.Sublist.map _ List.filter_sublist).nodup g.nd, fun p hp => ?_, fun c hc => ?_⟩, fun c hc => ?_⟩
  · obtain ⟨c, u, e, h⟩ := g.val p (List.mem_filter.mp hp).1
    exact ⟨c, u, e, carry _ _ _ h⟩
  · refine Classical.byContradiction fun n => ?_
    have m : (Sum.inl c : L2.Key) ∈ kvs.map (·.1) := Classical.byContradiction fun m => n (g.out c m)
    obtain ⟨p, hp, e⟩ := List.mem_map.mp m
    refine hc (List.mem_map.mpr ⟨p, List.mem_filter.mpr ⟨hp, ?_⟩, e⟩)
    unfold nzK
    rw [e]
    exact decide_eq_true n
  · obtain ⟨p, hp, e⟩ := List.mem_map.mp hc
    have := (List.mem_filter.mp hp).2
    unfold nzK at this
    rw [e] at this
    exact of_decide_eq_true this
def sp_gifts (K : PySem.W.Frag) : Sp := fun vs H Q _ => ∃ (t cc : Addr) (vu : List V) (us : List GU) (cvs : List (L2.Key × V)) (cont : List Int), vs = [.ref t, .ref cc] ∧ SqT K H t vu ∧ GUs K H vu us ∧ (∀ u ∈ us, GuOk u) ∧ us.length ≤ 100 ∧ H cc = some (.dK cvs) ∧ Gft K H cvs (fun c => if c ∈ cont then 1 else 0) ∧
  ∀ (D : Addr) (kvs : List (L2.Key × V)) H', Same H H' → H D = none → H' D = some (.dK kvs) → Gft K H' kvs (gTot cont us) → Q (.ref D) H'
theorem ok__law_gifts (T : Txt w K mg) : FnOk P w K mg base CX0 3 T.a__law_gifts T.d__law_gifts ["units", "content"] (sp_gifts K) := by
  refine T.F__law_gifts.ok sc__law_gifts (fun vs H Q E h => ?_) (fun cdv A outer s H vs Q E hr h => ?_)
  · obtain ⟨t, cc, vu, us, cvs, cont, rfl, _⟩ := h
    rfl
  · obtain ⟨t, cc, vu, us, cvs, cont, rfl, ht, hu, ok, l100, hcc, gc, k⟩ := h
    have hr__law_plus : Room 2 _ := hr
    have G__law_plus := ok__law_plus (P := P) (base := base) T
    have hr__law_times : Room 2 _ := hr
    have G__law_times := ok__law_times (P := P) (base := base) T
    have hu1 : (A.deeper (envOfC "_law_gifts" (defScope s__law_gifts) s.heap.objs.size T.a__law_gifts cdv)).units + 1 < cLine := Nat.lt_of_le_of_lt (Nat.add_le_add_left (by decide : 1 ≤ 64) _) hr.units
    have lx := hu.len
    refine ⟨_, (pss_cons (ps_set (i := 2) sc__law_gifts.nd rfl (Or.inr rfl) pe_dnewK)
      (pss_cons (ps_for PassesOwn.never rfl (pi_tup (pv 0)) (pg_name (i := 3) sc__law_gifts.nd rfl (Or.inl rfl)) (pss_cons (ps_set (i := 4) sc__law_gifts.nd rfl (Or.inl rfl) (pe_ix ix_tup (pv 3) pe_int (fun _ _ => rfl)))
      (pss_cons (ps_for PassesOwn.never rfl (pi_tup (pe_ix ix_tup (pv 3) pe_int (fun _ _ => rfl))) (pg_name (i := 5) sc__law_gifts.nd rfl (Or.inl rfl)) (pss_one (ps_if (pt_cmp (pc_din hu1 (pe_ix ix_tup (pv 5) pe_int (fun _ _ => rfl)) (pv 1))) (pss_one (ps_set (i := 4) sc__law_gifts.nd rfl (Or.inl rfl) (pe_call G__law_plus hr__law_plus (by rfl) T.m__law_plus T.F__law_plus.kp T.B__law_plus .nil pass0 (pa_cons (pv 4) (pa_cons (pe_call G__law_times hr__law_times (by rfl) T.m__law_times T.F__law_times.kp T.B__law_times .nil pass0 (pa_cons (pe_dget hu1 (pv 1) (pe_ix ix_tup (pv 5) pe_int (fun _ _ => rfl)) (fun _ _ => rfl)) (pa_cons (pe_ix ix_tup (pv 5) pe_int (fun _ _ => rfl)) pa_nil))) pa_nil))))) pss_nil)))
      (pss_one (ps_if (pt_cmpR op_gt (pe_ix ix_tup (pv 4) pe_int (fun _ _ => rfl)) pe_int (nomark _)) (pss_one (ps_for PassesOwn.never rfl (pi_tup (pe_ix ix_tup (pv 3) pe_int (fun _ _ => rfl))) (pg_name (i := 6) sc__law_gifts.nd rfl (Or.inl rfl)) (pss_one (ps_dput hu1 (pv 2) (pe_ix ix_tup (pv 6) pe_int (fun _ _ => rfl)) (pe_call G__law_plus hr__law_plus (by rfl) T.m__law_plus T.F__law_plus.kp T.B__law_plus .nil pass0 (pa_cons (pe_dget2 hu1 (pv 2) (pe_ix ix_tup (pv 6) pe_int (fun _ _ => rfl)) (pe_tupU (pa_cons pe_int (pa_cons pe_int pa_nil))) ⟨rfl, rfl, rfl, rfl⟩) (pa_cons (pe_call G__law_times hr__law_times (by rfl) T.m__law_times T.F__law_times.kp T.B__law_times .nil pass0 (pa_cons (pv 4) (pa_cons (pe_ix ix_tup (pv 6) pe_int (fun _ _ => rfl)) pa_nil))) pa_nil))) rfl)))) pss_nil)))))
      (pss_one (ps_ret (pe_callTy (call_dictP rfl) (by rfl) T.n_dict (by decide +kernel) (pa_cons (pe_lock (pe_lc (own := [("key", 7)]) (g := gName 7) (tt := _) rfl sc__law_gifts.nd (pi_keys (pv 2)) (blkOk_by (own := [("key", 7)]) (N := N__law_gifts) (sc := defScope s__law_gifts) (by decide +kernel)) (fun _ _ _ _ _ => pg_name (i := 7) sc__law_gifts.nd rfl (Or.inl rfl)) (fun _ _ _ _ _ => pts_one (pt_cmpR op_neI (pe_ix (ix_tupK (K := K) rfl) (pe_dget hu1 (pv 2) (pv 7) (fun _ _ => rfl)) pe_int (fun _ _ => rfl)) pe_int (nomark _))) (fun _ _ _ _ _ => (pe_tupU (pa_cons (pv 7) (pa_cons (pe_dget hu1 (pv 2) (pv 7) (fun _ _ => rfl)) pa_nil)))))) pa_nil)))))), ?_⟩
    refine seq_op fun N hN => ?_
    walk_at "rs"
    refine fun D hD => hN _ _ ?_
    clear hN N
    have s0 : Same H (L2.upd H D (.dK [])) := same_upd hD
    have nD : cc ≠ D := fun e => by rw [← e, hcc] at hD; cases hD
    refine cut_seq (fun σ G => ∃ (x3 x4 x5 x6 : Option V) (kvs : List (L2.Key × V)), σ = [some (.ref t), some (.ref cc), some (.ref D), x3, x4, x5, x6, none] ∧ Same H G ∧ G D = some (.dK kvs) ∧ Gvn K G kvs (gTot cont us) ∧ kvs.length ≤ 100) (fun N hN => ?_) ?_
    · have h0 : ∃ (x3 x4 x5 x6 : Option V) (kvs : List (L2.Key × V)), [some (V.ref t), some (V.ref cc), some (V.ref D), none, none, none, none, none] = [some (.ref t), some (.ref cc), some (.ref D), x3, x4, x5, x6, none] ∧ Same H (L2.upd H D (.dK [])) ∧ (L2.upd H D (.dK [])) D = some (.dK kvs) ∧ Gvn K (L2.upd H D (.dK [])) kvs (gTot cont (us.take 0)) ∧ kvs.length ≤ 0 := ⟨_, _, _, _, [], rfl, s0, upd_same, ⟨List.nodup_nil, fun p hp => absurd hp (by simp), fun c _ => rfl⟩, Nat.le_refl 0⟩
      refine for_tp (K := K) (a := t) (xs := vu) (fun Q q => ⟨_, rfl, q⟩) ht (fun i σ G => ∃ (x3 x4 x5 x6 : Option V) (kvs : List (L2.Key × V)), σ = [some (.ref t), some (.ref cc), some (.ref D), x3, x4, x5, x6, none] ∧ Same H G ∧ G D = some (.dK kvs) ∧ Gvn K G kvs (gTot cont (us.take i)) ∧ kvs.length ≤ i) h0 (fun i σ G ⟨_, _, _, _, _, _, s, _⟩ => s) ?_ ?_
      · rintro i x σ G hx ⟨x3, x4, x5, x6, kvs, rfl, sG, hG, gv, lkv⟩
        obtain ⟨u, eu, p, a, sh, g, gp, gu, ys, rfl, h1, h2, h3, h4, h5, h6, h7⟩ := hu.get hx
        show tSeq _ _ _ [some (V.ref t), some (V.ref cc), some (V.ref D), some (V.ref p), x4, x5, x6, none] G
        refine seq_op fun N1 hN1 => ?_
        walk_at "rs"
        have ou := ok u (List.mem_of_getElem? eu)
        refine ⟨_, Same.seqT sG h1, _, rfl, hN1 _ _ ?_⟩
        clear hN1 N1
        have es : us.take (i + 1) = us.take i ++ [u] := by
          obtain ⟨hk, e⟩ := List.getElem?_eq_some_iff.mp eu
          rw [← List.take_append_getElem hk, e]
        -- the height
        refine cut_seq (fun σ G1 => ∃ (x5 : Option V) (hh : Addr), σ = [some (.ref t), some (.ref cc), some (.ref D), some (.ref p), some (.ref hh), x5, x6, none] ∧ Same G G1 ∧ Pr K G1 hh (hgt cont u.2.1 u.1) 1) (fun N1 hN1 => ?_) ?_
        · have ly := h3.len
          refine for_tp (K := K) (a := a) (xs := ys) (fun Q q => ?_) h2 (fun j σ G1 => ∃ (x5 : Option V) (hh : Addr), σ = [some (.ref t), some (.ref cc), some (.ref D), some (.ref p), some (.ref hh), x5, x6, none] ∧ Same G G1 ∧ Pr K G1 hh (hgt cont u.2.1 (u.1.take j)) 1) ⟨x5, sh, rfl, Same.refl _, Same.seqT sG h4⟩ (fun j σ G1 ⟨_, _, _, s, _⟩ => Same.trans sG s) ?_ ?_
          · walk_at "rs"
            exact ⟨_, Same.seqT sG h1, _, rfl, q⟩
          · rintro j x σ G1 hxj ⟨x5, hh, rfl, sG1, ph⟩
            obtain ⟨q, v, ks, f, ex, ee, g1, g2⟩ := h3.get (n := j) (by rw [← ly]; exact (List.getElem?_eq_some_iff.mp hxj).1)
            obtain rfl : x = .ref q := by rw [ex] at hxj; exact (Option.some.inj hxj).symm
            obtain ⟨c, z, ek, lz⟩ := ou.t _ (List.mem_of_getElem? ee)
            obtain ⟨rfl, rfl⟩ := Prod.mk.inj ek
            have et : u.1.take (j + 1) = u.1.take j ++ [([c], (z, 1))] := by
              obtain ⟨hk, e⟩ := List.getElem?_eq_some_iff.mp ee
              rw [← List.take_append_getElem hk, e]
            show tIfS _ _ _ _ [some (V.ref t), some (V.ref cc), some (V.ref D), some (V.ref p), some (V.ref hh), some (V.ref q), x6, none] G1
            walk_at "rs"
            have sG2 := Same.trans sG sG1
            have hc1 := sG2 _ _ hcc
            have hbd : (hgt cont u.2.1 (u.1.take j)).natAbs ≤ 80 := by
              have := hgt_bd cont (sh := u.2.1) (its := u.1.take j) fun x hx => by
                obtain ⟨c, z, rfl, h⟩ := ou.t x (List.mem_of_mem_take hx)
                exact h
              have := ou.sh
              have := ou.len
              rw [List.length_take] at *
              omega
            refine ⟨_, Same.seqT sG2 g1, _, rfl, _, DGet.k (k := Sum.inl c) hc1, ?_⟩
            rw [et, hgt_snoc]
            rcases gc.g.get c with ⟨w1, hv, pw1⟩ | ⟨hv, z0⟩
            · rw [hv]
              have m : c ∈ cont := Classical.byContradiction fun n => by
                have := gc.nz c (valV_mem hv)
                rw [if_neg n] at this
                exact this rfl
              rw [if_pos m] at pw1
              refine iteTT rfl ⟨_, Same.seqT sG2 g1, _, rfl, _, by have := DGet.k (k := (Sum.inl c : L2.Key)) hc1; rw [hv] at this; exact this, _, Same.seqT sG2 g1, _, rfl, ?_⟩
              refine times_int (Same.seqT sG2 pw1) (Same.seqT sG2 g2) (by decide) (by show z.natAbs < _; omega) fun t1 G2 s2 n2 t21 => ?_
              rw [Int.one_mul] at t21
              refine plus_int (Same.seqT s2 ph) (.inl (.inl t21)) (by omega) (by show z.natAbs < _; omega) fun t3 G3 s3 n3 t31 => ⟨_, t3, ⟨rfl, rfl⟩, Same.trans sG1 (Same.trans s2 s3), ?_⟩
              rw [if_pos (show ([c] : List Int).headD 0 ∈ cont from m)]
              exact .inl (.inl t31)
            · rw [hv]
              have m : c ∉ cont := fun m => by rw [if_pos m] at z0; cases z0
              refine iteFF (by decide) ⟨_, hh, ⟨rfl, rfl⟩, sG1, ?_⟩
              rw [if_neg (show ¬ ([c] : List Int).headD 0 ∈ cont from m)]
              exact ph
          · rintro σ G1 ⟨x5, hh, rfl, sG1, ph⟩
            rw [ly, List.take_length] at ph
            exact hN1 _ _ ⟨_, hh, rfl, sG1, ph⟩
        · rintro σ G1 ⟨x5, hh, rfl, sG1, ph⟩
          have hbd := ou.bd cont
          have hG1 := sG1 _ _ hG
          have gv1 := gv.upd (H' := G1) fun u p q h => Same.seqT sG1 h
          have sG2 := Same.trans sG sG1
          walk_at "rs"
          refine ⟨_, ph, _, rfl, _, rfl, ite2 (fun pos => ?_) (fun npos => ?_)⟩
          · refine for_tp (K := K) (a := g) (xs := [.ref gp]) (H0 := H) (fun Q q => ?_) h5 (fun j σ G2 => ∃ (x6 : Option V) (kvs : List (L2.Key × V)), σ = [some (.ref t), some (.ref cc), some (.ref D), some (.ref p), some (.ref hh), x5, x6, none] ∧ Same H G2 ∧ Pr K G2 hh (hgt cont u.2.1 u.1) 1 ∧ G2 D = some (.dK kvs) ∧ Gvn K G2 kvs (fun c => gTot cont (us.take i) c + if 0 < j then (if u.2.2 = c then hgt cont u.2.1 u.1 else 0) else 0) ∧ kvs.length ≤ i + j) ⟨_, kvs, rfl, sG2, ph, hG1, ⟨gv1.nd, fun p hp => by
                obtain ⟨c, u, e, h⟩ := gv1.val p hp
                exact ⟨c, u, e, by rw [if_neg (Nat.lt_irrefl 0), Int.add_zero]; exact h⟩, fun c hc => by rw [if_neg (Nat.lt_irrefl 0), Int.add_zero]; exact gv1.out c hc⟩, lkv⟩ (fun j σ G2 ⟨_, _, _, s, _⟩ => s) ?_ ?_
            · walk_at "rs"
              exact ⟨_, Same.seqT sG2 h1, _, rfl, q⟩
            · rintro j x σ G2 hxj ⟨x6, kvs2, rfl, sH2, ph2, hD2, gv2, lk2⟩
              obtain ⟨rfl, rfl⟩ : j = 0 ∧ x = .ref gp := by
                cases j with
                | zero => exact ⟨rfl, (Option.some.inj hxj).symm⟩
                | succ j => simp at hxj
              walk_at "rs"
              have h6' := Same.seqT sH2 h6
              have h7' := Same.seqT sH2 h7
              refine ⟨.inl ⟨kvs2, .inl hD2⟩, _, h6', _, rfl, by decide, fun z0 G3 s3 n3 t3 => ?_⟩
              have hD3 := s3 _ _ hD2
              refine ⟨_, DGet.k (k := Sum.inl u.2.2) hD3, _, Same.seqT s3 h6', _, rfl, times_int (Same.seqT s3 ph2) (Same.seqT s3 h7') (by omega) (by decide) fun t4 G4 s4 n4 t41 => ?_⟩
              rw [Int.mul_one] at t41
              have s34 := Same.trans s3 s4
              have gi := gTot_bd cont u.2.2 (us := us.take i) fun v hv => ok v (List.mem_of_mem_take hv)
              have li : (us.take i).length ≤ 100 := by rw [List.length_take]; omega
              have pz : ∃ v, (valV kvs2 (Sum.inl u.2.2 : L2.Key)).getD (V.ref z0) = .ref v ∧ Pr K G4 v (gTot cont (us.take i) u.2.2) 1 := by
                rcases gv2.get u.2.2 with ⟨v, hv, pv⟩ | ⟨hv, ez⟩
                · rw [if_neg (Nat.lt_irrefl 0), Int.add_zero] at pv
                  exact ⟨v, by rw [hv]; rfl, Same.seqT s34 pv⟩
                · rw [if_neg (Nat.lt_irrefl 0), Int.add_zero] at ez
                  exact ⟨z0, by rw [hv]; rfl, by rw [ez]; exact .inl (.inl (s4 _ _ t3))⟩
              obtain ⟨v, ev, pv⟩ := pz
              rw [ev]
              refine plus_int pv (.inl (.inl t41)) (by omega) (by omega) fun t5 G5 s5 n5 t51 => ?_
              have s35 := Same.trans s34 s5
              have hD5 := s35 _ _ hD2
              have il : i < us.length := (List.getElem?_eq_some_iff.mp eu).1
              have kl : kvs2.length < sizeLine := Nat.lt_of_le_of_lt (show kvs2.length ≤ 100 by omega) (by decide)
              refine ⟨_, Same.seqT s35 h6', _, rfl, _, DPut.k (k := Sum.inl u.2.2) hD5 kl, ?_, seqT_updO (notT_dK hD5) (Same.seqT s35 ph2), _, upd_same, ?_⟩
              · intro b o e
                have ne : b ≠ D := fun z => by rw [z, hD] at e; cases e
                rw [upd_ne ne]
                exact Same.trans sH2 s35 _ _ e
              · have gp := gv2.put (H' := L2.upd G5 D (.dK (putK kvs2 (Sum.inl u.2.2) (.ref t5)))) (t := u.2.2) (u := t5) (z := hgt cont u.2.1 u.1) (fun u p q h => seqT_updO (notT_dK hD5) (Same.seqT s35 h)) (by
                  rw [if_neg (Nat.lt_irrefl 0), Int.add_zero]
                  exact seqT_updO (notT_dK hD5) (.inl (.inl t51)))
                have ll : (putK kvs2 (Sum.inl u.2.2) (.ref t5)).length ≤ i + 1 := by
                  have := congrArg List.length (keys_put kvs2 (Sum.inl u.2.2) (V.ref t5))
                  rw [List.length_map] at this
                  split at this <;> (simp only [List.length_append, List.length_map, List.length_cons, List.length_nil] at this; omega)
                refine ⟨?_, ll⟩
                have e : (fun c => gTot cont (us.take i) c + (if 0 < 0 then (if u.2.2 = c then hgt cont u.2.1 u.1 else 0) else 0) + (if u.2.2 = c then hgt cont u.2.1 u.1 else 0)) = (fun c => gTot cont (us.take i) c + if 0 < 1 then (if u.2.2 = c then hgt cont u.2.1 u.1 else 0) else 0) := funext fun c => by
                  rw [if_neg (Nat.lt_irrefl 0), Int.add_zero, if_pos (by decide : 0 < 1)]
                rw [← e]
                exact gp
            · rintro σ G2 ⟨x6, kvs2, rfl, sH2, ph2, hD2, gv2, lk2⟩
              refine ⟨_, _, _, _, rfl, sH2, kvs2, hD2, ?_⟩
              rw [es]
              have e : (fun c => gTot cont (us.take i) c + if 0 < [V.ref gp].length then (if u.2.2 = c then hgt cont u.2.1 u.1 else 0) else 0) = gTot cont (us.take i ++ [u]) := funext fun c => by
                rw [gTot_snoc, gOne, if_pos pos]
                rfl
              rw [← e]
              exact ⟨gv2, lk2⟩
          · refine ⟨_, _, _, _, ⟨rfl, rfl, rfl, rfl⟩, sG2, kvs, hG1, ?_⟩
            rw [es]
            have e : gTot cont (us.take i ++ [u]) = gTot cont (us.take i) := funext fun c => by
              rw [gTot_snoc, gOne, if_neg npos, Int.add_zero]
            rw [e]
            exact ⟨gv1, Nat.le_succ_of_le lkv⟩
      · rintro σ G ⟨x3, x4, x5, x6, kvs, rfl, sG, hG, gv, lkv⟩
        rw [lx, List.take_length] at gv
        exact hN _ _ ⟨_, _, _, _, _, rfl, sG, hG, gv, by omega⟩
    · rintro σ G ⟨x3, x4, x5, x6, kvs, rfl, sG, hG, gv, lkv⟩
      have gb : ∀ c, (gTot cont us c).natAbs ≤ 8000 := fun c => by
        have := gTot_bd cont c ok
        omega
      walk_at "rs"
      refine ⟨D, _, hG, trivial, fun od => ?_⟩
      have c1 : ∀ u p q, Pr K G u p q → Pr K (L2.upd G D (.frz od (.dK kvs))) u p q := fun u p q h => seqT_updO (notT_dK hG) h
      have hL : (L2.upd G D (.frz od (.dK kvs))) D = some (.frz od (.dK kvs)) := upd_same
      have oL : ∀ b o, b ≠ D → G b = some o → (L2.upd G D (.frz od (.dK kvs))) b = some o := fun b o n e => by rw [upd_ne n]; exact e
      have nL : ∀ b, (L2.upd G D (.frz od (.dK kvs))) b = none → b ≠ D := fun b e z => by rw [z, upd_same] at e; cases e
      generalize L2.upd G D (.frz od (.dK kvs)) = G0 at c1 hL oL nL ⊢
      refine ⟨_, rfl, D, od, rfl, .inl ⟨kvs, hL, fun M hM => lc_filtR (n := kvs.length) walk_keys (fun i H ys => ∃ L : List (Addr × (L2.Key × V)), ys = L.map (fun q => V.ref q.1) ∧ (∀ q ∈ L, SqT K H q.1 [kV q.2.1, q.2.2]) ∧ L.map (·.2) = (kvs.take i).filter (nzK (gTot cont us))) (fun i => nzK (gTot cont us) (kvs.getD i (Sum.inl 0, .non))) hM (by omega)
        (fun i H H' ys s ⟨L, e1, e2, e3⟩ => ⟨L, e1, fun q hq => Same.seqT s (e2 q hq), e3⟩) (fun i H ys zs o hp ⟨L, e1, e2, e3⟩ => ⟨L, e1, fun q hq => seqT_updO (notT_lst hp) (e2 q hq), e3⟩) (fun H => ⟨[], rfl, fun q hq => absurd hq (by simp), rfl⟩) (fun H s => s _ _ hL) (fun i x H2 H3 hi s2 y => ?_) (gm_name 7) fun H2 ys s2 h2 r2 => ?_⟩⟩
      · obtain ⟨rfl, k0, v0, ek, rfl⟩ := y
        have eg : kvs.getD i (Sum.inl 0, .non) = (k0, v0) := by rw [List.getD_eq_getElem?_getD, ek]; rfl
        have et : kvs.take (i + 1) = kvs.take i ++ [(k0, v0)] := by
          obtain ⟨hk, e⟩ := List.getElem?_eq_some_iff.mp ek
          rw [← List.take_append_getElem hk, e]
        obtain ⟨c, u, e, hu2⟩ := gv.val _ (List.mem_of_getElem? ek)
        obtain ⟨rfl, rfl⟩ := Prod.mk.inj e
        have hv : valV kvs (Sum.inl c : L2.Key) = some (.ref u) := valV_of_nd gv.nd (List.mem_of_getElem? ek)
        have dg : ∀ {J : Hp}, Same G0 J → DGet J D (kV (Sum.inl c)) (some (V.ref u)) := fun sJ => by
          rw [← hv]
          exact .inl ⟨kvs, _, .inr ⟨od, sJ _ _ hL⟩, rfl, rfl⟩
        have ez : nzK (gTot cont us) ((Sum.inl c : L2.Key), V.ref u) = decide (gTot cont us c ≠ 0) := rfl
        rw [eg]
        refine ⟨Same.refl _, rfl, fun Qt hq => ?_, fun pf H4 ys h => ?_, fun pt H4 s4 Q2 hq => ?_⟩
        · walk_at "rs"
          refine ⟨_, dg s2, u, rfl, _, Same.seqT s2 (c1 _ _ _ hu2), _, rfl, _, rfl, ?_⟩
          have e : (!decide (gTot cont us c = 0)) = nzK (gTot cont us) ((Sum.inl c : L2.Key), V.ref u) := by
            rw [ez]
            by_cases z : gTot cont us c = 0
            · rw [decide_eq_true z, decide_eq_false fun n => n z]; rfl
            · rw [decide_eq_false z, decide_eq_true z]; rfl
          rw [e]
          exact hq _ (Same.refl _)
        · obtain ⟨L, e1, e2, e3⟩ := h
          refine ⟨L, e1, e2, ?_⟩
          rw [et, List.filter_append, e3]
          simp only [List.filter_cons, pf, List.filter_nil]
          simp
        · walk_at "rs"
          refine ⟨_, dg (Same.trans s2 s4), by decide, fun q5 H5 s5 n5 t5 => hq _ H5 s5 fun ys ⟨L, e1, e2, e3⟩ => ⟨L ++ [(q5, (Sum.inl c, V.ref u))], by rw [e1, List.map_append]; rfl, fun q hq => ?_, ?_⟩⟩
          · rcases List.mem_append.mp hq with hq | hq
            · exact e2 q hq
            · rw [List.mem_singleton.mp hq]
              exact .inl (.inl t5)
          · rw [et, List.filter_append, List.map_append, e3]
            simp only [List.map_cons, List.map_nil, List.filter_cons, pt, List.filter_nil, if_true]
      · rw [List.take_length] at r2
        obtain ⟨L, e1, e2, e3⟩ := r2
        have hD2 := s2 _ _ hL
        refine ⟨hD2, ?_⟩
        have nf := notT_frz hD2
        have nM : M ≠ D := nL M hM
        have c2 : ∀ {a : Addr} {xs : List V}, SqT K H2 a xs → SqT K (L2.upd H2 D (.dK kvs)) a xs := fun h => seqT_updO nf h
        have hM2 : (L2.upd H2 D (.dK kvs)) M = some (.lst ys) := by rw [upd_ne nM]; exact h2
        have c3 : Same G (L2.upd H2 D (.dK kvs)) := fun b o e => by
          by_cases z : b = D
          · subst z
            rw [upd_same, ← hG]
            exact e
          · rw [upd_ne z]
            exact s2 _ _ (oL b o z e)
        refine ⟨M, rfl, L.map (·.1), SqL.of (by rw [List.map_map, show (V.ref ∘ fun q : Addr × (L2.Key × V) => q.1) = fun q => V.ref q.1 from rfl, ← e1]; exact hM2), L.map (·.2), paired_of fun q hq => c2 (e2 q hq), fun p p0 => ?_⟩
        have gf := gv.gft (H' := L2.upd (L2.upd H2 D (.dK kvs)) p (.dK (mergeK [] (L.map (·.2))))) fun u p q h => Same.seqT (Same.trans c3 (same_upd p0)) h
        have em : mergeK [] (L.map (·.2)) = kvs.filter (nzK (gTot cont us)) := by
          rw [e3, mergeK_new (by rw [List.nil_append]; exact gf.g.nd)]
          rfl
        refine k p _ _ (Same.trans (Same.trans sG c3) (same_upd p0)) (Same.dom (Same.trans sG c3) _ p0) upd_same ?_
        rw [em] at gf ⊢
        exact gf
end
end LK

set_option Elab.async false
set_option linter.all false
set_option maxRecDepth 100000
namespace LK
open PySem PySem.Spec PyProof.Rows L2
local macro_rules | `(tactic| walk_at "rs") => `(tactic| simp only [cxK, cxNK, tCallZ, tAsg, tOp, rI0, rS0, rB0, rI, rU, tUn, rEq, rNe, rIxL, rIxT, rIxS, rSetL, rSlLU, rSlS, rSlU, rCatL, rCatU, rRepL, rIn, tVar, tC, gName, gSub, tIfS, tTest, tB, tAnd, tOr, tNot, tNotV, tAndV, tOrV, tIf, tCall, tCons, tNil, tCB, tDrop, tRet, tRetN, tNext, tLstU, tTupU, tM0, tM1, tPar, tPar3, tAug, ipI, tBM, tBM0, rAppend, rPop, tBreak, sDPut, tDGet, tDGet2, tCont, tChain, tSl, tPart, tNoPart, L2.start, List.map, List.length_cons, List.length_nil, List.replicate, List.cons_append, List.nil_append, List.append_nil, List.getElem?_cons_zero, List.getElem?_cons_succ, List.set_cons_zero, List.set_cons_succ, Option.some.injEq, V.int.injEq, V.ref.injEq, V.str.injEq, V.bl.injEq, exists_eq_left', exists_eq_left, exists_and_left, decide_eq_true_eq, List.cons.injEq, and_true, true_and, scal, Bool.not_eq_true', decide_eq_false_iff_not, Nat.zero_add, Nat.reduceAdd, Nat.reduceSub, reduceCtorEq, false_and, exists_false, false_or, or_false, CPow, CPowW, CMul, CDiv, Int.reduceToNat, ↓reduceIte, wipe, sw, rv3, tListKeys, tDIn, tDNotIn, List.nil_append, List.singleton_append])
local macro_rules | `(tactic| walk_at "st") => `(tactic| (refine seq_op fun N hN => ?_; walk_at "rs"))
local macro_rules | `(tactic| walk_at "sd") => `(tactic| first | assumption | decide | omega)
local macro_rules | `(tactic| walk_at "rd") => `(tactic| repeat (first
  | refine ⟨_, SqL.of (by assumption), ?_⟩ | refine ⟨_, SqL.of upd_same, ?_⟩ | refine ⟨_, .inl (SqL.of (by assumption)), ?_⟩ | refine ⟨_, (by assumption : _ = some (HO.lst _)), ?_⟩ | refine ⟨_, upd_same, ?_⟩
  | refine ⟨_, rfl, ?_⟩ | refine And.intro (by walk_at "sd") ?_))

/-! ### comprehensions over range that change what they walk beside -/
theorem lc_rngI {n : Nat} {lo : Int} {te : TE} {i0 : Nat} {σ : L2.St} {H1 : Hp} {D : Addr} {Qd : Hp → Prop} (F : Nat → Hp → List V → Prop) (hn : n ≤ 1000000) (f0 : F 0 (L2.upd H1 D (.lst [])) [])
    (hs : ∀ i G ys, i < n → G D = some (.lst ys) → ys.length = i → F i G ys → ∀ Q2 : VK, (∀ y G4, G4 D = some (.lst ys) → F (i + 1) (L2.upd G4 D (.lst (ys ++ [y]))) (ys ++ [y]) → Q2 y G4) → te ((wipe σ [i0]).set i0 (some (.int (lo + i)))) G Q2)
    (hq : ∀ G ys, G D = some (.lst ys) → ys.length = n → F n G ys → Qd G) :
    ∃ W : Nat → Nat → Hp → Prop, (∃ m, W 0 m (L2.upd H1 D (.lst []))) ∧ ∀ i m H, W i m H →
      ((Itr lo n).stop i H ∧ Qd H) ∨ ((Itr lo n).go i H ∧ ∃ Nx : Hp → Prop, (∀ H', Nx H' → ∃ m', m' < m ∧ W (i + 1) m' H') ∧ ∀ x H', (Itr lo n).yld i H x H' → gName i0 x (wipe σ [i0]) H' fun σ2 H2 => wipe σ2 [i0] = wipe σ [i0] ∧ tYes σ2 H2 fun b H3 =>
        if b = true then te σ2 H3 fun y H4 => ∃ acc, H4 D = some (.lst acc) ∧ acc.length < sizeLine ∧ Nx (L2.upd H4 D (.lst (acc ++ [y]))) else Nx H3) := by
  refine lc_it walk_range (fun i H => ∃ ys, H D = some (.lst ys) ∧ ys.length = i ∧ F i H ys) ⟨[], upd_same, rfl, f0⟩ (fun _ _ _ _ => trivial) (fun i x H H' hi ⟨ys, h1, hl, hf⟩ y => ?_) (fun H ⟨ys, h1, hl, hf⟩ => hq H ys h1 hl hf)
  obtain ⟨rfl, rfl⟩ := y
  refine ⟨?_, ?_⟩
  · show ((σ.set i0 none).set i0 (some _)).set i0 none = σ.set i0 none
    rw [List.set_set, List.set_set]
  · simp only [tYes, eq_self, ite_true]
    refine hs i H' ys hi h1 hl hf _ fun y G4 e f => ⟨ys, e, ?_, ys ++ [y], upd_same, by rw [List.length_append, hl]; rfl, f⟩
    rw [hl]
    exact Nat.lt_of_lt_of_le (Nat.lt_of_lt_of_le hi hn) (by decide)
theorem Kp.get {b p : Addr} {H H' : Hp} {o : HO} (k : Kp b H H') (n : p ≠ b) (h : H p = some o) : H' p = some o := k.hd h n
theorem Kp.upd2 {b p : Addr} {H H' : Hp} {o : HO} (k : Kp b H H') (h : H p = none) : Kp b H (L2.upd H' p o) := fun a u e => by
  obtain ⟨n1, e1⟩ := hb_some e
  have n : a ≠ p := fun z => by rw [z, h] at e1; cases e1
  rw [hb_ne n1, upd_ne n]
  have := k a u e
  rw [hb_ne n1] at this
  exact this
theorem Kp.none {b p : Addr} {H H' : Hp} {N : Nat} {c : Addr} (k : Kp b H H') (B : Bag N H' b c) (h : H' p = none) : H p = none := Kp.bn k B.at.choose_spec h
theorem Bag.ne2 {N : Nat} {H : Hp} {b c p : Addr} (B : Bag N H b c) (h : H p = none) : b ≠ p ∧ c ≠ p := ⟨(new_ne B h).symm, fun e => by
  obtain ⟨xc, ec⟩ := B.at2
  rw [e, h] at ec; cases ec⟩
theorem erase_perm {l : List Int} {k : Nat} {y : Int} (h : l[k]? = some y) : l.Perm (y :: l.eraseIdx k) := by
  obtain ⟨hk, e⟩ := List.getElem?_eq_some_iff.mp h
  subst e
  have e2 : l = l.take k ++ l[k] :: l.drop (k + 1) := by
    rw [← List.drop_eq_getElem_cons hk, List.take_append_drop]
  have e3 : l.eraseIdx k = l.take k ++ l.drop (k + 1) := List.eraseIdx_eq_take_drop_succ l k
  rw [e3]
  conv => lhs; rw [e2]
  exact List.perm_middle
theorem ixN_nat {k n : Nat} (h : k < n) : seqIndex? (k : Int) n = some k := by
  unfold seqIndex?
  simp only
  have h1 : ¬ ((k : Int) < 0) := by omega
  simp [h1, h]
theorem erase_map {f : Int → V} : ∀ (l : List Int) (k : Nat), (l.map f).eraseIdx k = (l.eraseIdx k).map f
  | [], _ => rfl
  | _ :: _, 0 => rfl
  | a :: l, k + 1 => by
    show f a :: (l.map f).eraseIdx k = f a :: (l.eraseIdx k).map f
    rw [erase_map l k]
def colF (r : Int) (k : Nat) : Int := r + 2 * (k : Int) + (k : Int) / 3
theorem colF_lt {r : Int} {j k : Nat} (h : j < k) : colF r j < colF r k := by unfold colF; omega
theorem cols_nodup (r : Int) (n : Nat) : ((List.range n).map (colF r)).Nodup := by
  refine List.pairwise_map.mpr (List.Pairwise.imp (fun {a b} h e => ?_) (List.nodup_range (n := n)))
  rcases Nat.lt_or_gt_of_ne h with h | h
  · have := colF_lt (r := r) h; omega
  · have := colF_lt (r := r) h; omega
section
variable {P : Program} {w : World} {K : PySem.W.Frag} {mg : Str → Option Value} {base : Heap}
def sp_cols (K : PySem.W.Frag) : Sp := fun vs H Q _ => ∃ (b c : Addr) (N many : Nat), vs = [.ref b, .int (many : Int)] ∧ Bag N H b c ∧ many ≤ 16 ∧
  ∀ (p : Addr) (cols : List Int) H', Bag N H' b c → Kp b H H' → H p = none → H' p = some (.lst (cols.map V.int)) → cols.length = many → cols.Nodup → (∀ x ∈ cols, InR x) → Q (.ref p) H'
theorem ok__law_any_columns (T : Txt w K mg) : FnOk P w K mg base CX0 2 T.a__law_any_columns T.d__law_any_columns ["bag", "many"] (sp_cols K) := by
  refine T.F__law_any_columns.ok sc__law_any_columns (fun vs H Q E h => ?_) (fun cdv A outer s H vs Q E hr h => ?_)
  · obtain ⟨b, c, N, many, rfl, _⟩ := h
    rfl
  · obtain ⟨b, c, N0, many, rfl, B, m16, k⟩ := h
    have hr__law_draw : Room 1 _ := hr
    have G__law_draw := ok__law_draw (P := P) (base := base) T
    refine ⟨_, (pss_cons (ps_set (i := 2) sc__law_any_columns.nd rfl (Or.inr rfl) (pe_call G__law_draw hr__law_draw (by rfl) T.m__law_draw T.F__law_draw.kp T.B__law_draw .nil pass0 (pa_cons (pv 0) (pa_cons pe_int pa_nil))))
      (pss_cons (ps_set (i := 3) sc__law_any_columns.nd rfl (Or.inr rfl) (pe_lc (own := [("k", 4)]) (g := gName 4) (tt := tYes) rfl sc__law_any_columns.nd (pi_range1 (by rfl) T.n_range (pa_cons (pv 1) pa_nil)) (blkOk_by (own := [("k", 4)]) (N := N__law_any_columns) (sc := defScope s__law_any_columns) (by decide +kernel)) (fun _ _ _ _ _ => pg_name (i := 4) sc__law_any_columns.nd rfl (Or.inl rfl)) (fun _ _ _ _ _ => pts_nil) (fun _ _ _ _ _ => (pe_op op_add (pe_op op_add (pv 2) (pe_op op_mul pe_int (pv 4))) (pe_op op_fdiv (pv 4) pe_int)))))
      (pss_one (ps_ret (pe_lc (own := [("k", 4)]) (g := gName 4) (tt := tYes) rfl sc__law_any_columns.nd (pi_range1 (by rfl) T.n_range (pa_cons (pv 1) pa_nil)) (blkOk_by (own := [("k", 4)]) (N := N__law_any_columns) (sc := defScope s__law_any_columns) (by decide +kernel)) (fun _ _ _ _ _ => pg_name (i := 4) sc__law_any_columns.nd rfl (Or.inl rfl)) (fun _ _ _ _ _ => pts_nil) (fun _ _ _ _ _ => (pe_bmK (K := K) rfl PySem.F.plainAttrs_list PySem.F.slot_list_pop PySem.F.type_list_pop mt_popAt (pv 3) (pa_cons (pe_call G__law_draw hr__law_draw (by rfl) T.m__law_draw T.F__law_draw.kp T.B__law_draw .nil pass0 (pa_cons (pv 0) (pa_cons (pe_callB (call_len_seqK (K := K) rfl) (by rfl) T.n_len (by decide +kernel) (pa_cons (pv 3) pa_nil)) pa_nil))) pa_nil)))))))), ?_⟩
    refine seq_op fun N hN => ?_
    walk_at "rs"
    refine ⟨b, c, 1900, N0, rfl, B, by decide, by decide, fun r H1 r0 r1 B1 K1 => hN _ _ ?_⟩
    clear hN N
    refine seq_op fun N hN => ?_
    walk_at "rs"
    refine ⟨_, rfl, (many : Int), rfl, by omega, by omega, fun D hD => lc_rngI (n := (many : Int).toNat) (fun i G ys => Same H1 G ∧ ys = (List.range i).map fun k => V.int (colF r k)) (by omega) ⟨same_upd hD, rfl⟩ (fun i G ys hi hG hl ⟨sG, ey⟩ Q2 hq => ?_) fun G ys hG hl ⟨sG, ey⟩ => hN _ _ ?_⟩
    · walk_at "rs"
      refine ⟨.inl (by decide), by decide, hq _ G hG ⟨fun b o e => ?_, ?_⟩⟩
      · have ne : b ≠ D := fun z => by rw [z, hD] at e; cases e
        rw [upd_ne ne]
        exact sG _ _ e
      · rw [ey, List.range_succ, List.map_append]
        have : r + 2 * (0 + (i : Int)) + (0 + (i : Int)) / 3 = colF r i := by unfold colF; rw [Int.zero_add]
        rw [this]
        rfl
    · clear hN N
      rw [Int.toNat_natCast] at ey
      walk_at "rs"
      have BG := B1.same sG
      have D0 : H D = none := K1.none B1 hD
      have nD := B1.ne2 hD
      refine ⟨_, rfl, (many : Int), rfl, by omega, by omega, fun D2 hD2 => lc_rngI (n := (many : Int).toNat) (fun i J zs => ∃ out ps : List Int, zs = out.map V.int ∧ J D = some (.lst (ps.map V.int)) ∧ (out ++ ps).Perm ((List.range many).map (colF r)) ∧ out.length = i ∧ Bag N0 J b c ∧ Kp b H J) (by omega) ⟨[], (List.range many).map (colF r), rfl, ?_, .refl _, rfl, ?_, ?_⟩ (fun i J zs hi hJ hl ⟨out, ps, ez, hp, pm, lo, BJ, KJ⟩ Q2 hq => ?_) fun J zs hJ hl ⟨out, ps, ez, hp, pm, lo, BJ, KJ⟩ => ?_⟩
      · have nDD : D ≠ D2 := fun z => by rw [← z, hG] at hD2; cases hD2
        rw [upd_ne nDD, hG, ey, List.map_map]
        rfl
      · exact (BG.upd (BG.ne2 hD2).1 (BG.ne2 hD2).2)
      · exact Kp.upd2 (show Kp b H G from Same.trans K1 (Kp.of sG)) (Kp.none (show Kp b H G from Same.trans K1 (Kp.of sG)) BG hD2)
      · walk_at "rs"
        have lp : out.length + ps.length = many := by
          have := pm.length_eq
          rw [List.length_append, List.length_map, List.length_range] at this
          exact this
        have n2 : D ≠ D2 := fun z => by rw [← z, hG] at hD2; cases hD2
        have nDb : D ≠ b := nD.1.symm
        refine ⟨.inl ⟨rfl, _, SqL.of hp⟩, _, .inl (SqL.of hp), ?_⟩
        rw [List.length_map]
        refine ⟨b, c, _, N0, rfl, BJ, by omega, by omega, fun x J2 x0 x1 B2 K2 => ?_⟩
        obtain ⟨k1, rfl⟩ : ∃ k1 : Nat, x = (k1 : Int) := ⟨x.toNat, by omega⟩
        have hk1 : k1 < ps.length := by omega
        have e1 : ps[k1]? = some ps[k1] := List.getElem?_eq_getElem hk1
        have hp2 := Kp.get K2 nDb hp
        have hJ2 := Kp.get K2 (fun z => (BG.ne2 hD2).1 z.symm) hJ
        refine ⟨D, _, _, k1, .int ps[k1], rfl, rfl, hp2, by omega, by omega, ixN_nat (by rw [List.length_map]; exact hk1), by rw [List.getElem?_map, e1]; rfl, hq _ _ (by rw [upd_ne n2.symm]; exact hJ2) ⟨out ++ [ps[k1]], ps.eraseIdx k1, by rw [ez, List.map_append]; rfl, ?_, ?_, ?_, ?_, ?_⟩⟩
        · rw [upd_ne n2, upd_same, erase_map]
        · refine List.Perm.trans ?_ pm
          rw [List.append_assoc]
          exact List.Perm.append_left _ (erase_perm e1).symm
        · rw [List.length_append, lo]
          rfl
        · exact (B2.upd nD.1 nD.2).upd (BG.ne2 hD2).1 (BG.ne2 hD2).2
        · exact Kp.upd2 (Kp.upd2 (Same.trans KJ K2) D0) (Kp.none (show Kp b H G from Same.trans K1 (Kp.of sG)) BG hD2)
      · have ep : ps = [] := by
          have := pm.length_eq
          rw [List.length_append, List.length_map, List.length_range] at this
          exact List.length_eq_zero_iff.mp (by omega)
        subst ep
        rw [List.append_nil] at pm
        refine k D2 out J BJ KJ (Kp.none (show Kp b H G from Same.trans K1 (Kp.of sG)) BG hD2) (by rw [← ez]; exact hJ) (by omega) (pm.nodup_iff.mpr (cols_nodup r many)) fun x hx => ?_
        obtain ⟨j, hj, rfl⟩ := List.mem_map.mp (pm.mem_iff.mp hx)
        have := List.mem_range.mp hj
        unfold colF InR
        omega
end
end LK

set_option Elab.async false
set_option linter.all false
set_option maxRecDepth 100000
namespace LK
open PySem PySem.Spec PyProof.Rows L2
local macro_rules | `(tactic| walk_at "rs") => `(tactic| simp only [cxK, cxNK, tCallZ, tAsg, tOp, rI0, rS0, rB0, rI, rU, tUn, rEq, rNe, rIxL, rIxT, rIxS, rSetL, rSlLU, rSlS, rSlU, rCatL, rCatU, rRepL, rIn, tVar, tC, gName, gSub, tIfS, tTest, tB, tAnd, tOr, tNot, tNotV, tAndV, tOrV, tIf, tCall, tCons, tNil, tCB, tDrop, tRet, tRetN, tNext, tLstU, tTupU, tM0, tM1, tPar, tPar3, tAug, ipI, tBM, tBM0, rAppend, rPop, tBreak, sDPut, tDGet, tDGet2, tCont, tChain, tSl, tPart, tNoPart, L2.start, List.map, List.length_cons, List.length_nil, List.replicate, List.cons_append, List.nil_append, List.append_nil, List.getElem?_cons_zero, List.getElem?_cons_succ, List.set_cons_zero, List.set_cons_succ, Option.some.injEq, V.int.injEq, V.ref.injEq, V.str.injEq, V.bl.injEq, exists_eq_left', exists_eq_left, exists_and_left, decide_eq_true_eq, List.cons.injEq, and_true, true_and, scal, Bool.not_eq_true', decide_eq_false_iff_not, Nat.zero_add, Nat.reduceAdd, Nat.reduceSub, reduceCtorEq, false_and, exists_false, false_or, or_false, CPow, CPowW, CMul, CDiv, Int.reduceToNat, ↓reduceIte, wipe, sw, rv3, tListKeys, tDIn, tDNotIn, List.nil_append, List.singleton_append])
local macro_rules | `(tactic| walk_at "st") => `(tactic| (refine seq_op fun N hN => ?_; walk_at "rs"))
local macro_rules | `(tactic| walk_at "sd") => `(tactic| first | assumption | decide | omega)
local macro_rules | `(tactic| walk_at "rd") => `(tactic| repeat (first
  | refine ⟨_, SqL.of (by assumption), ?_⟩ | refine ⟨_, SqL.of upd_same, ?_⟩ | refine ⟨_, .inl (SqL.of (by assumption)), ?_⟩ | refine ⟨_, (by assumption : _ = some (HO.lst _)), ?_⟩ | refine ⟨_, upd_same, ?_⟩
  | refine ⟨_, rfl, ?_⟩ | refine And.intro (by walk_at "sd") ?_))

def grow1 (span r : List Int) : List (List Int) := span.map fun c => r ++ [c]
def grow (rows : List (List Int)) (span : List Int) : List (List Int) := rows.flatMap (grow1 span)
def everyL (gs : List (List Int)) : List (List Int) := gs.foldl grow [[]]
theorem everyL_snoc (gs : List (List Int)) (g : List Int) : everyL (gs ++ [g]) = grow (everyL gs) g := by
  unfold everyL
  rw [List.foldl_append]
  rfl
theorem grow_len {rows : List (List Int)} {span : List Int} : (grow rows span).length = rows.length * span.length := by
  unfold grow
  induction rows with
  | nil => show 0 = 0 * span.length; rw [Nat.zero_mul]
  | cons r rows ih =>
    rw [List.flatMap_cons, List.length_append, ih, List.length_cons, Nat.add_mul, Nat.one_mul, Nat.add_comm]
    congr 1
    unfold grow1
    rw [List.length_map]
theorem every_len : ∀ {gs : List (List Int)}, (∀ g ∈ gs, g.length ≤ 3) → (everyL gs).length ≤ 3 ^ gs.length := by
  have key : ∀ {gs : List (List Int)} (rows : List (List Int)), (∀ g ∈ gs, g.length ≤ 3) → (gs.foldl grow rows).length ≤ rows.length * 3 ^ gs.length := by
    intro gs
    induction gs with
    | nil => intro rows _; rw [List.length_nil, Nat.pow_zero, Nat.mul_one]; exact Nat.le_refl _
    | cons g gs ih =>
      intro rows h
      rw [List.foldl_cons, List.length_cons, Nat.pow_succ', ← Nat.mul_assoc]
      refine Nat.le_trans (ih (grow rows g) fun x hx => h x (List.mem_cons_of_mem _ hx)) (Nat.mul_le_mul_right _ ?_)
      rw [grow_len]
      exact Nat.mul_le_mul_left _ (h g List.mem_cons_self)
  intro gs h
  have := key [[]] h
  rw [List.length_singleton, Nat.one_mul] at this
  exact this
def RowOf (gs : List (List Int)) (r : List Int) : Prop := r.length = gs.length ∧ ∀ (i : Nat) (c : Int), r[i]? = some c → ∃ g, gs[i]? = some g ∧ c ∈ g
theorem every_row {gs : List (List Int)} : ∀ r ∈ everyL gs, RowOf gs r := by
  have key : ∀ (gs pre : List (List Int)) (rows : List (List Int)), (∀ r ∈ rows, RowOf pre r) → ∀ r ∈ gs.foldl grow rows, RowOf (pre ++ gs) r := by
    intro gs
    induction gs with
    | nil => intro pre rows h; rw [List.append_nil]; exact h
    | cons g gs ih =>
      intro pre rows h
      rw [List.foldl_cons, show pre ++ g :: gs = (pre ++ [g]) ++ gs by rw [List.append_assoc]; rfl]
      refine ih (pre ++ [g]) (grow rows g) fun r hr => ?_
      obtain ⟨q, hq, hr⟩ := List.mem_flatMap.mp hr
      obtain ⟨c, hc, rfl⟩ := List.mem_map.mp hr
      obtain ⟨l1, l2⟩ := h q hq
      refine ⟨by rw [List.length_append, List.length_append, l1]; rfl, fun i x hx => ?_⟩
      by_cases hi : i < q.length
      · rw [List.getElem?_append_left hi] at hx
        obtain ⟨g2, e, m⟩ := l2 i x hx
        exact ⟨g2, by rw [List.getElem?_append_left (by omega)]; exact e, m⟩
      · have h1 := (List.getElem?_eq_some_iff.mp hx).1
        rw [List.length_append, List.length_singleton] at h1
        have : i = q.length := by omega
        subst this
        rw [List.getElem?_concat_length] at hx
        obtain rfl := Option.some.inj hx
        exact ⟨g, by rw [l1, List.getElem?_concat_length], hc⟩
  have := key gs [] [[]] fun r hr => by
    rw [List.mem_singleton.mp hr]
    exact ⟨rfl, fun i c h => by simp at h⟩
  exact this
end LK

set_option Elab.async false
set_option linter.all false
set_option maxRecDepth 100000
namespace LK
open PySem PySem.Spec PyProof.Rows L2
local macro_rules | `(tactic| walk_at "rs") => `(tactic| simp only [cxK, cxNK, tCallZ, tAsg, tOp, rI0, rS0, rB0, rI, rU, tUn, rEq, rNe, rIxL, rIxT, rIxS, rSetL, rSlLU, rSlS, rSlU, rCatL, rCatU, rRepL, rIn, tVar, tC, gName, gSub, tIfS, tTest, tB, tAnd, tOr, tNot, tNotV, tAndV, tOrV, tIf, tCall, tCons, tNil, tCB, tDrop, tRet, tRetN, tNext, tLstU, tTupU, tM0, tM1, tPar, tPar3, tAug, ipI, tBM, tBM0, rAppend, rPop, tBreak, sDPut, tDGet, tDGet2, tCont, tChain, tSl, tPart, tNoPart, L2.start, List.map, List.length_cons, List.length_nil, List.replicate, List.cons_append, List.nil_append, List.append_nil, List.getElem?_cons_zero, List.getElem?_cons_succ, List.set_cons_zero, List.set_cons_succ, Option.some.injEq, V.int.injEq, V.ref.injEq, V.str.injEq, V.bl.injEq, exists_eq_left', exists_eq_left, exists_and_left, decide_eq_true_eq, List.cons.injEq, and_true, true_and, scal, Bool.not_eq_true', decide_eq_false_iff_not, Nat.zero_add, Nat.reduceAdd, Nat.reduceSub, reduceCtorEq, false_and, exists_false, false_or, or_false, CPow, CPowW, CMul, CDiv, Int.reduceToNat, ↓reduceIte, wipe, sw, rv3, tListKeys, tDIn, tDNotIn, List.nil_append, List.singleton_append])
local macro_rules | `(tactic| walk_at "st") => `(tactic| (refine seq_op fun N hN => ?_; walk_at "rs"))
local macro_rules | `(tactic| walk_at "sd") => `(tactic| first | assumption | decide | omega)
local macro_rules | `(tactic| walk_at "rd") => `(tactic| repeat (first
  | refine ⟨_, SqL.of (by assumption), ?_⟩ | refine ⟨_, SqL.of upd_same, ?_⟩ | refine ⟨_, .inl (SqL.of (by assumption)), ?_⟩ | refine ⟨_, (by assumption : _ = some (HO.lst _)), ?_⟩ | refine ⟨_, upd_same, ?_⟩
  | refine ⟨_, rfl, ?_⟩ | refine And.intro (by walk_at "sd") ?_))

theorem lc_itl {K : PySem.W.Frag} {a : Addr} {xs : List V} {tl te : TE} {i0 : Nat} {σ : L2.St} {H1 : Hp} {Q : VK} (hv : ∀ Q : VK, Q (.ref a) H1 → tl σ H1 Q) (h : SqL K H1 a xs) (F : Nat → Hp → List V → Prop) (n : xs.length ≤ 1000000)
    (mono : ∀ i H H' ys, Same H H' → F i H ys → F i H' ys) (up : ∀ D i H ys zs o, H D = some (.lst zs) → F i H ys → F i (L2.upd H D o) ys) (r0 : ∀ H, F 0 H [])
    (hs : ∀ i x G, xs[i]? = some x → Same H1 G → ∀ Q2 : VK, (∀ v G2, Same G G2 → (∀ ys, F i G2 ys → F (i + 1) G2 (ys ++ [v])) → Q2 v G2) → te ((wipe σ [i0]).set i0 (some x)) G Q2)
    (hq : ∀ (D : Addr) H2 ys, Same H1 H2 → H1 D = none → H2 D = some (.lst ys) → ys.length = xs.length → F xs.length H2 ys → Q (.ref D) H2) : tLc (iList K tl) (gName i0) tYes te [i0] σ H1 Q :=
  hv _ ⟨a, rfl, ⟨xs, h⟩, fun D hD => lc_accD walk_list F hD n mono (up D) (r0 _) (fun H s => s.seq h) (fun i x G G2 hi s _ y => by
    obtain ⟨rfl, hx⟩ := y
    refine ⟨Same.refl _, ?_, fun Q2 k => hs i x _ hx s Q2 k⟩
    show ((σ.set i0 none).set i0 (some x)).set i0 none = σ.set i0 none
    rw [List.set_set, List.set_set]) (gm_name i0) fun H2 ys s e l r => hq D H2 ys s hD e l r⟩
theorem for_ls {K : PySem.W.Frag} {a : Addr} {xs : List V} {g : TG} {tb : TS} {D : Ends} {σ : L2.St} {H : Hp} {tl : TE} (hv : ∀ Q : VK, Q (.ref a) H → tl σ H Q) (Pv : Nat → L2.St → Hp → Prop) (h0 : Pv 0 σ H) (hl : ∀ i σ H', Pv i σ H' → SqL K H' a xs)
    (hs : ∀ i x σ H, xs[i]? = some x → Pv i σ H → g x σ H fun σ2 H2 => tb { D with nx := Pv (i + 1), ct := Pv (i + 1), bk := D.nx } σ2 H2) (hd : ∀ σ H, Pv xs.length σ H → D.nx σ H) : tFor (iList K tl) g tb D σ H :=
  hv _ ⟨a, rfl, ⟨xs, hl _ _ _ h0⟩, for_list (K := K) (a := a) (xs := xs) Pv h0 (fun i σ H2 _ p => hl i σ H2 p) hs hd⟩
/-! ### all rows -/
inductive Lists (K : PySem.W.Frag) (H : Hp) : List V → List (List Int) → Prop
  | nil : Lists K H [] []
  | cons {a : Addr} {r : List Int} {xs : List V} {rs : List (List Int)} : SqL K H a (r.map V.int) → Lists K H xs rs → Lists K H (.ref a :: xs) (r :: rs)
theorem Lists.same {K : PySem.W.Frag} {H H' : Hp} (s : Same H H') : ∀ {xs : List V} {rs : List (List Int)}, Lists K H xs rs → Lists K H' xs rs
  | _, _, .nil => .nil
  | _, _, .cons h q => .cons (s.seq h) (q.same s)
theorem Lists.len {K : PySem.W.Frag} {H : Hp} : ∀ {xs : List V} {rs : List (List Int)}, Lists K H xs rs → xs.length = rs.length
  | _, _, .nil => rfl
  | _, _, .cons _ q => congrArg Nat.succ q.len
theorem Lists.get {K : PySem.W.Frag} {H : Hp} : ∀ {xs : List V} {rs : List (List Int)} {i : Nat} {x : V}, Lists K H xs rs → xs[i]? = some x → ∃ (a : Addr) (r : List Int), x = .ref a ∧ rs[i]? = some r ∧ SqL K H a (r.map V.int)
  | _, _, _, _, .nil, h => by simp at h
  | _, _, 0, _, .cons h _, e => ⟨_, _, (Option.some.inj e).symm, rfl, h⟩
  | _, _, i + 1, _, .cons _ q, e => by
    obtain ⟨a, r, h1, h2, h3⟩ := q.get (i := i) e
    exact ⟨a, r, h1, h2, h3⟩
section
variable {P : Program} {w : World} {K : PySem.W.Frag} {mg : Str → Option Value} {base : Heap}
def sp_every (K : PySem.W.Frag) : Sp := fun vs H Q _ => ∃ (a : Addr) (ga : List V) (gs : List (List Int)), vs = [.ref a] ∧ SqL K H a ga ∧ Lists K H ga gs ∧ gs.length ≤ 3 ∧ (∀ g ∈ gs, g.length ≤ 3) ∧
  ∀ (p : Addr) (xs : List V) H', Same H H' → H p = none → H' p = some (.lst xs) → RowsT K H' xs (everyL gs) → Q (.ref p) H'
theorem ok__law_every (T : Txt w K mg) : FnOk P w K mg base CX0 1 T.a__law_every T.d__law_every ["some"] (sp_every K) := by
  refine T.F__law_every.ok sc__law_every (fun vs H Q E h => ?_) (fun cdv A outer s H vs Q E hr h => ?_)
  · obtain ⟨a, ga, gs, rfl, _⟩ := h
    rfl
  · obtain ⟨a, ga, gs, rfl, ha, hg, l3, g3, k⟩ := h
    have lg := hg.len
    refine ⟨_, (pss_cons (ps_set (i := 1) sc__law_every.nd rfl (Or.inl rfl) (pe_lstU (pa_cons (pe_tupU pa_nil) pa_nil)))
      (pss_cons (ps_for PassesOwn.never rfl (pi_list (pv 0)) (pg_name (i := 2) sc__law_every.nd rfl (Or.inl rfl)) (pss_cons (ps_set (i := 3) sc__law_every.nd rfl (Or.inl rfl) (pe_lstU pa_nil))
      (pss_cons (ps_for PassesOwn.never rfl (pi_list (pv 1)) (pg_name (i := 4) sc__law_every.nd rfl (Or.inr rfl)) (pss_one (ps_set (i := 3) sc__law_every.nd rfl (Or.inl rfl) (pe_op op_catL (pv 3) (pe_lc (own := [("one", 5)]) (g := gName 5) (tt := tYes) rfl sc__law_every.nd (pi_list (pv 2)) (blkOk_by (own := [("one", 5)]) (N := N__law_every) (sc := defScope s__law_every) (by decide +kernel)) (fun _ _ _ _ _ => pg_name (i := 5) sc__law_every.nd rfl (Or.inl rfl)) (fun _ _ _ _ _ => pts_nil) (fun _ _ _ _ _ => (pe_op (op_catUK (K := K) rfl) (pv 4) (pe_tupU (pa_cons (pv 5) pa_nil)))))))))
      (pss_one (ps_set (i := 1) sc__law_every.nd rfl (Or.inl rfl) (pv 3))))))
      (pss_one (ps_ret (pv 1))))), ?_⟩
    refine seq_op fun N hN => ?_
    walk_at "rs"
    refine ⟨Nat.zero_le _, fun p1 H1 s1 n1 t1 => ⟨by decide, fun p2 H2 s2 n2 t2 => hN _ _ ?_⟩⟩
    clear hN N
    have s12 := Same.trans s1 s2
    have n2' := Same.dom s1 _ n2
    refine cut_seq (fun σ G => ∃ (x2 x3 x4 x5 : Option V) (p : Addr) (xs : List V), σ = [some (.ref a), some (.ref p), x2, x3, x4, x5] ∧ Same H G ∧ H p = none ∧ G p = some (.lst xs) ∧ RowsT K G xs (everyL gs)) (fun N hN => ?_) ?_
    · walk_at "rs"
      refine for_ls (K := K) (a := a) (xs := ga) (fun Q q => ⟨_, rfl, q⟩) (fun i σ G => ∃ (x2 x3 x4 x5 : Option V) (p : Addr) (xs : List V), σ = [some (.ref a), some (.ref p), x2, x3, x4, x5] ∧ Same H G ∧ H p = none ∧ G p = some (.lst xs) ∧ RowsT K G xs (everyL (gs.take i))) ⟨_, _, _, _, p2, _, rfl, s12, n2', t2, .cons (r := []) (.inl (.inl (s2 _ _ t1))) .nil⟩ (fun i σ G ⟨_, _, _, _, _, _, _, s, _⟩ => s.seq ha) ?_ ?_
      · rintro i x σ G hx ⟨x2, x3, x4, x5, p, xs, rfl, sG, np, hp, hr⟩
        obtain ⟨ga1, g, rfl, eg, hg1⟩ := hg.get hx
        have lx := hr.len
        have et : gs.take (i + 1) = gs.take i ++ [g] := by
          obtain ⟨hk, e⟩ := List.getElem?_eq_some_iff.mp eg
          rw [← List.take_append_getElem hk, e]
        have gl := g3 g (List.mem_of_getElem? eg)
        have b27 : (everyL (gs.take i)).length ≤ 27 := by
          have := every_len (gs := gs.take i) fun x hx => g3 x (List.mem_of_mem_take hx)
          have l : (gs.take i).length ≤ 3 := by rw [List.length_take]; omega
          exact Nat.le_trans this (Nat.pow_le_pow_right (by decide) l)
        show tSeq _ _ _ [some (V.ref a), some (V.ref p), some (V.ref ga1), x3, x4, x5] G
        refine seq_op fun N1 hN1 => ?_
        walk_at "rs"
        refine ⟨by decide, fun p3 H3 s3 n3 t3 => hN1 _ _ ?_⟩
        clear hN1 N1
        have sG3 := Same.trans sG s3
        have n3' := Same.dom sG _ n3
        refine cut_seq (fun σ G => ∃ (x4 x5 : Option V) (p3 : Addr) (zs : List V), σ = [some (.ref a), some (.ref p), some (.ref ga1), some (.ref p3), x4, x5] ∧ Same H3 G ∧ H p3 = none ∧ G p3 = some (.lst zs) ∧ RowsT K G zs (grow (everyL (gs.take i)) g)) (fun N1 hN1 => ?_) ?_
        · refine for_ls (K := K) (a := p) (xs := xs) (fun Q q => ⟨_, rfl, q⟩) (fun j σ G => ∃ (x4 x5 : Option V) (p3 : Addr) (zs : List V), σ = [some (.ref a), some (.ref p), some (.ref ga1), some (.ref p3), x4, x5] ∧ Same H3 G ∧ H p3 = none ∧ G p3 = some (.lst zs) ∧ RowsT K G zs (grow ((everyL (gs.take i)).take j) g)) ⟨_, _, p3, [], rfl, Same.refl _, n3', t3, .nil⟩ (fun j σ G ⟨_, _, _, _, _, s, _⟩ => SqL.of (s _ _ (s3 _ _ hp))) ?_ ?_
          · rintro j x σ G2 hxj ⟨x4, x5, p4, zs, rfl, sG2, n4, hp4, hz⟩
            obtain ⟨ra, r, rfl, er, hr1⟩ := hr.get hxj
            have lz := hz.len
            have s32 := Same.trans s3 sG2
            walk_at "rs"
            have sH2 := Same.trans sG3 sG2
            have hgq := sH2.seq hg1
            have er2 : (everyL (gs.take i)).take (j + 1) = (everyL (gs.take i)).take j ++ [r] := by
              obtain ⟨hk, e⟩ := List.getElem?_eq_some_iff.mp er
              rw [← List.take_append_getElem hk, e]
            have lt : ((everyL (gs.take i)).take j).length ≤ 27 := by rw [List.length_take]; omega
            have lr : r.length ≤ 1000 := by
              rw [(every_row r (List.mem_of_getElem? er)).1, List.length_take]
              omega
            refine lc_itl (K := K) (a := ga1) (xs := g.map V.int) (fun Q q => ⟨_, rfl, q⟩) hgq (fun n H ys => RowsT K H ys (grow1 (g.take n) r)) (by rw [List.length_map]; omega) (fun n H H' ys s h => h.same s) (fun D n H ys zs o hp h => h.updO (notT_lst hp)) (fun H => .nil) (fun n x J ex sJ Q2 hq => ?_) fun D1 J ys sJ D10 D11 ly iy => ?_
            · obtain ⟨cc, rfl, ei⟩ : ∃ cc, x = V.int cc ∧ g[n]? = some cc := by
                rw [List.getElem?_map] at ex
                obtain ⟨cc, h1, h2⟩ := Option.map_eq_some_iff.mp ex
                exact ⟨cc, h2.symm, h1⟩
              walk_at "rs"
              refine ⟨by decide, fun q1 J1 u1 m1 v1 => ⟨_, Same.seqT (Same.trans s32 (Same.trans sJ u1)) hr1, _, .inl (.inl v1), Nat.le_trans (show (r.map V.int).length + 1 ≤ 1001 by rw [List.length_map]; omega) (by decide), fun q2 J2 u2 v2 => hq _ J2 (Same.trans u1 u2) fun ys h => ?_⟩⟩
              have eg1 : grow1 (g.take (n + 1)) r = grow1 (g.take n) r ++ [r ++ [cc]] := by
                obtain ⟨hk, e⟩ := List.getElem?_eq_some_iff.mp ei
                unfold grow1
                rw [← List.take_append_getElem hk, e, List.map_append]
                rfl
              rw [eg1]
              refine h.app (.cons ?_ .nil)
              rw [List.map_append]
              exact v2
            · rw [List.length_map, List.take_length] at iy
              have lw : (grow ((everyL (gs.take i)).take j) g).length ≤ 81 := by
                rw [grow_len]
                exact Nat.mul_le_mul lt gl
              rw [List.length_map] at ly
              refine ⟨D1, rfl, zs, sJ _ _ hp4, ys, D11, Nat.le_trans (show zs.length + ys.length ≤ 100 by omega) (by decide), fun p5 J2 u2 m2 v2 => ⟨_, _, p5, ⟨rfl, rfl, rfl⟩, Same.trans sG2 (Same.trans sJ u2), Same.dom (Same.trans sH2 sJ) _ m2, _, v2, ?_⟩⟩
              have eg2 : grow ((everyL (gs.take i)).take (j + 1)) g = grow ((everyL (gs.take i)).take j) g ++ grow1 g r := by
                rw [er2]
                unfold grow
                rw [List.flatMap_append, List.flatMap_cons, List.flatMap_nil, List.append_nil]
              rw [eg2]
              exact (hz.same (Same.trans sJ u2)).app (iy.same u2)
          · rintro σ G2 ⟨x4, x5, p4, zs, rfl, sG2, n4, hp4, hz⟩
            rw [lx, List.take_length] at hz
            exact hN1 _ _ ⟨_, _, p4, zs, rfl, sG2, n4, hp4, hz⟩
        · rintro σ G2 ⟨x4, x5, p4, zs, rfl, sG2, n4, hp4, hz⟩
          walk_at "rs"
          rw [et, everyL_snoc]
          exact ⟨_, _, _, _, p4, ⟨rfl, rfl, rfl, rfl, rfl⟩, Same.trans sG3 sG2, n4, zs, hp4, hz⟩
      · rintro σ G ⟨x2, x3, x4, x5, p, xs, rfl, sG, np, hp, hr⟩
        rw [lg, List.take_length] at hr
        exact hN _ _ ⟨_, _, _, _, p, xs, rfl, sG, np, hp, hr⟩
    · rintro σ G ⟨x2, x3, x4, x5, p, xs, rfl, sG, np, hp, hr⟩
      walk_at "rs"
      exact k p xs G sG np hp hr
end
end LK

set_option Elab.async false
set_option linter.all false
set_option maxRecDepth 100000
namespace LK
open PySem PySem.Spec PyProof.Rows L2
local macro_rules | `(tactic| walk_at "rs") => `(tactic| simp only [cxK, cxNK, tCallZ, tAsg, tOp, rI0, rS0, rB0, rI, rU, tUn, rEq, rNe, rIxL, rIxT, rIxS, rSetL, rSlLU, rSlS, rSlU, rCatL, rCatU, rRepL, rIn, tVar, tC, gName, gSub, tIfS, tTest, tB, tAnd, tOr, tNot, tNotV, tAndV, tOrV, tIf, tCall, tCons, tNil, tCB, tDrop, tRet, tRetN, tNext, tLstU, tTupU, tM0, tM1, tPar, tPar3, tAug, ipI, tBM, tBM0, rAppend, rPop, tBreak, sDPut, tDGet, tDGet2, tCont, tChain, tSl, tPart, tNoPart, L2.start, List.map, List.length_cons, List.length_nil, List.replicate, List.cons_append, List.nil_append, List.append_nil, List.getElem?_cons_zero, List.getElem?_cons_succ, List.set_cons_zero, List.set_cons_succ, Option.some.injEq, V.int.injEq, V.ref.injEq, V.str.injEq, V.bl.injEq, exists_eq_left', exists_eq_left, exists_and_left, decide_eq_true_eq, List.cons.injEq, and_true, true_and, scal, Bool.not_eq_true', decide_eq_false_iff_not, Nat.zero_add, Nat.reduceAdd, Nat.reduceSub, reduceCtorEq, false_and, exists_false, false_or, or_false, CPow, CPowW, CMul, CDiv, Int.reduceToNat, ↓reduceIte, wipe, sw, rv3, tListKeys, tDIn, tDNotIn, List.nil_append, List.singleton_append])
local macro_rules | `(tactic| walk_at "st") => `(tactic| (refine seq_op fun N hN => ?_; walk_at "rs"))
local macro_rules | `(tactic| walk_at "sd") => `(tactic| first | assumption | decide | omega)
local macro_rules | `(tactic| walk_at "rd") => `(tactic| repeat (first
  | refine ⟨_, SqL.of (by assumption), ?_⟩ | refine ⟨_, SqL.of upd_same, ?_⟩ | refine ⟨_, .inl (SqL.of (by assumption)), ?_⟩ | refine ⟨_, (by assumption : _ = some (HO.lst _)), ?_⟩ | refine ⟨_, upd_same, ?_⟩
  | refine ⟨_, rfl, ?_⟩ | refine And.intro (by walk_at "sd") ?_))

/-! ### sums at distinct spots -/
theorem accR_shift (k : List Int) : ∀ (b : List It) (r : Rat), b.foldl (fun acc it => if it.1 = k then acc + rt it.2 else acc) r = r + accR b k
  | [], r => by show r = r + 0; rw [Rat.add_zero]
  | it :: b, r => by
    unfold accR
    simp only [List.foldl_cons]
    by_cases e : it.1 = k
    · rw [if_pos e, if_pos e, accR_shift k b (r + rt it.2), accR_shift k b (0 + rt it.2), Rat.zero_add, Rat.add_assoc]
    · rw [if_neg e, if_neg e, accR_shift k b r]
      rfl
theorem accR_app (a b : List It) (k : List Int) : accR (a ++ b) k = accR a k + accR b k := by
  show (a ++ b).foldl _ 0 = _
  rw [List.foldl_append]
  exact accR_shift k b _
theorem accR_one (it : It) (k : List Int) : accR [it] k = if it.1 = k then rt it.2 else 0 := by
  unfold accR
  simp only [List.foldl_cons, List.foldl_nil]
  split
  · rw [Rat.zero_add]
  · rfl
theorem accR_cons (it : It) (b : List It) (k : List Int) : accR (it :: b) k = (if it.1 = k then rt it.2 else 0) + accR b k := by
  rw [show it :: b = [it] ++ b from rfl, accR_app, accR_one]
theorem accR_at : ∀ {l : List It} {x : It}, (l.map (·.1)).Nodup → x ∈ l → accR l x.1 = rt x.2
  | [], _, _, h => by cases h
  | a :: l, x, nd, h => by
    rw [List.map_cons, List.nodup_cons] at nd
    rw [accR_cons]
    rcases List.mem_cons.mp h with rfl | h
    · rw [if_pos rfl, (accF_none fun y hy e => nd.1 (List.mem_map.mpr ⟨y, hy, e⟩)).2, Rat.add_zero]
    · rw [if_neg fun e => nd.1 (List.mem_map.mpr ⟨x, h, e.symm⟩), Rat.zero_add]
      exact accR_at nd.2 h
theorem nd_perm {α : Type} [DecidableEq α] : ∀ {l m : List α}, l.Nodup → m.Nodup → (∀ x, x ∈ l ↔ x ∈ m) → l.Perm m
  | [], [], _, _, _ => .nil
  | [], b :: m, _, _, h => by have := (h b).mpr List.mem_cons_self; cases this
  | a :: l, m, hl, hm, h => by
    rw [List.nodup_cons] at hl
    have ha : a ∈ m := (h a).mp List.mem_cons_self
    have p : m.Perm (a :: m.erase a) := List.perm_cons_erase ha
    refine List.Perm.trans (List.Perm.cons a (nd_perm hl.2 (hm.erase a) fun x => ?_)) p.symm
    rw [hm.mem_erase_iff]
    constructor
    · intro hx
      exact ⟨fun e => hl.1 (e ▸ hx), (h x).mp (List.mem_cons_of_mem _ hx)⟩
    · rintro ⟨ne, hx⟩
      rcases List.mem_cons.mp ((h x).mpr hx) with e | hx
      · exact absurd e ne
      · exact hx
theorem norm_nd {R : List Int → Rat} {l : List It} (h : Norm R l) : l.Nodup := h.srt.imp fun hab e => by
  rw [e] at hab
  omega
theorem nd_of_map {α β : Type} {f : α → β} : ∀ {l : List α}, (l.map f).Nodup → l.Nodup
  | [], _ => List.nodup_nil
  | a :: l, h => by
    rw [List.map_cons, List.nodup_cons] at h
    exact List.nodup_cons.mpr ⟨fun m => h.1 (List.mem_map_of_mem m), nd_of_map h.2⟩
theorem norm_perm {items its : List It} (nd : (items.map (·.1)).Nodup) (hl : ∀ x ∈ items, low x.2 ∧ x.2.1 ≠ 0) (h : Norm (accR items) its) : its.Perm items := by
  refine nd_perm (norm_nd h) (nd_of_map nd) fun x => ⟨fun hx => ?_, fun hx => ?_⟩
  · obtain ⟨a1, a2, a3⟩ := h.it x hx
    have : ∃ y ∈ items, y.1 = x.1 := Classical.byContradiction fun n => a2 ((rt_null a1).mp (a3.trans (accF_none fun it hit e => n ⟨it, hit, e⟩).2))
    obtain ⟨y, hy, e⟩ := this
    have e2 := accR_at nd hy
    rw [e] at e2
    have : x.2 = y.2 := rt_eq a1 (hl y hy).1 (a3.trans e2)
    rw [show x = y from Prod.ext e.symm this]
    exact hy
  · obtain ⟨l1, n1⟩ := hl x hx
    have e := accR_at nd hx
    obtain ⟨f, hf⟩ := h.all x.1 (by rw [e]; exact fun z => n1 ((rt_null l1).mp z))
    obtain ⟨b1, b2, b3⟩ := h.it _ hf
    have : x.2 = f := rt_eq l1 b1 (e.symm.trans b3.symm)
    rw [show x = (x.1, f) from Prod.ext rfl this]
    exact hf
theorem tms_spots {r : List Int} {rest : Int} (nd : r.Nodup) (h : rest ∉ r) (m : Int) : ((tms r rest m).map (·.1)).Nodup := by
  unfold tms
  rw [List.map_append, List.map_map]
  refine List.nodup_append.mpr ⟨?_, by simp, fun x hx y hy e => ?_⟩
  · refine List.pairwise_map.mpr (nd.imp fun {a b} h e => h ?_)
    have e : [a] = [b] := e
    injection e
  · obtain ⟨c, hc, rfl⟩ := List.mem_map.mp hx
    obtain rfl := List.mem_singleton.mp hy
    have e : [c] = [rest] := e
    injection e with e
    exact h (e ▸ hc)
theorem tms_nz {r : List Int} {rest m : Int} (hm : m ≠ 0) : ∀ x ∈ tms r rest m, low x.2 ∧ x.2.1 ≠ 0 := fun x hx => by
  rcases List.mem_append.mp hx with hx | hx
  · obtain ⟨c, _, rfl⟩ := List.mem_map.mp hx
    exact ⟨low_one, (by decide : (1 : Int) ≠ 0)⟩
  · obtain rfl := List.mem_singleton.mp hx
    exact ⟨low_int _, show -m ≠ 0 by omega⟩
theorem gv1_norm {t : Int} {gits : List It} (h : Norm (accR (gv1 t)) gits) : gits = gv1 t :=
  List.perm_singleton.mp (norm_perm (items := gv1 t) (by simp [gv1]) (fun x hx => by
    obtain rfl := List.mem_singleton.mp hx
    exact ⟨low_one, (by decide : (1 : Int) ≠ 0)⟩) h)
/-! ### heights -/
theorem hgt_perm {cont : List Int} {a b : List It} (h : a.Perm b) : ∀ sh, hgt cont sh a = hgt cont sh b := by
  induction h with
  | nil => intro sh; rfl
  | cons x _ ih =>
    intro sh
    unfold hgt
    rw [List.foldl_cons, List.foldl_cons]
    exact ih _
  | swap x y l =>
    intro sh
    unfold hgt
    simp only [List.foldl_cons]
    congr 1
    split <;> split <;> omega
  | trans _ _ ih1 ih2 => intro sh; rw [ih1, ih2]
def cntIn (cont r : List Int) : Nat := (r.filter fun c => decide (c ∈ cont)).length
theorem hgt_tms (cont : List Int) (rest m : Int) : ∀ (r : List Int) (sh : Int), hgt cont sh (tms r rest m) = sh + cntIn cont r - (if rest ∈ cont then m else 0)
  | [], sh => by
    unfold hgt tms cntIn
    simp only [List.map_nil, List.nil_append, List.foldl_cons, List.foldl_nil, List.filter_nil, List.length_nil]
    show (if ([rest] : List Int).headD 0 ∈ cont then sh + -m else sh) = _
    rw [show ([rest] : List Int).headD 0 = rest from rfl]
    split <;> simp <;> omega
  | c :: r, sh => by
    have ih := hgt_tms cont rest m r
    have e : hgt cont sh (tms (c :: r) rest m) = hgt cont (if c ∈ cont then sh + 1 else sh) (tms r rest m) := rfl
    rw [e, ih]
    unfold cntIn
    rw [List.filter_cons]
    by_cases h : c ∈ cont
    · rw [if_pos h, if_pos (c := decide (c ∈ cont) = true) (decide_eq_true h), List.length_cons]
      omega
    · rw [if_neg h, if_neg (c := decide (c ∈ cont) = true) (by rw [decide_eq_false h]; simp)]
theorem cnt_le {cont r : List Int} (nd : r.Nodup) : cntIn cont r ≤ cont.length := nodup_len (nd.filter _) fun x hx => of_decide_eq_true (List.mem_filter.mp hx).2
theorem cnt_lt {cont r : List Int} {c : Int} (h : c ∈ r) (n : c ∉ cont) : cntIn cont r + 1 ≤ r.length := by
  unfold cntIn
  have : (r.filter fun c => decide (c ∈ cont)).length < r.length := List.length_filter_lt_length_iff_exists.mpr ⟨c, h, by rw [decide_eq_false n]; simp⟩
  omega
theorem cnt_all {cont r : List Int} (h : ∀ c ∈ r, c ∈ cont) : cntIn cont r = r.length := by
  unfold cntIn
  rw [List.filter_eq_self.mpr fun c hc => by simpa using h c hc]
theorem cnt_none {cont r : List Int} (h : ∀ c ∈ r, c ∉ cont) : cntIn cont r = 0 := by
  unfold cntIn
  rw [List.filter_eq_nil_iff.mpr fun c hc => by simpa using h c hc]
  rfl
theorem cnt_app {a b r : List Int} (h : ∀ c ∈ r, c ∉ b) : cntIn (a ++ b) r = cntIn a r := by
  unfold cntIn
  congr 1
  refine List.filter_congr fun c hc => ?_
  have := h c hc
  simp [List.mem_append, this]
/-! ### rows of all groups -/
theorem grow_nd {rows : List (List Int)} {g : List Int} (hr : rows.Nodup) (hg : g.Nodup) : (grow rows g).Nodup := by
  induction rows with
  | nil => exact List.nodup_nil
  | cons r rows ih =>
    rw [List.nodup_cons] at hr
    unfold grow
    rw [List.flatMap_cons]
    refine List.nodup_append.mpr ⟨?_, ih hr.2, ?_⟩
    · unfold grow1
      refine List.pairwise_map.mpr (hg.imp fun {a b} h e => h ?_)
      have := (List.append_inj' e rfl).2
      injection this
    · intro x hx y hy e
      obtain ⟨c, _, rfl⟩ := List.mem_map.mp hx
      obtain ⟨q, hq, hy⟩ := List.mem_flatMap.mp hy
      obtain ⟨d, _, rfl⟩ := List.mem_map.mp hy
      have := (List.append_inj' e rfl).1
      exact hr.1 (this ▸ hq)
theorem every_nd {gs : List (List Int)} (h : ∀ g ∈ gs, g.Nodup) : (everyL gs).Nodup := by
  have key : ∀ (gs rows : List (List Int)), (∀ g ∈ gs, g.Nodup) → rows.Nodup → (gs.foldl grow rows).Nodup := by
    intro gs
    induction gs with
    | nil => intro rows _ h; exact h
    | cons g gs ih => intro rows hg h; exact ih (grow rows g) (fun x hx => hg x (List.mem_cons_of_mem _ hx)) (grow_nd h (hg g List.mem_cons_self))
  exact key gs [[]] h (by simp)
theorem flat_ix : ∀ {gs : List (List Int)} {i j : Nat} {g g2 : List Int} {c : Int}, gs.flatten.Nodup → gs[i]? = some g → gs[j]? = some g2 → c ∈ g → c ∈ g2 → i = j
  | [], _, _, _, _, _, _, h, _, _, _ => by simp at h
  | a :: gs, i, j, g, g2, c, nd, h1, h2, m1, m2 => by
    rw [List.flatten_cons] at nd
    obtain ⟨_, n2, n3⟩ := List.nodup_append.mp nd
    have inF : ∀ {k : Nat} {g : List Int}, gs[k]? = some g → c ∈ g → c ∈ gs.flatten := fun h m => List.mem_flatten.mpr ⟨_, List.mem_of_getElem? h, m⟩
    match i, j with
    | 0, 0 => rfl
    | 0, j + 1 =>
      obtain rfl := Option.some.inj h1
      exact absurd rfl (n3 c m1 c (inF (k := j) h2 m2))
    | i + 1, 0 =>
      obtain rfl := Option.some.inj h2
      exact absurd rfl (n3 c m2 c (inF (k := i) h1 m1))
    | i + 1, j + 1 => exact congrArg Nat.succ (flat_ix n2 (i := i) (j := j) h1 h2 m1 m2)
theorem RowOf.mem {gs : List (List Int)} {r : List Int} (h : RowOf gs r) {c : Int} (hc : c ∈ r) : c ∈ gs.flatten := by
  obtain ⟨i, hi, e⟩ := List.getElem_of_mem hc
  obtain ⟨g, e2, m⟩ := h.2 i c (by rw [List.getElem?_eq_getElem hi, e])
  exact List.mem_flatten.mpr ⟨g, List.mem_of_getElem? e2, m⟩
theorem RowOf.nd {gs : List (List Int)} {r : List Int} (h : RowOf gs r) (nd : gs.flatten.Nodup) : r.Nodup := by
  refine List.pairwise_iff_getElem.mpr fun i j hi hj lt e => ?_
  obtain ⟨g, e1, m1⟩ := h.2 i r[i] (List.getElem?_eq_getElem hi)
  obtain ⟨g2, e2, m2⟩ := h.2 j r[j] (List.getElem?_eq_getElem hj)
  have := flat_ix nd e1 e2 m1 (e ▸ m2)
  omega
theorem RowOf.sub {gs : List (List Int)} {r q : List Int} (h : RowOf gs r) (h2 : RowOf gs q) (nd : gs.flatten.Nodup) (s : ∀ c ∈ r, c ∈ q) : r = q := by
  refine List.ext_getElem (by rw [h.1, h2.1]) fun i h1 h3 => ?_
  obtain ⟨g, e1, m1⟩ := h.2 i r[i] (List.getElem?_eq_getElem h1)
  obtain ⟨j, hj, e⟩ := List.getElem_of_mem (s r[i] (List.getElem_mem h1))
  obtain ⟨g2, e2, m2⟩ := h2.2 j q[j] (List.getElem?_eq_getElem hj)
  have := flat_ix nd e1 e2 m1 (e ▸ m2)
  subst this
  exact e.symm
end LK

set_option Elab.async false
set_option linter.all false
set_option maxRecDepth 100000
namespace LK
open PySem PySem.Spec PyProof.Rows L2
local macro_rules | `(tactic| walk_at "rs") => `(tactic| simp only [cxK, cxNK, tCallZ, tAsg, tOp, rI0, rS0, rB0, rI, rU, tUn, rEq, rNe, rIxL, rIxT, rIxS, rSetL, rSlLU, rSlS, rSlU, rCatL, rCatU, rRepL, rIn, tVar, tC, gName, gSub, tIfS, tTest, tB, tAnd, tOr, tNot, tNotV, tAndV, tOrV, tIf, tCall, tCons, tNil, tCB, tDrop, tRet, tRetN, tNext, tLstU, tTupU, tM0, tM1, tPar, tPar3, tAug, ipI, tBM, tBM0, rAppend, rPop, tBreak, sDPut, tDGet, tDGet2, tCont, tChain, tSl, tPart, tNoPart, L2.start, List.map, List.length_cons, List.length_nil, List.replicate, List.cons_append, List.nil_append, List.append_nil, List.getElem?_cons_zero, List.getElem?_cons_succ, List.set_cons_zero, List.set_cons_succ, Option.some.injEq, V.int.injEq, V.ref.injEq, V.str.injEq, V.bl.injEq, exists_eq_left', exists_eq_left, exists_and_left, decide_eq_true_eq, List.cons.injEq, and_true, true_and, scal, Bool.not_eq_true', decide_eq_false_iff_not, Nat.zero_add, Nat.reduceAdd, Nat.reduceSub, reduceCtorEq, false_and, exists_false, false_or, or_false, CPow, CPowW, CMul, CDiv, Int.reduceToNat, ↓reduceIte, wipe, sw, rv3, tListKeys, tDIn, tDNotIn, List.nil_append, List.singleton_append])
local macro_rules | `(tactic| walk_at "st") => `(tactic| (refine seq_op fun N hN => ?_; walk_at "rs"))
local macro_rules | `(tactic| walk_at "sd") => `(tactic| first | assumption | decide | omega)
local macro_rules | `(tactic| walk_at "rd") => `(tactic| repeat (first
  | refine ⟨_, SqL.of (by assumption), ?_⟩ | refine ⟨_, SqL.of upd_same, ?_⟩ | refine ⟨_, .inl (SqL.of (by assumption)), ?_⟩ | refine ⟨_, (by assumption : _ = some (HO.lst _)), ?_⟩ | refine ⟨_, upd_same, ?_⟩
  | refine ⟨_, rfl, ?_⟩ | refine And.intro (by walk_at "sd") ?_))

/-! ### sums over rows -/
def hR (cont : List Int) (last : Int) (r : List Int) : Int := 1 - (r.length : Int) + cntIn cont r - (if last ∈ cont then 1 else 0)
def rOne (cont : List Int) (last : Int) (r : List Int) (t c : Int) : Int := if 0 < hR cont last r then (if t = c then hR cont last r else 0) else 0
def rTot (cont : List Int) (last : Int) : List (List Int) → List Int → Int → Int
  | r :: rs, t :: ts, c => rOne cont last r t c + rTot cont last rs ts c
  | _, _, _ => 0
theorem gTot_cons (cont : List Int) (u : GU) (us : List GU) (c : Int) : gTot cont (u :: us) c = gOne cont u c + gTot cont us c := by
  have key : ∀ (us : List GU) (s : Int), us.foldl (fun s u => s + gOne cont u c) s = s + gTot cont us c := by
    intro us
    induction us with
    | nil => intro s; show s = s + 0; omega
    | cons v us ih =>
      intro s
      unfold gTot
      rw [List.foldl_cons, List.foldl_cons, ih, ih (0 + _)]
      omega
  unfold gTot
  rw [List.foldl_cons, key, Int.zero_add]
  rfl
inductive EG (last : Int) : List GU → List (List Int) → List Int → Prop
  | nil : EG last [] [] []
  | cons {its : List It} {r : List Int} {t : Int} {us : List GU} {rs : List (List Int)} {ts : List Int} : its.Perm (tms r last 1) → r.length ≤ 30 → EG last us rs ts → EG last ((its, 1 - (r.length : Int), t) :: us) (r :: rs) (t :: ts)
theorem EG.tot {last : Int} (cont : List Int) (c : Int) : ∀ {us : List GU} {rs : List (List Int)} {ts : List Int}, EG last us rs ts → gTot cont us c = rTot cont last rs ts c
  | _, _, _, .nil => rfl
  | _, _, _, .cons (its := its) (r := r) (t := t) (us := us) (rs := rs) (ts := ts) h _ q => by
    rw [gTot_cons, q.tot]
    show _ = rOne cont last r t c + _
    unfold gOne rOne
    have e : hgt cont (1 - (r.length : Int)) its = hR cont last r := by rw [hgt_perm h, hgt_tms]; rfl
    dsimp only
    rw [e]
theorem EG.len {last : Int} : ∀ {us : List GU} {rs : List (List Int)} {ts : List Int}, EG last us rs ts → us.length = rs.length
  | _, _, _, .nil => rfl
  | _, _, _, .cons _ _ q => congrArg Nat.succ q.len
theorem EG.ok {last : Int} : ∀ {us : List GU} {rs : List (List Int)} {ts : List Int}, EG last us rs ts → ∀ u ∈ us, GuOk u
  | _, _, _, .nil => fun u hu => absurd hu (by simp)
  | _, _, _, .cons (its := its) (r := r) (t := t) h l q => fun u hu => by
    rcases List.mem_cons.mp hu with rfl | hu
    · refine ⟨fun x hx => ?_, ?_, ?_⟩
      · rcases List.mem_append.mp (h.mem_iff.mp hx) with hx | hx
        · obtain ⟨c, _, rfl⟩ := List.mem_map.mp hx
          exact ⟨c, 1, rfl, by decide⟩
        · obtain rfl := List.mem_singleton.mp hx
          exact ⟨last, -1, rfl, by decide⟩
      · show its.length ≤ 40
        rw [h.length_eq]
        unfold tms
        rw [List.length_append, List.length_map]
        simp only [List.length_cons, List.length_nil]
        omega
      · show (1 - (r.length : Int)).natAbs ≤ 40
        omega
    · exact q.ok u hu
theorem EUnits.gu {K : PySem.W.Frag} {H : Hp} {last : Int} : ∀ {vs : List V} {rs : List (List Int)} {ts : List Int}, EUnits K H last vs rs ts → (∀ r ∈ rs, r.Nodup ∧ last ∉ r ∧ r.length ≤ 30) → ∃ us, GUs K H vs us ∧ EG last us rs ts
  | _, _, _, .nil, _ => ⟨[], .nil, .nil⟩
  | _, _, _, .cons (r := r) (t := t) h q, ok => by
    obtain ⟨us, h1, h2⟩ := q.gu fun x hx => ok x (List.mem_cons_of_mem _ hx)
    obtain ⟨nd, nl, l30⟩ := ok r List.mem_cons_self
    obtain ⟨p, a, s, g, ys, gs, its, gits, rfl, g1, g2, g3, g4, _, g5, g6, g7, g8, _⟩ := h
    obtain rfl := gv1_norm g8
    have pm := norm_perm (tms_spots nd nl 1) (tms_nz (by decide)) g4
    cases g7 with
    | cons k1 k2 k3 =>
      cases k3
      exact ⟨(its, 1 - (r.length : Int), t) :: us, .cons ⟨p, a, s, g, _, _, ys, rfl, g1, g2, g3, g5, g6, k1, k2⟩ h1, .cons pm l30 h2⟩
theorem rTot_zero {cont : List Int} {last : Int} : ∀ {rs : List (List Int)} {ts : List Int}, (∀ r ∈ rs, hR cont last r ≤ 0) → ∀ c, rTot cont last rs ts c = 0
  | [], [], _, _ => rfl
  | [], _ :: _, _, _ => rfl
  | _ :: _, [], _, _ => rfl
  | r :: rs, t :: ts, h, c => by
    show rOne cont last r t c + rTot cont last rs ts c = 0
    rw [rTot_zero (fun x hx => h x (List.mem_cons_of_mem _ hx)) c, rOne, if_neg (by have := h r List.mem_cons_self; omega)]
    rfl
/-- the aims of a row -/
def sel (full : List Int) : List (List Int) → List Int → List Int
  | r :: rs, t :: ts => if r = full then t :: sel full rs ts else sel full rs ts
  | _, _ => []
theorem sel_none {full : List Int} : ∀ {rs : List (List Int)} {ts : List Int}, full ∉ rs → sel full rs ts = []
  | [], [], _ => rfl
  | [], _ :: _, _ => rfl
  | _ :: _, [], _ => rfl
  | r :: rs, t :: ts, h => by
    rw [List.mem_cons, not_or] at h
    show (if r = full then _ else _) = _
    rw [if_neg (Ne.symm h.1), sel_none h.2]
theorem sel_snoc {full r : List Int} {t : Int} : ∀ {rs : List (List Int)} {ts : List Int}, rs.length = ts.length → sel full (rs ++ [r]) (ts ++ [t]) = sel full rs ts ++ (if r = full then [t] else [])
  | [], [], _ => by show (if r = full then t :: [] else []) = _; rfl
  | [], _ :: _, h => by simp at h
  | _ :: _, [], h => by simp at h
  | q :: rs, u :: ts, h => by
    have ih := sel_snoc (full := full) (r := r) (t := t) (rs := rs) (ts := ts) (by simpa using h)
    show (if q = full then u :: sel full (rs ++ [r]) (ts ++ [t]) else sel full (rs ++ [r]) (ts ++ [t])) = (if q = full then u :: sel full rs ts else sel full rs ts) ++ _
    rw [ih]
    split <;> rfl
theorem sel_len {full : List Int} : ∀ {rs : List (List Int)} {ts : List Int}, (sel full rs ts).length ≤ rs.length
  | [], [] => Nat.zero_le _
  | [], _ :: _ => Nat.zero_le _
  | _ :: _, [] => Nat.zero_le _
  | r :: rs, t :: ts => by
    have ih := sel_len (full := full) (rs := rs) (ts := ts)
    show (if r = full then t :: sel full rs ts else sel full rs ts).length ≤ rs.length + 1
    split
    · rw [List.length_cons]; omega
    · omega
theorem rTot_full {cont full : List Int} {last : Int} : ∀ {rs : List (List Int)} {ts : List Int}, rs.Nodup → (∀ r ∈ rs, r = full → hR cont last r = 1) → (∀ r ∈ rs, r ≠ full → hR cont last r ≤ 0) → ∀ c, rTot cont last rs ts c = if c ∈ sel full rs ts then 1 else 0
  | [], [], _, _, _, c => by show 0 = if c ∈ [] then 1 else 0; rw [if_neg (by simp)]
  | [], _ :: _, _, _, _, c => by show 0 = if c ∈ [] then 1 else 0; rw [if_neg (by simp)]
  | _ :: _, [], _, _, _, c => by show 0 = if c ∈ [] then 1 else 0; rw [if_neg (by simp)]
  | r :: rs, t :: ts, nd, h1, h2, c => by
    rw [List.nodup_cons] at nd
    have ih := rTot_full (cont := cont) (full := full) (last := last) (rs := rs) (ts := ts) nd.2 (fun x hx => h1 x (List.mem_cons_of_mem _ hx)) (fun x hx => h2 x (List.mem_cons_of_mem _ hx)) c
    show rOne cont last r t c + rTot cont last rs ts c = if c ∈ (if r = full then t :: sel full rs ts else sel full rs ts) then 1 else 0
    by_cases e : r = full
    · have e1 := h1 r List.mem_cons_self e
      rw [if_pos e, ih, sel_none (by rw [← e]; exact nd.1), if_neg (by simp), rOne, e1, if_pos (by decide)]
      by_cases d : t = c
      · rw [if_pos d, if_pos (by rw [d]; exact List.mem_cons_self)]; rfl
      · rw [if_neg d, if_neg (by rw [List.mem_singleton]; exact Ne.symm d)]; rfl
    · have e1 := h2 r List.mem_cons_self e
      rw [if_neg e, ih, rOne, if_neg (by omega), Int.zero_add]
theorem gft_empty {K : PySem.W.Frag} {H : Hp} {kvs : List (L2.Key × V)} {R : Int → Int} (g : Gft K H kvs R) (z : ∀ c, R c = 0) : kvs = [] := by
  cases kvs with
  | nil => rfl
  | cons p kvs =>
    obtain ⟨c, u, rfl, _⟩ := g.g.val p List.mem_cons_self
    exact absurd (z c) (g.nz c (by simp))
theorem canL_ints : ∀ k : List Int, PyData.canLayAll0 (k.map PyData.int) = true
  | [] => rfl
  | _ :: k => by
    have := canL_ints k
    simp only [List.map_cons, PyData.canLayAll0, this, Bool.and_true]
    rfl
theorem depA_ints : ∀ k : List Int, PyData.depthAll (k.map PyData.int) = 0
  | [] => rfl
  | _ :: k => by
    have := depA_ints k
    simp only [List.map_cons, PyData.depthAll, this]
    rfl
theorem shaped_tup (k : List Int) : SeqAt.shaped (.tuple (k.map PyData.int)) = true := by
  unfold SeqAt.shaped
  simp only [PyData.canLay0, canL_ints, PyData.depth, depA_ints]
  rfl
theorem shaped_lst (k : List Int) : SeqAt.shaped (.list (k.map PyData.int)) = true := by
  unfold SeqAt.shaped
  simp only [PyData.canLay0, canL_ints, PyData.depth, depA_ints]
  rfl
def dRow (r : List Int) : PyData := .tuple (r.map PyData.int)
theorem canL_rows : ∀ rs : List (List Int), PyData.canLayAll0 (rs.map dRow) = true
  | [] => rfl
  | r :: rs => by
    have := canL_rows rs
    simp only [List.map_cons, PyData.canLayAll0, this, Bool.and_true, dRow, PyData.canLay0, canL_ints]
theorem depA_rows : ∀ rs : List (List Int), PyData.depthAll (rs.map dRow) ≤ 1
  | [] => by decide
  | r :: rs => by
    have := depA_rows rs
    simp only [List.map_cons, PyData.depthAll, dRow, PyData.depth, depA_ints]
    exact Nat.max_le.mpr ⟨Nat.le_refl 1, this⟩
theorem shaped_rows (rs : List (List Int)) : SeqAt.shaped (.list (rs.map dRow)) = true := by
  unfold SeqAt.shaped
  have := depA_rows rs
  rw [Bool.and_eq_true]
  refine ⟨canL_rows rs, decide_eq_true ?_⟩
  show PyData.depthAll (rs.map dRow) + 1 ≤ 64
  omega
theorem eqvAll_ints : ∀ k l : List Int, PyData.eqvAll (k.map PyData.int) (l.map PyData.int) = decide (k = l)
  | [], [] => by simp [PyData.eqvAll]
  | [], _ :: _ => by simp [PyData.eqvAll]
  | _ :: _, [] => by simp [PyData.eqvAll]
  | x :: k, y :: l => by
    simp only [List.map_cons, PyData.eqvAll, eqvAll_ints k l]
    by_cases h : x = y
    · subst h
      by_cases h2 : k = l <;> simp [h2, PyData.eqv]
    · simp [h, PyData.eqv]
theorem eqv_tup (k l : List Int) : PyData.eqv (.tuple (k.map PyData.int)) (.tuple (l.map PyData.int)) = decide (k = l) := by
  simp only [PyData.eqv]
  exact eqvAll_ints k l
theorem eqv_lst (k l : List Int) : PyData.eqv (.list (k.map PyData.int)) (.list (l.map PyData.int)) = decide (k = l) := by
  simp only [PyData.eqv]
  exact eqvAll_ints k l
theorem RowsT.dp {K : PySem.W.Frag} {H : Hp} : ∀ {xs : List V} {rs : List (List Int)}, RowsT K H xs rs → DpAll K H xs (rs.map dRow)
  | _, _, .nil => .nil
  | _, _, .cons h q => .cons (.tup h (dp_ints _)) q.dp
end LK

set_option Elab.async false
set_option linter.all false
set_option maxRecDepth 100000
namespace LK
open PySem PySem.Spec PyProof.Rows L2
local macro_rules | `(tactic| walk_at "rs") => `(tactic| simp only [cxK, cxNK, tCallZ, tAsg, tOp, rI0, rS0, rB0, rI, rU, tUn, rEq, rNe, rIxL, rIxT, rIxS, rSetL, rSlLU, rSlS, rSlU, rCatL, rCatU, rRepL, rIn, tVar, tC, gName, gSub, tIfS, tTest, tB, tAnd, tOr, tNot, tNotV, tAndV, tOrV, tIf, tCall, tCons, tNil, tCB, tDrop, tRet, tRetN, tNext, tLstU, tTupU, tM0, tM1, tPar, tPar3, tAug, ipI, tBM, tBM0, rAppend, rPop, tBreak, sDPut, tDGet, tDGet2, tCont, tChain, tSl, tPart, tNoPart, L2.start, List.map, List.length_cons, List.length_nil, List.replicate, List.cons_append, List.nil_append, List.append_nil, List.getElem?_cons_zero, List.getElem?_cons_succ, List.set_cons_zero, List.set_cons_succ, Option.some.injEq, V.int.injEq, V.ref.injEq, V.str.injEq, V.bl.injEq, exists_eq_left', exists_eq_left, exists_and_left, decide_eq_true_eq, List.cons.injEq, and_true, true_and, scal, Bool.not_eq_true', decide_eq_false_iff_not, Nat.zero_add, Nat.reduceAdd, Nat.reduceSub, reduceCtorEq, false_and, exists_false, false_or, or_false, CPow, CPowW, CMul, CDiv, Int.reduceToNat, ↓reduceIte, wipe, sw, rv3, tListKeys, tDIn, tDNotIn, List.nil_append, List.singleton_append])
local macro_rules | `(tactic| walk_at "st") => `(tactic| (refine seq_op fun N hN => ?_; walk_at "rs"))
local macro_rules | `(tactic| walk_at "sd") => `(tactic| first | assumption | decide | omega)
local macro_rules | `(tactic| walk_at "rd") => `(tactic| repeat (first
  | refine ⟨_, SqL.of (by assumption), ?_⟩ | refine ⟨_, SqL.of upd_same, ?_⟩ | refine ⟨_, .inl (SqL.of (by assumption)), ?_⟩ | refine ⟨_, (by assumption : _ = some (HO.lst _)), ?_⟩ | refine ⟨_, upd_same, ?_⟩
  | refine ⟨_, rfl, ?_⟩ | refine And.intro (by walk_at "sd") ?_))

/-- what the law knows of its units -/
structure Kr (K : PySem.W.Frag) (H : Hp) (b ea ka aa ga : Addr) (ex kx us : List V) (gs kr : List (List Int)) (am : List Int) (last other : Int) : Prop where
  fl : gs.flatten.Nodup
  g3 : gs.length ≤ 3
  g4 : ∀ g ∈ gs, g.length ≤ 3 ∧ 1 ≤ g.length
  lo : last ∉ gs.flatten
  oo : other ∉ gs.flatten
  ne : last ≠ other
  kn : kr.Nodup
  ks : ∀ r ∈ kr, r ∈ everyL gs
  l27 : kr.length ≤ 27
  la : am.length = kr.length
  he : H ea = some (.lst ex)
  te : RowsT K H ex (everyL gs)
  hk : H ka = some (.lst kx)
  tk : RowsT K H kx kr
  ha : H aa = some (.lst (am.map V.int))
  hg : SqT K H ga us
  tg : EUnits K H last us kr am
  be : ea ≠ b
  bk : ka ≠ b
  ba : aa ≠ b
namespace Kr
variable {K : PySem.W.Frag} {H H' : Hp} {b ea ka aa ga : Addr} {ex kx us : List V} {gs kr : List (List Int)} {am : List Int} {last other : Int}
theorem same (q : Kr K H b ea ka aa ga ex kx us gs kr am last other) (s : Same H H') : Kr K H' b ea ka aa ga ex kx us gs kr am last other :=
  ⟨q.fl, q.g3, q.g4, q.lo, q.oo, q.ne, q.kn, q.ks, q.l27, q.la, s _ _ q.he, q.te.same s, s _ _ q.hk, q.tk.same s, s _ _ q.ha, Same.seqT s q.hg, q.tg.same s, q.be, q.bk, q.ba⟩
theorem kp {N : Nat} {c : Addr} (q : Kr K H b ea ka aa ga ex kx us gs kr am last other) (B : Bag N H b c) (k : Kp b H H') : Kr K H' b ea ka aa ga ex kx us gs kr am last other :=
  ⟨q.fl, q.g3, q.g4, q.lo, q.oo, q.ne, q.kn, q.ks, q.l27, q.la, Kp.get k q.be q.he, q.te.kp B k, Kp.get k q.bk q.hk, q.tk.kp B k, Kp.get k q.ba q.ha, seqT_kp B k q.hg, q.tg.kp B k, q.be, q.bk, q.ba⟩
theorem updL {p : Addr} {ps : List V} {o : HO} (q : Kr K H b ea ka aa ga ex kx us gs kr am last other) (hp : H p = some (.lst ps)) (n1 : ea ≠ p) (n2 : ka ≠ p) (n3 : aa ≠ p) : Kr K (L2.upd H p o) b ea ka aa ga ex kx us gs kr am last other :=
  ⟨q.fl, q.g3, q.g4, q.lo, q.oo, q.ne, q.kn, q.ks, q.l27, q.la, by rw [upd_ne n1]; exact q.he, q.te.updO (notT_lst hp), by rw [upd_ne n2]; exact q.hk, q.tk.updO (notT_lst hp), by rw [upd_ne n3]; exact q.ha, seqT_updO (notT_lst hp) q.hg, q.tg.updO (notT_lst hp), q.be, q.bk, q.ba⟩
theorem row (q : Kr K H b ea ka aa ga ex kx us gs kr am last other) {r : List Int} (h : r ∈ everyL gs) : RowOf gs r ∧ r.Nodup ∧ last ∉ r ∧ other ∉ r ∧ r.length = gs.length := by
  have o := every_row r h
  exact ⟨o, o.nd q.fl, fun m => q.lo (o.mem m), fun m => q.oo (o.mem m), o.1⟩
theorem gu (q : Kr K H b ea ka aa ga ex kx us gs kr am last other) : ∃ gu, GUs K H us gu ∧ EG last gu kr am := q.tg.gu fun r hr => by
  obtain ⟨_, h1, h2, _, h4⟩ := q.row (q.ks r hr)
  have := q.g3
  exact ⟨h1, h2, by omega⟩
/-- the gifts over a content -/
theorem gifts (q : Kr K H b ea ka aa ga ex kx us gs kr am last other) {cc : Addr} {cvs : List (L2.Key × V)} {cont : List Int} {Q : VK} {E : XK} (hcc : H cc = some (.dK cvs)) (gc : Gft K H cvs (fun c => if c ∈ cont then 1 else 0))
    (k : ∀ (D : Addr) (kvs : List (L2.Key × V)) H', Same H H' → H D = none → H' D = some (.dK kvs) → Gft K H' kvs (rTot cont last kr am) → Q (.ref D) H') : sp_gifts K [.ref ga, .ref cc] H Q E := by
  obtain ⟨gu, h1, h2⟩ := q.gu
  refine ⟨ga, cc, us, gu, cvs, cont, rfl, q.hg, h1, h2.ok, by rw [h2.len]; exact Nat.le_trans q.l27 (by decide), hcc, gc, fun D kvs H' s d0 d1 g => k D kvs H' s d0 d1 ?_⟩
  rw [show rTot cont last kr am = gTot cont gu from (funext fun c => h2.tot cont c).symm]
  exact g
theorem zero1 (q : Kr K H b ea ka aa ga ex kx us gs kr am last other) (c : Int) : rTot [last, other] last kr am c = 0 := rTot_zero (fun r hr => by
  obtain ⟨_, _, h2, h3, _⟩ := q.row (q.ks r hr)
  unfold hR
  rw [cnt_none fun x hx m => by
    simp only [List.mem_cons, List.not_mem_nil, or_false] at m
    rcases m with rfl | rfl
    · exact h2 hx
    · exact h3 hx, if_pos (by simp)]
  omega) c
theorem zero2 (q : Kr K H b ea ka aa ga ex kx us gs kr am last other) (hn : 0 < gs.length) (c : Int) : rTot [other] last kr am c = 0 := rTot_zero (fun r hr => by
  obtain ⟨_, _, h2, h3, h4⟩ := q.row (q.ks r hr)
  unfold hR
  rw [cnt_none fun x hx m => by
    rw [List.mem_singleton] at m
    exact h3 (m ▸ hx), if_neg (by rw [List.mem_singleton]; exact q.ne)]
  omega) c
theorem full (q : Kr K H b ea ka aa ga ex kx us gs kr am last other) {f : List Int} (hf : f ∈ everyL gs) (c : Int) : rTot (f ++ [other]) last kr am c = if c ∈ sel f kr am then 1 else 0 := by
  obtain ⟨f0, f1, f2, f3, f4⟩ := q.row hf
  have nl : last ∉ f ++ [other] := fun m => by
    rcases List.mem_append.mp m with m | m
    · exact f2 m
    · exact q.ne (List.mem_singleton.mp m)
  refine rTot_full q.kn (fun r hr e => ?_) (fun r hr ne => ?_) c
  · subst e
    unfold hR
    rw [cnt_all fun x hx => List.mem_append_left _ hx, if_neg nl]
    omega
  · obtain ⟨h0, h1, h2, h3, h4⟩ := q.row (q.ks r hr)
    unfold hR
    rw [cnt_app (b := [other]) fun x hx m => h3 (List.mem_singleton.mp m ▸ hx), if_neg nl]
    have : ∃ x ∈ r, x ∉ f := Classical.byContradiction fun n => ne (h0.sub f0 q.fl fun x hx => Classical.byContradiction fun m => n ⟨x, hx, m⟩)
    obtain ⟨x, hx, m⟩ := this
    have := cnt_lt hx m
    omega
theorem zero3 (q : Kr K H b ea ka aa ga ex kx us gs kr am last other) {f : List Int} {i : Nat} (hf : f ∈ everyL gs) (hi : i < f.length) (c : Int) : rTot (f.eraseIdx i ++ [other]) last kr am c = 0 := rTot_zero (fun r hr => by
  obtain ⟨f0, f1, f2, f3, f4⟩ := q.row hf
  obtain ⟨h0, h1, h2, h3, h4⟩ := q.row (q.ks r hr)
  have nl : last ∉ f.eraseIdx i ++ [other] := fun m => by
    rcases List.mem_append.mp m with m | m
    · exact f2 (List.mem_of_mem_eraseIdx m)
    · exact q.ne (List.mem_singleton.mp m)
  unfold hR
  rw [cnt_app (b := [other]) fun x hx m => h3 (List.mem_singleton.mp m ▸ hx), if_neg nl]
  have := cnt_le (cont := f.eraseIdx i) h1
  rw [List.length_eraseIdx_of_lt hi] at this
  omega) c
end Kr
theorem lc_sel {K : PySem.W.Frag} {ka aa : Addr} {kx : List V} {kr : List (List Int)} {am f : List Int} {ta : TA} {te : TE} {tt : TT} {i0 j0 : Nat} {σ : L2.St} {H1 : Hp} {Q : VK} (hv : ∀ R : List V → Hp → Prop, R [.ref ka, .ref aa] H1 → ta σ H1 R) (hk : SqL K H1 ka kx) (ha : SqL K H1 aa (am.map V.int)) (tk : RowsT K H1 kx kr) (la : am.length = kr.length) (l : kr.length ≤ 1000)
    (ht : ∀ (x : Addr) (r : List Int) (t : Int) G, Same H1 G → SqT K G x (r.map V.int) → ∀ Qt : Bool → Hp → Prop, Qt (decide (r = f)) G → tt (((wipe σ [i0, j0]).set i0 (some (.ref x))).set j0 (some (.int t))) G Qt)
    (he : ∀ (x : V) (t : Int) G, ∀ Q2 : VK, Q2 (.int t) G → te (((wipe σ [i0, j0]).set i0 (some x)).set j0 (some (.int t))) G Q2)
    (hw : ∀ x t, wipe (((wipe σ [i0, j0]).set i0 x).set j0 t) [i0, j0] = wipe σ [i0, j0])
    (hq : ∀ (D : Addr) H2, Same H1 H2 → H1 D = none → H2 D = some (.lst ((sel f kr am).map V.int)) → Q (.ref D) H2) : tLc (iZip K ta) (gTup K 2 (gCons (gName i0) (gCons (gName j0) gNil))) tt te [i0, j0] σ H1 Q := by
  have lk := tk.len
  refine hv _ ⟨ka, aa, kx, am.map V.int, rfl, hk, ha, fun D hD => lc_filtR (n := kr.length) (walk_zip (by rw [List.length_map, la, lk, Nat.min_self])) (fun i H ys => ys = (sel f (kr.take i) (am.take i)).map V.int) (fun i => decide (kr.getD i [] = f)) hD (by omega) (fun i H H' ys s e => e) (fun i H ys zs o hp e => e) (fun H => rfl) (fun H2 s => ⟨s.seq hk, s.seq ha⟩) (fun i x H2 H3 hi s2 y => ?_) (gm2 i0 j0) fun H2 ys s e r => ?_⟩
  · obtain ⟨T, u, v, rfl, hT, rfl, e1, e2⟩ := y
    obtain ⟨xa, r, rfl, er, hr1⟩ := tk.get e1
    obtain ⟨t, rfl, et⟩ : ∃ t, v = V.int t ∧ am[i]? = some t := by
      have e2 : (am.map V.int)[i]? = some v := e2
      rw [List.getElem?_map] at e2
      obtain ⟨t, h1, h2⟩ := Option.map_eq_some_iff.mp e2
      exact ⟨t, h2.symm, h1⟩
    have sT : Same H2 (L2.upd H2 T (.tup [.ref xa, .int t])) := same_upd hT
    refine g2_at (.inl (.inl upd_same)) ?_
    generalize L2.upd H2 T (.tup [.ref xa, .int t]) = G at sT ⊢
    have eg : kr.getD i [] = r := by rw [List.getD_eq_getElem?_getD, er]; rfl
    have e3 : sel f (kr.take (i + 1)) (am.take (i + 1)) = sel f (kr.take i) (am.take i) ++ (if r = f then [t] else []) := by
      obtain ⟨hk1, e4⟩ := List.getElem?_eq_some_iff.mp er
      obtain ⟨hk2, e5⟩ := List.getElem?_eq_some_iff.mp et
      rw [← List.take_append_getElem hk1, e4, ← List.take_append_getElem hk2, e5, sel_snoc (by rw [List.length_take, List.length_take]; omega)]
    rw [eg]
    refine ⟨sT, hw _ _, fun Qt hqt => ht xa r t G (Same.trans s2 sT) (Same.seqT (Same.trans s2 sT) hr1) Qt (hqt _ (Same.refl _)), fun pf H4 ys h => ?_, fun pt H4 s4 Q2 hq2 => he _ t H4 _ (hq2 _ _ (Same.refl _) fun ys h => ?_)⟩
    · rw [e3, if_neg (of_decide_eq_false pf), List.append_nil]
      exact h
    · rw [e3, if_pos (of_decide_eq_true pt), List.map_append, h]
      rfl
  · rw [List.take_length, show kr.length = am.length from la.symm, List.take_length] at r
    subst r
    exact hq D H2 s hD e
section
variable {P : Program} {w : World} {K : PySem.W.Frag} {mg : Str → Option Value} {base : Heap}
abbrev cxR (P : Program) (w : World) (K : PySem.W.Frag) (mg : Str → Option Value) (base : Heap) (f : Addr) (cdv : Value) (A : Around) (outer : List Env) (s : Shared) (H : Hp) (E : XK) : Cx := (cxOf CX0 P w K mg base N__law_right "_law_right" (defScope s__law_right) f cdv A outer s H E).nox
theorem right15 (T : Txt w K mg) {cdv : Value} {A : Around} {outer : List Env} {s : Shared} {H0 : Hp} {E : XK} (hr : Room 8 (A.deeper (envOfC "_law_right" (defScope s__law_right) s.heap.objs.size T.a__law_right cdv))) : ∃ t, PSs (cxR P w K mg base T.a__law_right cdv A outer s H0 E) ((defBody s__law_right).drop 15) t ∧
    ∀ (D : Ends) (σ : L2.St) (H Hs : Hp) (b c ea ka aa ga : Addr) (ex kx us : List V) (gs kr : List (List Int)) (am : List Int) (last other : Int) (x1 x2 x3 x4 x9 x10 x12 x13 x15 x16 x17 : Option V), (∀ H' N, Bag N H' b c → Kp b Hs H' → D.rt (.bl true) H') →
      σ = [some (.ref b), x1, x2, x3, x4, some (.int last), some (.int other), some (.ref ea), some (.ref ka), x9, x10, some (.ref aa), x12, x13, some (.ref ga), x15, x16, x17, none, none, none, none, none] → Bag 0 H b c → Kp b Hs H → Kr K H b ea ka aa ga ex kx us gs kr am last other → t D σ H := by
  have hr__law_draw : Room 1 _ := hr.mono (by decide)
  have G__law_draw := ok__law_draw (P := P) (base := base) T
  have hr__law_gifts : Room 3 _ := hr.mono (by decide)
  have G__law_gifts := ok__law_gifts (P := P) (base := base) T
  have hr__law_ones : Room 1 _ := hr.mono (by decide)
  have G__law_ones := ok__law_ones (P := P) (base := base) T
  have hu65 : (A.deeper (envOfC "_law_right" (defScope s__law_right) s.heap.objs.size T.a__law_right cdv)).units + 65 < cLine := Nat.lt_of_le_of_lt (Nat.add_le_add_left (by decide : 65 ≤ 16 * 8 + 200) _) hr.un
  refine ⟨_, (pss_cons (ps_for PassesOwn.never rfl (pi_list (pv 7)) (pg_name (i := 18) sc__law_right.nd rfl (Or.inr rfl)) (pss_cons (ps_set (i := 19) sc__law_right.nd rfl (Or.inl rfl) (pe_call G__law_ones hr__law_ones (by rfl) T.m__law_ones T.F__law_ones.kp T.B__law_ones .nil pass0 (pa_cons (pe_lc (own := [("one", 10), ("aim", 16)]) (g := gTup K 2 (gCons (gName 10) (gCons (gName 16) (gNil)))) (tt := _) rfl sc__law_right.nd (pi_zip (by rfl) T.n_zip (pa_cons (pv 8) (pa_cons (pv 11) pa_nil))) (blkOk_by (own := [("one", 10), ("aim", 16)]) (N := N__law_right) (sc := defScope s__law_right) (by decide +kernel)) (fun _ _ _ _ _ => by exact (pg_tup rfl (pgs_cons (pg_name (i := 10) sc__law_right.nd rfl (Or.inl rfl)) (pgs_cons (pg_name (i := 16) sc__law_right.nd rfl (Or.inl rfl)) pgs_nil)))) (fun _ _ _ _ _ => pts_one (pt_cmpR (op_eqDK (K := K) rfl hr.units) (pv 10) (pv 18) (nomark _))) (fun _ _ _ _ _ => (pv 16))) pa_nil)))
      (pss_cons (ps_if (pt_cmpR (op_neDD hu65) (pe_call G__law_gifts hr__law_gifts (by rfl) T.m__law_gifts T.F__law_gifts.kp T.B__law_gifts .nil pass0 (pa_cons (pv 14) (pa_cons (pe_call G__law_ones hr__law_ones (by rfl) T.m__law_ones T.F__law_ones.kp T.B__law_ones .nil pass0 (pa_cons (pe_op op_catL (pe_callTy call_listU (by rfl) T.n_list (by decide +kernel) (pa_cons (pv 18) pa_nil)) (pe_lstU (pa_cons (pv 6) pa_nil))) pa_nil)) pa_nil))) (pv 19) (nomark _)) (pss_one (ps_ret pe_bl)) pss_nil)
      (pss_cons (ps_set (i := 20) sc__law_right.nd rfl (Or.inl rfl) (pe_callTy call_listU (by rfl) T.n_list (by decide +kernel) (pa_cons (pv 18) pa_nil)))
      (pss_one (ps_if (pt_cmpR (op_neD hr.units) (pv 20) (pe_lstU pa_nil) (nomark _)) (pss_cons (ps_expr (pe_bm PySem.F.plainAttrs_list PySem.F.slot_list_pop PySem.F.type_list_pop mt_popAt (pv 20) (pa_cons (pe_call G__law_draw hr__law_draw (by rfl) T.m__law_draw T.F__law_draw.kp T.B__law_draw .nil pass0 (pa_cons (pv 0) (pa_cons (pe_callB call_len_seq (by rfl) T.n_len (by decide +kernel) (pa_cons (pv 20) pa_nil)) pa_nil))) pa_nil)))
      (pss_one (ps_if (pt_cmpR (op_neDD hu65) (pe_call G__law_gifts hr__law_gifts (by rfl) T.m__law_gifts T.F__law_gifts.kp T.B__law_gifts .nil pass0 (pa_cons (pv 14) (pa_cons (pe_call G__law_ones hr__law_ones (by rfl) T.m__law_ones T.F__law_ones.kp T.B__law_ones .nil pass0 (pa_cons (pe_op op_catL (pv 20) (pe_lstU (pa_cons (pv 6) pa_nil))) pa_nil)) pa_nil))) pe_dnewK (nomark _)) (pss_one (ps_ret pe_bl)) pss_nil))) pss_nil))))))
      (pss_one (ps_ret pe_bl))), ?_⟩
  rintro D σ H Hs b c ea ka aa ga ex kx us gs kr am last other x1 x2 x3 x4 x9 x10 x12 x13 x15 x16 x17 k rfl B KH q
  have le := q.te.len
  refine cut_seq (fun σ G => ∃ N, Bag N G b c ∧ Kp b Hs G) (fun N hN => ?_) ?_
  · refine for_ls (K := K) (a := ea) (xs := ex) (fun Q q => ⟨_, rfl, q⟩) (fun i σ G => ∃ (x10 x16 x18 x19 x20 : Option V), σ = [some (.ref b), x1, x2, x3, x4, some (.int last), some (.int other), some (.ref ea), some (.ref ka), x9, x10, some (.ref aa), x12, x13, some (.ref ga), x15, x16, x17, x18, x19, x20, none, none] ∧ Bag 0 G b c ∧ Kp b Hs G ∧ Kr K G b ea ka aa ga ex kx us gs kr am last other) ⟨_, _, _, _, _, rfl, B, KH, q⟩ (fun i σ G ⟨_, _, _, _, _, _, _, _, q⟩ => SqL.of q.he) ?_ ?_
    · rintro i x σ G hx ⟨x10, x16, x18, x19, x20, rfl, B, KH, q⟩
      obtain ⟨fa, f, rfl, ef, hf⟩ := q.te.get hx
      have mf := List.mem_of_getElem? ef
      show tSeq _ _ _ [some (V.ref b), x1, x2, x3, x4, some (V.int last), some (V.int other), some (V.ref ea), some (V.ref ka), x9, x10, some (V.ref aa), x12, x13, some (V.ref ga), x15, x16, x17, some (V.ref fa), x19, x20, none, none] G
      refine seq_op fun N1 hN1 => ?_
      walk_at "rs"
      refine lc_sel (f := f) (fun R h => ⟨_, rfl, _, rfl, h⟩) (SqL.of q.hk) (SqL.of q.ha) q.tk q.la (Nat.le_trans q.l27 (by decide)) (fun xa r t J sJ hxa Qt hqt => ?_) (fun x t J Q2 hq2 => ⟨_, rfl, hq2⟩) (fun x t => rfl) fun D1 G1 s1 D10 D11 => ?_
      · walk_at "rs"
        refine ⟨_, _, .tup hxa (dp_ints r), .tup (Same.seqT sJ hf) (dp_ints f), shaped_tup r, shaped_tup f, _, rfl, ?_⟩
        rw [eqv_tup]
        exact hqt
      have lsel := sel_len (full := f) (rs := kr) (ts := am)
      have l27 := q.l27
      refine ⟨D1, sel f kr am, rfl, SqL.of D11, by omega, fun D2 dvs G2 s2 n2 t2 gd => hN1 _ _ ?_⟩
      clear hN1 N1
      have s12 := Same.trans s1 s2
      replace q := q.same s12
      replace hf := Same.seqT (Same.trans (Same.refl _) s12) hf
      replace B := B.same s12
      have KH2 := Same.trans KH (Kp.of s12)
      clear s1 s2 s12 D10 D11
      refine seq_op fun N1 hN1 => ?_
      walk_at "rs"
      obtain ⟨f0, f1, f2, f3, f4⟩ := q.row mf
      have fl3 : (f.map V.int).length ≤ 3 := by rw [List.length_map]; have := q.g3; omega
      refine ⟨_, .inr hf, fun p3 H3 s3 n3 t3 => ⟨by decide, fun p4 H4 s4 n4 t4 => ⟨_, s4 _ _ t3, _, t4, Nat.le_trans (show (f.map V.int).length + 1 ≤ 4 by omega) (by decide), fun p5 H5 s5 n5 t5 => ?_⟩⟩⟩
      have s35 := Same.trans s3 (Same.trans s4 s5)
      have el : f.map V.int ++ [V.int other] = (f ++ [other]).map V.int := by rw [List.map_append]; rfl
      rw [el] at t5
      refine ⟨p5, f ++ [other], rfl, SqL.of t5, by rw [List.length_append, List.length_singleton]; rw [List.length_map] at fl3; omega, fun D6 cvs H6 s6 n6 t6 g6 => ?_⟩
      have s36 := Same.trans s35 s6
      refine (q.same s36).gifts t6 g6 fun D7 kvs H7 s7 n7 t7 g7 => ?_
      have s37 := Same.trans s36 s7
      rw [show rTot (f ++ [other]) last kr am = (fun c => if c ∈ sel f kr am then 1 else 0) from funext fun c => q.full mf c] at g7
      refine ⟨D7, D2, kvs, dvs, rfl, rfl, t7, s37 _ _ t2, g7.sameD (gd.upd fun u p q h => Same.seqT s37 h), false, rfl, ?_⟩
      rw [if_neg (by simp)]
      refine hN1 _ _ ?_
      clear hN1 N1
      replace q := q.same s37
      replace hf := Same.seqT s37 hf
      replace B := B.same s37
      have KH7 := Same.trans KH2 (Kp.of s37)
      clear s3 s4 s5 s6 s7 s35 s36 s37 t3 t4 t5 t6 g6 g7 t7 gd t2 KH2
      refine seq_op fun N1 hN1 => ?_
      walk_at "rs"
      refine ⟨_, .inr hf, fun la H8 s8 n8 t8 => hN1 _ _ ?_⟩
      clear hN1 N1
      have nla : la ≠ b := new_ne B n8
      have ncl := (B.ne2 n8).2
      have l0 : Hs la = none := Kp.none KH7 B n8
      have nea : ea ≠ la := fun z => by have := q.he; rw [z, n8] at this; cases this
      have nka : ka ≠ la := fun z => by have := q.hk; rw [z, n8] at this; cases this
      have naa : aa ≠ la := fun z => by have := q.ha; rw [z, n8] at this; cases this
      replace q := q.same s8
      replace hf := Same.seqT s8 hf
      replace B := B.same s8
      replace KH7 := Same.trans KH7 (Kp.of s8)
      walk_at "rs"
      refine ⟨Nat.zero_le _, fun p9 H9 s9 n9 t9 => ⟨_, _, .lst (SqL.of (s9 _ _ t8)) (dp_ints f), .lst (SqL.of t9) (dp_ints []), shaped_lst f, shaped_lst [], _, rfl, ?_⟩⟩
      rw [eqv_lst]
      replace q := q.same s9
      replace B := B.same s9
      replace KH7 := Same.trans KH7 (Kp.of s9)
      have t8' := s9 _ _ t8
      by_cases fe : f = []
      · rw [decide_eq_true fe]
        refine iteFF (by decide) ⟨_, _, _, _, _, ⟨rfl, rfl, rfl, rfl, rfl⟩, B, KH7, q⟩
      · rw [decide_eq_false fe]
        have fpos : 0 < f.length := List.length_pos_iff.mpr fe
        refine iteTT rfl ?_
        refine seq_op fun N1 hN1 => ?_
        walk_at "rs"
        refine ⟨.inl ⟨rfl, _, SqL.of t8'⟩, _, .inl (SqL.of t8'), ?_⟩
        rw [List.length_map] at fl3 ⊢
        refine ⟨b, c, _, 0, rfl, B, by omega, by omega, fun r HA r0 r1 BA KA => ?_⟩
        obtain ⟨k1, rfl⟩ : ∃ k1 : Nat, r = (k1 : Int) := ⟨r.toNat, by omega⟩
        have hk1 : k1 < f.length := by omega
        have tA := Kp.get KA nla t8'
        refine ⟨la, _, _, k1, .int f[k1], rfl, rfl, tA, by omega, by omega, ixN_nat (by rw [List.length_map]; exact hk1), by rw [List.getElem?_map, List.getElem?_eq_getElem hk1]; rfl, hN1 _ _ ?_⟩
        clear hN1 N1
        rw [erase_map]
        have qA := (q.kp B KA).updL (o := .lst ((f.eraseIdx k1).map V.int)) tA nea nka naa
        have BB := BA.upd (o := .lst ((f.eraseIdx k1).map V.int)) nla.symm ncl
        have KB : Kp b Hs (L2.upd HA la (.lst ((f.eraseIdx k1).map V.int))) := Kp.upd2 (Same.trans KH7 KA) l0
        have tB : (L2.upd HA la (.lst ((f.eraseIdx k1).map V.int))) la = some (.lst ((f.eraseIdx k1).map V.int)) := upd_same
        generalize L2.upd HA la (.lst ((f.eraseIdx k1).map V.int)) = HB at qA BB KB tB ⊢
        walk_at "rs"
        have le1 : (f.eraseIdx k1).length ≤ 3 := by rw [List.length_eraseIdx_of_lt hk1]; omega
        refine ⟨by decide, fun p4 H4 s4 n4 t4 => ⟨_, s4 _ _ tB, _, t4, Nat.le_trans (show ((f.eraseIdx k1).map V.int).length + 1 ≤ 4 by rw [List.length_map]; omega) (by decide), fun p5 H5 s5 n5 t5 => ?_⟩⟩
        have s45 := Same.trans s4 s5
        have el : (f.eraseIdx k1).map V.int ++ [V.int other] = (f.eraseIdx k1 ++ [other]).map V.int := by rw [List.map_append]; rfl
        rw [el] at t5
        refine ⟨p5, _, rfl, SqL.of t5, by rw [List.length_append, List.length_singleton]; omega, fun D6 cvs H6 s6 n6 t6 g6 => ?_⟩
        have s46 := Same.trans s45 s6
        refine (qA.same s46).gifts t6 g6 fun D7 kvs H7 s7 n7 t7 g7 => ?_
        have ek := gft_empty g7 fun c => qA.zero3 mf hk1 c
        subst ek
        have s47 := Same.trans s46 s7
        intro p8 n8'
        have s8' : Same H7 (L2.upd H7 p8 (.dK [])) := same_upd n8'
        have s48 := Same.trans s47 s8'
        refine ⟨D7, p8, [], [], rfl, rfl, s8' _ _ t7, upd_same, ⟨rfl, fun p hp => absurd hp (by simp)⟩, false, rfl, ?_⟩
        rw [if_neg (by simp)]
        exact ⟨_, _, _, _, _, ⟨rfl, rfl, rfl, rfl, rfl⟩, BB.same s48, Same.trans KB (Kp.of s48), qA.same s48⟩
    · rintro σ G ⟨_, _, _, _, _, rfl, B, KH, q⟩
      exact hN _ _ ⟨0, B, KH⟩
  · rintro σ G ⟨N, B, KH⟩
    walk_at "rs"
    exact k G N B KH
end
end LK

set_option Elab.async false
set_option linter.all false
set_option maxRecDepth 100000
namespace LK
open PySem PySem.Spec PyProof.Rows L2
local macro_rules | `(tactic| walk_at "rs") => `(tactic| simp only [cxK, cxNK, tCallZ, tAsg, tOp, rI0, rS0, rB0, rI, rU, tUn, rEq, rNe, rIxL, rIxT, rIxS, rSetL, rSlLU, rSlS, rSlU, rCatL, rCatU, rRepL, rIn, tVar, tC, gName, gSub, tIfS, tTest, tB, tAnd, tOr, tNot, tNotV, tAndV, tOrV, tIf, tCall, tCons, tNil, tCB, tDrop, tRet, tRetN, tNext, tLstU, tTupU, tM0, tM1, tPar, tPar3, tAug, ipI, tBM, tBM0, rAppend, rPop, tBreak, sDPut, tDGet, tDGet2, tCont, tChain, tSl, tPart, tNoPart, L2.start, List.map, List.length_cons, List.length_nil, List.replicate, List.cons_append, List.nil_append, List.append_nil, List.getElem?_cons_zero, List.getElem?_cons_succ, List.set_cons_zero, List.set_cons_succ, Option.some.injEq, V.int.injEq, V.ref.injEq, V.str.injEq, V.bl.injEq, exists_eq_left', exists_eq_left, exists_and_left, decide_eq_true_eq, List.cons.injEq, and_true, true_and, scal, Bool.not_eq_true', decide_eq_false_iff_not, Nat.zero_add, Nat.reduceAdd, Nat.reduceSub, reduceCtorEq, false_and, exists_false, false_or, or_false, CPow, CPowW, CMul, CDiv, Int.reduceToNat, ↓reduceIte, wipe, sw, rv3, tListKeys, tDIn, tDNotIn, List.nil_append, List.singleton_append])
local macro_rules | `(tactic| walk_at "st") => `(tactic| (refine seq_op fun N hN => ?_; walk_at "rs"))
local macro_rules | `(tactic| walk_at "sd") => `(tactic| first | assumption | decide | omega)
local macro_rules | `(tactic| walk_at "rd") => `(tactic| repeat (first
  | refine ⟨_, SqL.of (by assumption), ?_⟩ | refine ⟨_, SqL.of upd_same, ?_⟩ | refine ⟨_, .inl (SqL.of (by assumption)), ?_⟩ | refine ⟨_, (by assumption : _ = some (HO.lst _)), ?_⟩ | refine ⟨_, upd_same, ?_⟩
  | refine ⟨_, rfl, ?_⟩ | refine And.intro (by walk_at "sd") ?_))

theorem okAll_ints : ∀ k : List Int, okAll (k.map PyData.int) = true
  | [] => rfl
  | i :: k => by
    show (okD (.int i) && okAll _) = true
    rw [okAll_ints k]
    rfl
theorem okAll_app : ∀ {a b : List PyData}, okAll a = true → okAll b = true → okAll (a ++ b) = true
  | [], _, _, h => h
  | d :: a, b, h, g => by
    unfold okAll at h
    rw [Bool.and_eq_true] at h
    show (okD d && okAll (a ++ b)) = true
    rw [h.1, okAll_app h.2 g]
    rfl
theorem depAll_ints : ∀ k : List Int, depAll (k.map PyData.int) = 0
  | [] => rfl
  | i :: k => by
    show max 0 (depAll _) = 0
    rw [depAll_ints k]
    rfl
theorem depAll_app : ∀ (a b : List PyData), depAll (a ++ b) = max (depAll a) (depAll b)
  | [], b => by show depAll b = max 0 (depAll b); rw [Nat.zero_max]
  | d :: a, b => by
    show max (dep d) (depAll (a ++ b)) = max (max (dep d) (depAll a)) (depAll b)
    rw [depAll_app a b, Nat.max_assoc]
theorem dIt_ok {it : It} (h : it.1.length ≤ 1000) : okD (dIt it) = true ∧ dep (dIt it) ≤ 2 := by
  constructor
  · refine okD_tup.mpr ⟨by rw [List.length_append, List.length_map]; simp only [List.length_cons, List.length_nil]; omega, okAll_app (okAll_ints _) rfl⟩
  · unfold dIt
    rw [dep_tup, depAll_app, depAll_ints]
    show max 0 (max (max 0 (max 0 0) + 1) 0) + 1 ≤ 2
    decide
theorem dIts_ok : ∀ {its : List It}, (∀ x ∈ its, x.1.length ≤ 1000) → okAll (its.map dIt) = true ∧ depAll (its.map dIt) ≤ 2
  | [], _ => ⟨rfl, by decide⟩
  | a :: its, h => by
    obtain ⟨h1, h2⟩ := dIt_ok (h a List.mem_cons_self)
    obtain ⟨g1, g2⟩ := dIts_ok (its := its) fun x hx => h x (List.mem_cons_of_mem _ hx)
    constructor
    · show (okD _ && okAll _) = true
      rw [h1, g1]
      rfl
    · show max _ _ ≤ 2
      omega
def dUnit (its : List It) (n t : Int) : PyData := .tuple [.tuple (its.map dIt), .tuple [.int n, .int 1], .tuple [dIt ([t], (1, 1))]]
theorem dUnit_ok {its : List It} {n t : Int} (h : ∀ x ∈ its, x.1.length ≤ 1000) (l : its.length ≤ 1000) : okD (dUnit its n t) = true ∧ dep (dUnit its n t) ≤ 4 := by
  obtain ⟨a1, a2⟩ := dIts_ok h
  have e1 : okD (.tuple (its.map dIt)) = true := okD_tup.mpr ⟨by rw [List.length_map]; omega, a1⟩
  constructor
  · refine okD_tup.mpr ⟨by show 3 ≤ 100000; decide, ?_⟩
    show (okD _ && (okD _ && (okD _ && true))) = true
    rw [e1]
    rfl
  · unfold dUnit
    rw [dep_tup]
    show max (depAll (its.map dIt) + 1) (max (dep (.tuple [.int n, .int 1])) (max (dep (.tuple [dIt ([t], (1, 1))])) 0)) + 1 ≤ 4
    have b1 : dep (.tuple [.int n, .int 1]) = 1 := rfl
    have b2 : dep (.tuple [dIt ([t], (1, 1))]) = 3 := rfl
    rw [b1, b2]
    omega
theorem EUnits.get {K : PySem.W.Frag} {H : Hp} {last : Int} : ∀ {vs : List V} {rs : List (List Int)} {ts : List Int} {i : Nat} {v : V}, EUnits K H last vs rs ts → vs[i]? = some v → ∃ r t, rs[i]? = some r ∧ ts[i]? = some t ∧ EUnit K H last v r t
  | _, _, _, _, _, .nil, h => by simp at h
  | _, _, _, 0, _, .cons h _, e => by
    obtain rfl := Option.some.inj e
    exact ⟨_, _, rfl, rfl, h⟩
  | _, _, _, i + 1, _, .cons _ q, e => q.get (i := i) e
theorem g3_tup {K : PySem.W.Frag} {i j l : Nat} {p : Addr} {u v w : V} {σ : L2.St} {H : Hp} {Q : L2.St → Hp → Prop} (h : SqT K H p [u, v, w]) (q : Q (((σ.set i (some u)).set j (some v)).set l (some w)) H) : gTup K 3 (gCons (gName i) (gCons (gName j) (gCons (gName l) gNil))) (.ref p) σ H Q := ⟨p, _, rfl, h, rfl, u, _, rfl, v, _, rfl, w, _, rfl, rfl, q⟩
/-- items written out over a tuple of columns -/
theorem lc_tms {K : PySem.W.Frag} {a : Addr} {r : List Int} {te tl : TE} {i0 : Nat} {σ : L2.St} {H1 : Hp} {Q : VK} (hv : ∀ Q : VK, Q (.ref a) H1 → tl σ H1 Q) (h : SqT K H1 a (r.map V.int)) (l : r.length ≤ 1000)
    (hs : ∀ (c : Int) G, ∀ Q2 : VK, (∀ (q u : Addr) G2, Same G G2 → SqT K G2 q [.int c, .ref u] → Pr K G2 u 1 1 → Q2 (.ref q) G2) → te ((wipe σ [i0]).set i0 (some (.int c))) G Q2)
    (hq : ∀ (D : Addr) H2 ys, Same H1 H2 → H1 D = none → H2 D = some (.lst ys) → Its K H2 ys (r.map fun c => ([c], ((1, 1) : Fr))) → Q (.ref D) H2) : tLc (iTup K tl) (gName i0) tYes te [i0] σ H1 Q := by
  refine hv _ ⟨a, rfl, ⟨_, h⟩, fun D hD => lc_accD (n := r.length) (walk_tup (xs := r.map V.int) |> fun w => by rw [List.length_map] at w; exact w) (fun i H ys => Its K H ys ((r.take i).map fun c => ([c], ((1, 1) : Fr)))) hD (by omega) (fun i H H2 ys s r => r.same s) (fun i H ys zs o hp r => r.updO (notT_lst hp)) .nil (fun H2 s => Same.seqT s h) (fun i x G G2 hi s n y => ?_) (gm_name i0) fun H2 ys s e l r => ?_⟩
  · obtain ⟨rfl, hx⟩ := y
    obtain ⟨c, rfl, ei⟩ : ∃ c, x = V.int c ∧ r[i]? = some c := by
      have hx : (r.map V.int)[i]? = some x := hx
      rw [List.getElem?_map] at hx
      obtain ⟨t, h1, h2⟩ := Option.map_eq_some_iff.mp hx
      exact ⟨t, h2.symm, h1⟩
    refine ⟨Same.refl _, ?_, fun Q2 hq2 => hs c _ Q2 fun q u G3 s3 g1 g2 => hq2 _ G3 s3 fun ys h => ?_⟩
    · show ((σ.set i0 none).set i0 (some _)).set i0 none = σ.set i0 none
      rw [List.set_set, List.set_set]
    · have et : r.take (i + 1) = r.take i ++ [c] := by
        obtain ⟨hk, e⟩ := List.getElem?_eq_some_iff.mp ei
        rw [← List.take_append_getElem hk, e]
      rw [et, List.map_append]
      exact h.app (.cons (k := [c]) (f := (1, 1)) g1 g2 .nil)
  · rw [List.take_length] at r
    exact hq D H2 ys s hD e r
section
variable {P : Program} {w : World} {K : PySem.W.Frag} {mg : Str → Option Value} {base : Heap}
theorem right13 (T : Txt w K mg) {cdv : Value} {A : Around} {outer : List Env} {s : Shared} {H0 : Hp} {E : XK} (hr : Room 8 (A.deeper (envOfC "_law_right" (defScope s__law_right) s.heap.objs.size T.a__law_right cdv))) : ∃ t, PSs (cxR P w K mg base T.a__law_right cdv A outer s H0 E) ((defBody s__law_right).drop 13) t ∧
    ∀ (D : Ends) (σ : L2.St) (H Hs : Hp) (b c sa ea ka aa ga : Addr) (ex kx us : List V) (gs kr : List (List Int)) (am sz : List Int) (last other : Int) (x2 x3 x4 x9 x10 x12 x13 : Option V), (∀ H' N, Bag N H' b c → Kp b Hs H' → D.rt (.bl true) H') →
      σ = [some (.ref b), some (.ref sa), x2, x3, x4, some (.int last), some (.int other), some (.ref ea), some (.ref ka), x9, x10, some (.ref aa), x12, x13, some (.ref ga), none, none, none, none, none, none, none, none] → Bag 0 H b c → Kp b Hs H → Kr K H b ea ka aa ga ex kx us gs kr am last other → (InR last ∧ ∀ g ∈ gs, ∀ x ∈ g, InR x) → H sa = some (.lst (sz.map V.int)) → sa ≠ b → sz.length = gs.length → t D σ H := by
  have hr__law_draw : Room 1 _ := hr.mono (by decide)
  have G__law_draw := ok__law_draw (P := P) (base := base) T
  have hr__law_gifts : Room 3 _ := hr.mono (by decide)
  have G__law_gifts := ok__law_gifts (P := P) (base := base) T
  have hr__law_ones : Room 1 _ := hr.mono (by decide)
  have G__law_ones := ok__law_ones (P := P) (base := base) T
  have hr__law_normal : Room 3 _ := hr.mono (by decide)
  have G__law_normal := ok__law_normal (P := P) (base := base) T
  have hr__law_like : Room 5 _ := hr.mono (by decide)
  have G__law_like := ok__law_like (P := P) (base := base) T 4
  have hu65 : (A.deeper (envOfC "_law_right" (defScope s__law_right) s.heap.objs.size T.a__law_right cdv)).units + 65 < cLine := Nat.lt_of_le_of_lt (Nat.add_le_add_left (by decide : 65 ≤ 16 * 8 + 200) _) hr.un
  obtain ⟨t15, h15, go15⟩ := right15 (P := P) (base := base) (outer := outer) (H0 := H0) (E := E) T hr
  refine ⟨_, (pss_cons (ps_for PassesOwn.never rfl (pi_zip3 (by rfl) T.n_zip (pa_cons (pv 14) (pa_cons (pv 8) (pa_cons (pv 11) pa_nil)))) (pg_tup rfl (pgs_cons (pg_name (i := 15) sc__law_right.nd rfl (Or.inl rfl)) (pgs_cons (pg_name (i := 10) sc__law_right.nd rfl (Or.inl rfl)) (pgs_cons (pg_name (i := 16) sc__law_right.nd rfl (Or.inl rfl)) pgs_nil)))) (pss_cons (ps_set (i := 17) sc__law_right.nd rfl (Or.inl rfl) (pe_call G__law_normal hr__law_normal (by rfl) T.m__law_normal T.F__law_normal.kp T.B__law_normal .nil pass0 (pa_cons (pe_op op_catL (pe_lc (own := [("at", 22)]) (g := gName 22) (tt := tYes) rfl sc__law_right.nd (pi_tup (pv 10)) (blkOk_by (own := [("at", 22)]) (N := N__law_right) (sc := defScope s__law_right) (by decide +kernel)) (fun _ _ _ _ _ => pg_name (i := 22) sc__law_right.nd rfl (Or.inl rfl)) (fun _ _ _ _ _ => pts_nil) (fun _ _ _ _ _ => (pe_tupU (pa_cons (pv 22) (pa_cons (pe_tupU (pa_cons pe_int (pa_cons pe_int pa_nil))) pa_nil))))) (pe_lstU (pa_cons (pe_tupU (pa_cons (pv 5) (pa_cons (pe_tupU (pa_cons (pe_un un_neg pe_int) (pa_cons pe_int pa_nil))) pa_nil))) pa_nil))) pa_nil)))
      (pss_one (ps_if (pt_not (pt_val (pe_call G__law_like hr__law_like (by rfl) T.m__law_like T.F__law_like.kp T.B__law_like .nil pass0 (pa_cons (pv 15) (pa_cons (pe_tupU (pa_cons (pv 17) (pa_cons (pe_tupU (pa_cons (pe_op op_sub pe_int (pe_callB call_len_seq (by rfl) T.n_len (by decide +kernel) (pa_cons (pv 10) pa_nil))) (pa_cons pe_int pa_nil))) (pa_cons (pe_tupU (pa_cons (pe_tupU (pa_cons (pv 16) (pa_cons (pe_tupU (pa_cons pe_int (pa_cons pe_int pa_nil))) pa_nil))) pa_nil)) pa_nil)))) pa_nil))))) (pss_one (ps_ret pe_bl)) pss_nil))))
      (pss_cons (ps_if (PW.pt (pw_or (pt_cmpR (op_neDD hu65) (pe_call G__law_gifts hr__law_gifts (by rfl) T.m__law_gifts T.F__law_gifts.kp T.B__law_gifts .nil pass0 (pa_cons (pv 14) (pa_cons (pe_call G__law_ones hr__law_ones (by rfl) T.m__law_ones T.F__law_ones.kp T.B__law_ones .nil pass0 (pa_cons (pe_lstU (pa_cons (pv 5) (pa_cons (pv 6) pa_nil))) pa_nil)) pa_nil))) pe_dnewK (nomark _)) (pw_or1 (PW.pt (pw_and (pt_cmpR op_gt (pe_callB call_len_seq (by rfl) T.n_len (by decide +kernel) (pa_cons (pv 1) pa_nil)) pe_int (nomark _)) (pw_and1 (pt_cmpR (op_neDD hu65) (pe_call G__law_gifts hr__law_gifts (by rfl) T.m__law_gifts T.F__law_gifts.kp T.B__law_gifts .nil pass0 (pa_cons (pv 14) (pa_cons (pe_call G__law_ones hr__law_ones (by rfl) T.m__law_ones T.F__law_ones.kp T.B__law_ones .nil pass0 (pa_cons (pe_lstU (pa_cons (pv 6) pa_nil)) pa_nil)) pa_nil))) pe_dnewK (nomark _)))))))) (pss_one (ps_ret pe_bl)) pss_nil)
      h15)), ?_⟩
  rintro D σ H Hs b c sa ea ka aa ga ex kx us gs kr am sz last other x2 x3 x4 x9 x10 x12 x13 k rfl B KH q inr hsa nsa lsz
  have lu := q.tg.len
  have lk := q.tk.len
  refine cut_seq (fun σ G => ∃ (x15 x10 x16 x17 : Option V), σ = [some (.ref b), some (.ref sa), x2, x3, x4, some (.int last), some (.int other), some (.ref ea), some (.ref ka), x9, x10, some (.ref aa), x12, x13, some (.ref ga), x15, x16, x17, none, none, none, none, none] ∧ Same H G) (fun N hN => ?_) ?_
  · refine ⟨_, rfl, _, rfl, _, rfl, ga, ka, aa, us, kx, am.map V.int, rfl, q.hg, SqL.of q.hk, SqL.of q.ha, for_it (walk_zip3 (K := K) (a := ga) (b := ka) (c := aa) (xs := us) (ys := kx) (zs := am.map V.int) (n := kr.length) lu.1 lk (by rw [List.length_map]; exact q.la)) (fun i σ G => ∃ (x15 x10 x16 x17 : Option V), σ = [some (.ref b), some (.ref sa), x2, x3, x4, some (.int last), some (.int other), some (.ref ea), some (.ref ka), x9, x10, some (.ref aa), x12, x13, some (.ref ga), x15, x16, x17, none, none, none, none, none] ∧ Same H G) ⟨_, _, _, _, rfl, Same.refl _⟩ (fun i σ G _ ⟨_, _, _, _, _, s⟩ => ⟨Same.seqT s q.hg, s.seq (SqL.of q.hk), s.seq (SqL.of q.ha)⟩) ?_ ?_⟩
    · rintro i x σ G G' hi ⟨x15, x10, x16, x17, rfl, sG⟩ ⟨T0, u, v, z, rfl, hT, rfl, e1, e2, e3⟩
      obtain ⟨r, t, er, et, uu⟩ := q.tg.get e1
      obtain ⟨ra, r', rfl, er', hr1⟩ := q.tk.get e2
      obtain rfl : r' = r := by rw [er] at er'; exact (Option.some.inj er').symm
      obtain rfl : z = V.int t := by
        have e3 : (am.map V.int)[i]? = some z := e3
        rw [List.getElem?_map, et] at e3
        exact (Option.some.inj e3).symm
      obtain ⟨o0, o1, o2, o3, o4⟩ := q.row (q.ks _ (List.mem_of_getElem? er))
      have l3 : r'.length ≤ 3 := by have := q.g3; omega
      have sT : Same G (L2.upd G T0 (.tup [u, .ref ra, .int t])) := same_upd hT
      have hT1 : (L2.upd G T0 (.tup [u, .ref ra, .int t])) T0 = some (.tup [u, .ref ra, .int t]) := upd_same
      generalize L2.upd G T0 (.tup [u, .ref ra, .int t]) = G1 at sT hT1 ⊢
      have sG1 := Same.trans sG sT
      refine g3_tup (.inl (.inl hT1)) ?_
      show tSeq _ _ _ [some (V.ref b), some (V.ref sa), x2, x3, x4, some (V.int last), some (V.int other), some (V.ref ea), some (V.ref ka), x9, some (V.ref ra), some (V.ref aa), x12, x13, some (V.ref ga), some u, some (V.int t), x17, none, none, none, none, none] G1
      refine seq_op fun N1 hN1 => ?_
      walk_at "rs"
      refine lc_tms (fun Q q => ⟨_, rfl, q⟩) (Same.seqT sG1 hr1) (by omega) (fun c J Q2 hq2 => ?_) fun D1 J1 ys s1 D10 D11 iy => ?_
      · walk_at "rs"
        exact ⟨by decide, fun p1 J1 u1 n1 v1 => ⟨by decide, fun p2 J2 u2 n2 v2 => hq2 p2 p1 J2 (Same.trans u1 u2) (.inl (.inl v2)) (.inl (.inl (u2 _ _ v1)))⟩⟩
      have ly := iy.len
      rw [List.length_map] at ly
      refine ⟨by decide, fun p1 J2 u2 n2 v2 => ⟨by decide, fun p2 J3 u3 n3 v3 => ⟨by decide, fun p3 J4 u4 n4 v4 => ?_⟩⟩⟩
      have u24 := Same.trans u2 (Same.trans u3 u4)
      refine ⟨D1, rfl, ys, u24 _ _ D11, _, v4, Nat.le_trans (show ys.length + 1 ≤ 4 by omega) (by decide), fun p4 J5 u5 n5 v5 => ?_⟩
      have u25 := Same.trans u24 u5
      have it5 : Its K J5 (ys ++ [.ref p2]) (tms r' last 1) := (iy.same u25).app (.cons (k := [last]) (f := (-1, 1)) (.inl (.inl (u5 _ _ (u4 _ _ v3)))) (.inl (.inl (u5 _ _ (u4 _ _ (u3 _ _ v2))))) .nil)
      have fit : Fit 1 (tms r' last 1) := tms_fit (fun c hc => by
        obtain ⟨g, hg, hm⟩ := List.mem_flatten.mp (o0.mem hc)
        exact inr.2 g hg c hm) inr.1 (by omega) (by decide)
      refine ⟨p4, _, tms r' last 1, rfl, .inl (SqL.of v5), it5, fit, fun tt zs its2 J6 u6 h6 i6 n6 l6 => hN1 _ _ ?_⟩
      clear hN1 N1
      have s16 := Same.trans s1 (Same.trans u25 u6)
      have uu6 : EUnit K J6 last u r' t := UnitAt.same (Same.trans sG1 s16) uu
      have hr6 := Same.seqT (Same.trans sG1 s16) hr1
      walk_at "rs"
      refine ⟨_, .inr hr6, by decide, fun p7 J7 u7 n7 v7 => ⟨by decide, fun p8 J8 u8 n8 v8 => ⟨by decide, fun p9 J9 u9 n9 v9 => ⟨by decide, fun pA JA uA nA vA => ⟨by decide, fun pB JB uB nB vB => ?_⟩⟩⟩⟩⟩
      rw [List.length_map] at v7
      have w7B := Same.trans u8 (Same.trans u9 (Same.trans uA uB))
      have w6B := Same.trans u7 w7B
      obtain ⟨up, a, sh, g, ys2, gs2, its, gits, rfl, g1, g2, g3, g4, g5, g6, g7, g8, g9, _⟩ := UnitAt.same w6B uu6
      obtain rfl := gv1_norm g9
      have ei : its2 = its := n6.uniq g4
      subst ei
      have perm := norm_perm (tms_spots o1 o2 1) (tms_nz (by decide)) g4
      have spot : ∀ x ∈ its2, x.1.length ≤ 1000 := fun x hx => by
        obtain ⟨_, _, l1, _⟩ := fit.it x (perm.mem_iff.mp hx)
        omega
      obtain ⟨ok1, ok2⟩ := dUnit_ok (n := 1 - (r'.length : Int)) (t := t) spot (by omega)
      refine ⟨.ref up, .ref pB, dUnit its2 (1 - (r'.length : Int)) t, rfl, .tup g1 (.cons (.tup g2 g3.dp) (.cons (dp_pair g6) (.cons (.tup g7 g8.dp) .nil))), .tup (.inl (.inl vB)) (.cons (.tup (Same.seqT w6B h6) (i6.same w6B).dp) (.cons (dp_pair (.inl (.inl (w7B _ _ v7)))) (.cons (.tup (.inl (.inl (uB _ _ vA))) (.cons (.tup (.inl (.inl (uB _ _ (uA _ _ v9)))) (.cons (.int t) (.cons (dp_pair (.inl (.inl (uB _ _ (uA _ _ (u9 _ _ v8)))))) .nil))) .nil)) .nil))), ok1, ok2, fun JC uC => ⟨true, rfl, ?_⟩⟩
      rw [if_neg (by simp)]
      exact ⟨_, _, _, _, ⟨rfl, rfl, rfl, rfl⟩, Same.trans sG1 (Same.trans s16 (Same.trans w6B uC))⟩
    · rintro σ G ⟨x15, x10, x16, x17, rfl, sG⟩
      exact hN _ _ ⟨_, _, _, _, rfl, sG⟩
  · rintro σ G ⟨x15, x10, x16, x17, rfl, sG⟩
    replace q := q.same sG
    replace B := B.same sG
    replace KH := Same.trans KH (Kp.of sG)
    replace hsa := sG _ _ hsa
    refine seq_op fun N hN => ?_
    walk_at "rs"
    refine ⟨by decide, fun p1 J1 u1 n1 v1 => ⟨p1, [last, other], rfl, SqL.of v1, by show 2 ≤ 1000; decide, fun D2 cvs J2 u2 n2 v2 g2 => ?_⟩⟩
    have u12 := Same.trans u1 u2
    refine (q.same u12).gifts v2 g2 fun D3 kvs J3 u3 n3 v3 g3 => ?_
    have ek := gft_empty g3 fun c => q.zero1 c
    subst ek
    intro p4 n4
    have u4 : Same J3 (L2.upd J3 p4 (.dK [])) := same_upd n4
    have u14 := Same.trans u12 (Same.trans u3 u4)
    refine ⟨D3, p4, [], [], rfl, rfl, u4 _ _ v3, upd_same, ⟨rfl, fun p hp => absurd hp (by simp)⟩, false, rfl, ?_⟩
    rw [if_neg (by simp)]
    refine ⟨_, .inl (SqL.of (u14 _ _ hsa)), ?_⟩
    have q4 := q.same u14
    have B4 := B.same u14
    have KH4 := Same.trans KH (Kp.of u14)
    generalize L2.upd J3 p4 (.dK []) = J4 at q4 B4 KH4 ⊢
    rw [List.length_map, lsz]
    refine ite2 (fun pos => ?_) (fun _ => hN _ _ ?_)
    · refine ⟨by decide, fun p5 J5 u5 n5 v5 => ⟨p5, [other], rfl, SqL.of v5, by show 1 ≤ 1000; decide, fun D6 cvs J6 u6 n6 v6 g6 => ?_⟩⟩
      have u56 := Same.trans u5 u6
      refine (q4.same u56).gifts v6 g6 fun D7 kvs J7 u7 n7 v7 g7 => ?_
      have ek := gft_empty g7 fun c => q.zero2 (by omega) c
      subst ek
      intro p8 n8
      have u8 : Same J7 (L2.upd J7 p8 (.dK [])) := same_upd n8
      have u58 := Same.trans u56 (Same.trans u7 u8)
      refine ⟨D7, p8, [], [], rfl, rfl, u8 _ _ v7, upd_same, ⟨rfl, fun p hp => absurd hp (by simp)⟩, false, rfl, ?_⟩
      rw [if_neg (by simp)]
      exact hN _ _ (go15 D _ _ Hs b c ea ka aa ga ex kx us gs kr am last other _ _ _ _ _ _ _ _ _ _ _ k rfl (B4.same u58) (Same.trans KH4 (Kp.of u58)) (q4.same u58))
    · exact go15 D _ _ Hs b c ea ka aa ga ex kx us gs kr am last other _ _ _ _ _ _ _ _ _ _ _ k rfl B4 KH4 q4
end
end LK

set_option Elab.async false
set_option linter.all false
set_option maxRecDepth 100000
namespace LK
open PySem PySem.Spec PyProof.Rows L2
local macro_rules | `(tactic| walk_at "rs") => `(tactic| simp only [cxK, cxNK, tCallZ, tAsg, tOp, rI0, rS0, rB0, rI, rU, tUn, rEq, rNe, rIxL, rIxT, rIxS, rSetL, rSlLU, rSlS, rSlU, rCatL, rCatU, rRepL, rIn, tVar, tC, gName, gSub, tIfS, tTest, tB, tAnd, tOr, tNot, tNotV, tAndV, tOrV, tIf, tCall, tCons, tNil, tCB, tDrop, tRet, tRetN, tNext, tLstU, tTupU, tM0, tM1, tPar, tPar3, tAug, ipI, tBM, tBM0, rAppend, rPop, tBreak, sDPut, tDGet, tDGet2, tCont, tChain, tSl, tPart, tNoPart, L2.start, List.map, List.length_cons, List.length_nil, List.replicate, List.cons_append, List.nil_append, List.append_nil, List.getElem?_cons_zero, List.getElem?_cons_succ, List.set_cons_zero, List.set_cons_succ, Option.some.injEq, V.int.injEq, V.ref.injEq, V.str.injEq, V.bl.injEq, exists_eq_left', exists_eq_left, exists_and_left, decide_eq_true_eq, List.cons.injEq, and_true, true_and, scal, Bool.not_eq_true', decide_eq_false_iff_not, Nat.zero_add, Nat.reduceAdd, Nat.reduceSub, reduceCtorEq, false_and, exists_false, false_or, or_false, CPow, CPowW, CMul, CDiv, Int.reduceToNat, ↓reduceIte, wipe, sw, rv3, tListKeys, tDIn, tDNotIn, List.nil_append, List.singleton_append])
local macro_rules | `(tactic| walk_at "st") => `(tactic| (refine seq_op fun N hN => ?_; walk_at "rs"))
local macro_rules | `(tactic| walk_at "sd") => `(tactic| first | assumption | decide | omega)
local macro_rules | `(tactic| walk_at "rd") => `(tactic| repeat (first
  | refine ⟨_, SqL.of (by assumption), ?_⟩ | refine ⟨_, SqL.of upd_same, ?_⟩ | refine ⟨_, .inl (SqL.of (by assumption)), ?_⟩ | refine ⟨_, (by assumption : _ = some (HO.lst _)), ?_⟩ | refine ⟨_, upd_same, ?_⟩
  | refine ⟨_, rfl, ?_⟩ | refine And.intro (by walk_at "sd") ?_))

/-- what the law knows ahead of its units -/
structure Kq (K : PySem.W.Frag) (H : Hp) (b ea ka go sa : Addr) (ex kx : List V) (gs kr : List (List Int)) (gl sz : List Int) (last other : Int) : Prop where
  fl : gs.flatten.Nodup
  g3 : gs.length ≤ 3
  g4 : ∀ g ∈ gs, g.length ≤ 3 ∧ 1 ≤ g.length
  lo : last ∉ gs.flatten
  oo : other ∉ gs.flatten
  ne : last ≠ other
  kn : kr.Nodup
  ks : ∀ r ∈ kr, r ∈ everyL gs
  l27 : kr.length ≤ 27
  he : H ea = some (.lst ex)
  te : RowsT K H ex (everyL gs)
  hk : H ka = some (.lst kx)
  tk : RowsT K H kx kr
  be : ea ≠ b
  bk : ka ≠ b
  hg : H go = some (.lst (gl.map V.int))
  bg : go ≠ b
  gn : gl ≠ []
  g16 : gl.length ≤ 16
  ir : InR last ∧ (∀ g ∈ gs, ∀ x ∈ g, InR x) ∧ ∀ x ∈ gl, InR x
  hs : H sa = some (.lst (sz.map V.int))
  bs : sa ≠ b
  ls : sz.length = gs.length
namespace Kq
variable {K : PySem.W.Frag} {H H' : Hp} {b ea ka go sa : Addr} {ex kx : List V} {gs kr : List (List Int)} {gl sz : List Int} {last other : Int}
theorem same (q : Kq K H b ea ka go sa ex kx gs kr gl sz last other) (s : Same H H') : Kq K H' b ea ka go sa ex kx gs kr gl sz last other :=
  ⟨q.fl, q.g3, q.g4, q.lo, q.oo, q.ne, q.kn, q.ks, q.l27, s _ _ q.he, q.te.same s, s _ _ q.hk, q.tk.same s, q.be, q.bk, s _ _ q.hg, q.bg, q.gn, q.g16, q.ir, s _ _ q.hs, q.bs, q.ls⟩
theorem kp {N : Nat} {c : Addr} (q : Kq K H b ea ka go sa ex kx gs kr gl sz last other) (B : Bag N H b c) (k : Kp b H H') : Kq K H' b ea ka go sa ex kx gs kr gl sz last other :=
  ⟨q.fl, q.g3, q.g4, q.lo, q.oo, q.ne, q.kn, q.ks, q.l27, Kp.get k q.be q.he, q.te.kp B k, Kp.get k q.bk q.hk, q.tk.kp B k, q.be, q.bk, Kp.get k q.bg q.hg, q.bg, q.gn, q.g16, q.ir, Kp.get k q.bs q.hs, q.bs, q.ls⟩
theorem rows (q : Kq K H b ea ka go sa ex kx gs kr gl sz last other) {am : List Int} (l : am.length = kr.length) (h : ∀ t ∈ am, InR t) : RowsOk kr am last := by
  refine ⟨l, Nat.le_trans q.l27 (by decide), fun r hr => ?_, h, q.ir.1⟩
  have o := every_row r (q.ks r hr)
  have := q.g3
  refine ⟨by rw [o.1]; omega, fun x hx => ?_⟩
  obtain ⟨g, hg, hm⟩ := List.mem_flatten.mp (o.mem hx)
  exact q.ir.2.1 g hg x hm
theorem kr' (q : Kq K H b ea ka go sa ex kx gs kr gl sz last other) {am : List Int} {aa ga : Addr} {us : List V} (l : am.length = kr.length) (ha : H aa = some (.lst (am.map V.int))) (ba : aa ≠ b) (hg : SqT K H ga us) (tg : EUnits K H last us kr am) : Kr K H b ea ka aa ga ex kx us gs kr am last other :=
  ⟨q.fl, q.g3, q.g4, q.lo, q.oo, q.ne, q.kn, q.ks, q.l27, l, q.he, q.te, q.hk, q.tk, ha, hg, tg, q.be, q.bk, ba⟩
end Kq
theorem ints_in {gl : List Int} : ∀ {ys : List V}, (∀ v ∈ ys, ∃ t ∈ gl, v = V.int t) → ∃ am : List Int, ys = am.map V.int ∧ ∀ t ∈ am, t ∈ gl
  | [], _ => ⟨[], rfl, fun t h => absurd h (by simp)⟩
  | v :: ys, h => by
    obtain ⟨t, ht, rfl⟩ := h v List.mem_cons_self
    obtain ⟨am, rfl, h2⟩ := ints_in fun u hu => h u (List.mem_cons_of_mem _ hu)
    refine ⟨t :: am, rfl, fun x hx => ?_⟩
    rcases List.mem_cons.mp hx with rfl | hx
    · exact ht
    · exact h2 x hx
theorem EUnits.dps {K : PySem.W.Frag} {H : Hp} {last : Int} : ∀ {vs : List V} {rs : List (List Int)} {ts : List Int}, EUnits K H last vs rs ts → ∃ ds, DpAll K H vs ds
  | _, _, _, .nil => ⟨[], .nil⟩
  | _, _, _, .cons h q => by
    obtain ⟨ds, hd⟩ := q.dps
    obtain ⟨p, a, s, g, ys, gs, its, gits, rfl, g1, g2, g3, _, _, g6, g7, g8, _⟩ := h
    exact ⟨_, .cons (.tup g1 (.cons (.tup g2 g3.dp) (.cons (dp_pair g6) (.cons (.tup g7 g8.dp) .nil)))) hd⟩
section
variable {P : Program} {w : World} {K : PySem.W.Frag} {mg : Str → Option Value} {base : Heap}
theorem right09 (T : Txt w K mg) {cdv : Value} {A : Around} {outer : List Env} {s : Shared} {H0 : Hp} {E : XK} (hr : Room 8 (A.deeper (envOfC "_law_right" (defScope s__law_right) s.heap.objs.size T.a__law_right cdv))) : ∃ t, PSs (cxR P w K mg base T.a__law_right cdv A outer s H0 E) ((defBody s__law_right).drop 9) t ∧
    ∀ (D : Ends) (σ : L2.St) (H Hs : Hp) (b c sa ea ka go : Addr) (ex kx : List V) (gs kr : List (List Int)) (gl sz : List Int) (last other way : Int) (x3 x4 x10 : Option V), (∀ H' N, Bag N H' b c → Kp b Hs H' → D.rt (.bl true) H') →
      σ = [some (.ref b), some (.ref sa), some (.ref go), x3, x4, some (.int last), some (.int other), some (.ref ea), some (.ref ka), some (.int way), x10, none, none, none, none, none, none, none, none, none, none, none, none] → Bag 0 H b c → Kp b Hs H → Kq K H b ea ka go sa ex kx gs kr gl sz last other → t D σ H := by
  have hr__law_draw : Room 1 _ := hr.mono (by decide)
  have G__law_draw := ok__law_draw (P := P) (base := base) T
  have hr__law_of : Room 2 _ := hr.mono (by decide)
  have G__law_of := ok__law_of (P := P) (base := base) T
  have hr_expression_units : Room 8 _ := hr
  have G_expression_units := ok_expression_units (P := P) (base := base) T
  obtain ⟨t13, h13, go13⟩ := right13 (P := P) (base := base) (outer := outer) (H0 := H0) (E := E) T hr
  refine ⟨_, (pss_cons (ps_setLc (i := 11) (own := [("one", 10)]) (g := gName 10) (tt := tYes) rfl sc__law_right.nd rfl rfl (sw_true rfl rfl rfl (by decide +kernel)) (pi_list (pv 8)) (blkOk_by (own := [("one", 10)]) (N := N__law_right) (sc := defScope s__law_right) (by decide +kernel)) (fun _ _ _ _ _ => pg_name (i := 10) sc__law_right.nd rfl (Or.inl rfl)) (fun _ _ _ _ _ => pts_nil) (fun _ _ _ _ _ => (pe_call G__law_of hr__law_of (by rfl) T.m__law_of T.F__law_of.kp T.B__law_of .nil pass0 (pa_cons (pv 0) (pa_cons (pv 2) pa_nil)))))
      (pss_cons (ps_par (i := 12) (j := 13) (by rfl) sc__law_right.nd rfl rfl (by decide) rfl rfl (pa_cons (pe_callTy call_listU (by rfl) T.n_list (by decide +kernel) (pa_cons (pv 8) pa_nil)) (pa_cons (pe_callTy call_listU (by rfl) T.n_list (by decide +kernel) (pa_cons (pv 11) pa_nil)) pa_nil)) (by rfl))
      (pss_cons (ps_if (pt_cmpR op_eqI (pe_call G__law_draw hr__law_draw (by rfl) T.m__law_draw T.F__law_draw.kp T.B__law_draw .nil pass0 (pa_cons (pv 0) (pa_cons pe_int pa_nil))) pe_int (nomark _)) (pss_one (ps_set (i := 14) sc__law_right.nd rfl (Or.inl rfl) (pe_call G_expression_units hr_expression_units (by rfl) T.m_expression_units T.F_expression_units.kp T.B_expression_units .nil pass0 (pa_cons (pe_callTy call_tupleN (by rfl) T.n_tuple (by decide +kernel) (pa_cons (pv 12) pa_nil)) (pa_cons (pe_callTy call_tupleN (by rfl) T.n_tuple (by decide +kernel) (pa_cons (pv 13) pa_nil)) (pa_cons (pv 5) pa_nil)))))) (pss_one (ps_if (pt_cmpR op_eqI (pv 9) pe_int (nomark _)) (pss_one (ps_set (i := 14) sc__law_right.nd rfl (Or.inl rfl) (pe_callZ (g := fun ws => rv3 ws) (gV := fun zs => rv3 zs) G_expression_units hr_expression_units (by rfl) T.m_expression_units T.F_expression_units.kp T.Z_expression_units pass0 (pk_cons (pv 5) (pk_cons (pv 13) (pk_cons (pv 12) pk_nil)))))) (pss_one (ps_set (i := 14) sc__law_right.nd rfl (Or.inl rfl) (pe_call G_expression_units hr_expression_units (by rfl) T.m_expression_units T.F_expression_units.kp T.B_expression_units .nil pass0 (pa_cons (pv 12) (pa_cons (pv 13) (pa_cons (pv 5) pa_nil)))))))))
      (pss_cons (ps_if (PW.pt (pw_or (pt_cmpR (op_neD hr.units) (pv 12) (pv 8) (nomark _)) (pw_or (pt_cmpR (op_neD hr.units) (pv 13) (pv 11) (nomark _)) (pw_or (pt_not (pt_val (pe_callB (call_isiDK (K := K) rfl) (by rfl) T.n_isinstance (by decide +kernel) (pa_cons (pv 14) (pa_cons (pe_bltn (v := .ty "tuple") (u := .type "tuple") (by rfl) T.n_tuple (by decide +kernel) rfl) pa_nil))))) (pw_or1 (pt_cmpR op_neI (pe_callB call_len_seq (by rfl) T.n_len (by decide +kernel) (pa_cons (pv 14) pa_nil)) (pe_callB call_len_seq (by rfl) T.n_len (by decide +kernel) (pa_cons (pv 8) pa_nil)) (nomark _))))))) (pss_one (ps_ret pe_bl)) pss_nil)
      h13)))), ?_⟩
  rintro D σ H Hs b c sa ea ka go ex kx gs kr gl sz last other way x3 x4 x10 k rfl B KH q
  have lk := q.tk.len
  have l27 := q.l27
  refine seq_op fun N hN => ?_
  walk_at "rs"
  refine ⟨_, rfl, ka, rfl, ⟨kx, SqL.of q.hk⟩, fun D1 hD1 => lc_draw (n := kx.length) (k := 1) (N := 0) walk_list (fun _ v => ∃ t ∈ gl, v = V.int t) (fun _ _ _ _ h => h) hD1 B.to (by omega) (fun _ _ _ _ y => y.1) (fun G kG => SqL.of (Kp.get kG q.bk q.hk)) (fun x G M kG BG Q2 hq2 => ?_) fun G ys BG KG hDG lG hyG => ?_⟩
  · walk_at "rs"
    exact of_lst BG (Kp.get kG q.bg q.hg) q.bg (by intro e; exact q.gn (List.map_eq_nil_iff.mp e)) (by rw [List.length_map]; have := q.g16; omega) fun y G3 hy B3 K3 => hq2 y G3 B3 K3 (by
      obtain ⟨t, ht, rfl⟩ := List.mem_map.mp hy
      exact ⟨t, ht, rfl⟩)
  obtain ⟨am, rfl, ham⟩ := ints_in hyG
  rw [List.length_map] at lG
  refine hN _ _ ?_
  clear hN N
  have ba : D1 ≠ b := new_ne B hD1
  replace q := q.kp B KG
  replace KH := Same.trans KH KG
  clear hyG B KG hD1 H
  have amr : ∀ t ∈ am, InR t := fun t ht => q.ir.2.2 t (ham t ht)
  refine seq_op fun N hN => ?_
  walk_at "rs"
  refine ⟨kx, .inl (SqL.of q.hk), fun fi H1 s1 f0 f1 => ⟨_, .inl (SqL.of (s1 _ _ hDG)), fun se H2 s2 e0 e1 => ⟨_, _, ⟨rfl, rfl⟩, hN _ _ ?_⟩⟩⟩
  clear hN N
  have s12 := Same.trans s1 s2
  have BH2 : Bag 0 H2 b c := (Bag.to (by assumption : Bag 0 G b c)).same s12
  have nfi : fi ≠ b := new_ne (by assumption : Bag 0 G b c) f0
  have nse : se ≠ b := new_ne ((by assumption : Bag 0 G b c).same s1) e0
  replace q := q.same s12
  replace KH := Same.trans KH (Kp.of s12)
  have hfi : H2 fi = some (.lst kx) := s2 _ _ f1
  have hse : H2 se = some (.lst (am.map V.int)) := e1
  have haa : H2 D1 = some (.lst (am.map V.int)) := s12 _ _ hDG
  clear s1 s2 s12 f0 f1 e0 e1 hDG
  have la : am.length = kr.length := by omega
  have ok := q.rows la amr
  refine cut_seq (fun σ G => ∃ (ga : Addr) (us : List V), σ = [some (.ref b), some (.ref sa), some (.ref go), x3, x4, some (.int last), some (.int other), some (.ref ea), some (.ref ka), some (.int way), x10, some (.ref D1), some (.ref fi), some (.ref se), some (.ref ga), none, none, none, none, none, none, none, none] ∧ Bag 0 G b c ∧ Kp b Hs G ∧ Kq K G b ea ka go sa ex kx gs kr gl sz last other ∧ G fi = some (.lst kx) ∧ G se = some (.lst (am.map V.int)) ∧ G D1 = some (.lst (am.map V.int)) ∧ G ga = some (.tup us) ∧ EUnits K G last us kr am) (fun N hN => ?_) ?_
  · walk_at "rs"
    refine ⟨b, c, 3, 0, rfl, BH2, by decide, by decide, fun r H3 _ _ B3 K3 => ⟨r, rfl, ?_⟩⟩
    have q3 := q.kp BH2 K3
    have KH3 := Same.trans KH K3
    have f3 := Kp.get K3 nfi hfi
    have e3 := Kp.get K3 nse hse
    have a3 := Kp.get K3 ba haa
    have fin : ∀ (ga : Addr) (us : List V) (J J' : Hp), Same H3 J → Same J J' → J' ga = some (.tup us) → EUnits K J' last us kr am → N [some (.ref b), some (.ref sa), some (.ref go), x3, x4, some (.int last), some (.int other), some (.ref ea), some (.ref ka), some (.int way), x10, some (.ref D1), some (.ref fi), some (.ref se), some (.ref ga), none, none, none, none, none, none, none, none] J' := fun ga us J J' s s' h1 h2 => by
      have ss := Same.trans s s'
      exact hN _ _ ⟨ga, us, rfl, B3.same ss, Same.trans KH3 (Kp.of ss), q3.same ss, ss _ _ f3, ss _ _ e3, ss _ _ a3, h1, h2⟩
    refine ite2 (fun _ => ?_) (fun _ => ite2 (fun _ => ?_) (fun _ => ?_))
    · refine ⟨_, SqL.of f3, fun q1 J1 u1 n1 v1 => ⟨_, SqL.of (u1 _ _ e3), fun q2 J2 u2 n2 v2 => ?_⟩⟩
      have u12 := Same.trans u1 u2
      exact ⟨q1, q2, kx, kr, am, last, rfl, .inr ⟨.inl (.inl (u2 _ _ v1)), .inl (.inl v2)⟩, q3.tk.same u12, ok, fun t us J' s' h1 h2 => fin t us J2 J' u12 s' h1 h2⟩
    · refine ⟨fi, se, kx, kr, am, last, rfl, .inl ⟨SqL.of f3, SqL.of e3⟩, q3.tk, ok, fun t us J' s' h1 h2 => fin t us H3 J' (Same.refl _) s' h1 h2⟩
    · exact ⟨fi, se, kx, kr, am, last, rfl, .inl ⟨SqL.of f3, SqL.of e3⟩, q3.tk, ok, fun t us J' s' h1 h2 => fin t us H3 J' (Same.refl _) s' h1 h2⟩
  · clear hfi hse haa BH2 KH q
    rintro σ G2 ⟨ga, us, rfl, BG, KG2, q, hfi, hse, haa, hga, tg⟩
    have lu := tg.len
    refine seq_op fun N hN => ?_
    walk_at "rs"
    obtain ⟨ds, hds⟩ := tg.dps
    refine ⟨_, _, .lst (SqL.of hfi) q.tk.dp, .lst (SqL.of q.hk) q.tk.dp, shaped_rows kr, shaped_rows kr, _, rfl, ?_⟩
    rw [SeqAt.eqv_refl _ (SeqAt.canLay_of_shaped (shaped_rows kr)), if_neg (by simp)]
    refine ⟨_, _, .lst (SqL.of hse) (dp_ints am), .lst (SqL.of haa) (dp_ints am), shaped_lst am, shaped_lst am, _, rfl, ?_⟩
    rw [eqv_lst, decide_eq_true rfl, if_neg (by simp)]
    refine ⟨_, "tuple", ⟨rfl, rfl⟩, _, .tup (.inl (.inl hga)) hds, by simp, ?_⟩
    rw [if_neg (by simp [isTy])]
    refine ⟨us, .inr (.inl (.inl hga)), kx, .inl (SqL.of q.hk), ?_⟩
    rw [if_neg (by intro n; exact n (by omega))]
    refine hN _ _ ?_
    exact go13 D _ G2 Hs b c sa ea ka D1 ga ex kx us gs kr am sz last other _ _ _ _ _ _ _ k rfl BG KG2 (q.kr' la haa ba (.inl (.inl hga)) tg) ⟨q.ir.1, q.ir.2.1⟩ q.hs q.bs q.ls
end
end LK

set_option Elab.async false
set_option linter.all false
set_option maxRecDepth 100000
namespace LK
open PySem PySem.Spec PyProof.Rows L2
local macro_rules | `(tactic| walk_at "rs") => `(tactic| simp only [cxK, cxNK, tCallZ, tAsg, tOp, rI0, rS0, rB0, rI, rU, tUn, rEq, rNe, rIxL, rIxT, rIxS, rSetL, rSlLU, rSlS, rSlU, rCatL, rCatU, rRepL, rIn, tVar, tC, gName, gSub, tIfS, tTest, tB, tAnd, tOr, tNot, tNotV, tAndV, tOrV, tIf, tCall, tCons, tNil, tCB, tDrop, tRet, tRetN, tNext, tLstU, tTupU, tM0, tM1, tPar, tPar3, tAug, ipI, tBM, tBM0, rAppend, rPop, tBreak, sDPut, tDGet, tDGet2, tCont, tChain, tSl, tPart, tNoPart, L2.start, List.map, List.length_cons, List.length_nil, List.replicate, List.cons_append, List.nil_append, List.append_nil, List.getElem?_cons_zero, List.getElem?_cons_succ, List.set_cons_zero, List.set_cons_succ, Option.some.injEq, V.int.injEq, V.ref.injEq, V.str.injEq, V.bl.injEq, exists_eq_left', exists_eq_left, exists_and_left, decide_eq_true_eq, List.cons.injEq, and_true, true_and, scal, Bool.not_eq_true', decide_eq_false_iff_not, Nat.zero_add, Nat.reduceAdd, Nat.reduceSub, reduceCtorEq, false_and, exists_false, false_or, or_false, CPow, CPowW, CMul, CDiv, Int.reduceToNat, ↓reduceIte, wipe, sw, rv3, tListKeys, tDIn, tDNotIn, List.nil_append, List.singleton_append])
local macro_rules | `(tactic| walk_at "st") => `(tactic| (refine seq_op fun N hN => ?_; walk_at "rs"))
local macro_rules | `(tactic| walk_at "sd") => `(tactic| first | assumption | decide | omega)
local macro_rules | `(tactic| walk_at "rd") => `(tactic| repeat (first
  | refine ⟨_, SqL.of (by assumption), ?_⟩ | refine ⟨_, SqL.of upd_same, ?_⟩ | refine ⟨_, .inl (SqL.of (by assumption)), ?_⟩ | refine ⟨_, (by assumption : _ = some (HO.lst _)), ?_⟩ | refine ⟨_, upd_same, ?_⟩
  | refine ⟨_, rfl, ?_⟩ | refine And.intro (by walk_at "sd") ?_))

theorem every_pos : ∀ {gs : List (List Int)}, (∀ g ∈ gs, 1 ≤ g.length) → 1 ≤ (everyL gs).length := by
  have key : ∀ {gs : List (List Int)} (rows : List (List Int)), (∀ g ∈ gs, 1 ≤ g.length) → 1 ≤ rows.length → 1 ≤ (gs.foldl grow rows).length := by
    intro gs
    induction gs with
    | nil => intro rows _ h; exact h
    | cons g gs ih =>
      intro rows h l
      refine ih (grow rows g) (fun x hx => h x (List.mem_cons_of_mem _ hx)) ?_
      rw [grow_len]
      exact Nat.mul_le_mul l (h g List.mem_cons_self)
  intro gs h
  exact key [[]] h (by decide)
theorem RowsT.rev {K : PySem.W.Frag} {H : Hp} : ∀ {xs : List V} {rs : List (List Int)}, RowsT K H xs rs → RowsT K H xs.reverse rs.reverse
  | _, _, .nil => .nil
  | _, _, .cons h q => by rw [List.reverse_cons, List.reverse_cons]; exact q.rev.app (.cons h .nil)
theorem Kq.setK {K : PySem.W.Frag} {H H' : Hp} {b ea ka go sa ka' : Addr} {ex kx kx' : List V} {gs kr kr' : List (List Int)} {gl sz : List Int} {last other : Int} (q : Kq K H b ea ka go sa ex kx gs kr gl sz last other)
    (he : H' ea = some (.lst ex)) (te : RowsT K H' ex (everyL gs)) (hg : H' go = some (.lst (gl.map V.int))) (hs : H' sa = some (.lst (sz.map V.int))) (hk : H' ka' = some (.lst kx')) (tk : RowsT K H' kx' kr') (bk : ka' ≠ b) (kn : kr'.Nodup) (ks : ∀ r ∈ kr', r ∈ everyL gs) : Kq K H' b ea ka' go sa ex kx' gs kr' gl sz last other := by
  refine ⟨q.fl, q.g3, q.g4, q.lo, q.oo, q.ne, kn, ks, ?_, he, te, hk, tk, q.be, bk, hg, q.bg, q.gn, q.g16, q.ir, hs, q.bs, q.ls⟩
  refine Nat.le_trans (nodup_len kn ks) (Nat.le_trans (every_len fun g hg => (q.g4 g hg).1) ?_)
  exact Nat.pow_le_pow_right (by decide) q.g3
theorem any_rows (r : List Int) : ∀ rs : List (List Int), (rs.map dRow).any (fun z => PyData.eqv z (dRow r)) = decide (r ∈ rs)
  | [] => by simp
  | q :: rs => by
    rw [List.map_cons, List.any_cons, any_rows r rs]
    have e : PyData.eqv (dRow q) (dRow r) = decide (q = r) := eqv_tup q r
    rw [e]
    by_cases h : q = r
    · subst h; simp
    · rw [decide_eq_false h, Bool.false_or]
      have : (r ∈ q :: rs) ↔ r ∈ rs := ⟨fun m => (List.mem_cons.mp m).elim (fun e => absurd e.symm h) id, List.mem_cons_of_mem _⟩
      exact decide_eq_decide.mpr this.symm
/-- what the law knows ahead of its rows -/
structure K0 (K : PySem.W.Frag) (H : Hp) (b go sa gr : Addr) (ga : List V) (gs : List (List Int)) (gl sz : List Int) (last other : Int) : Prop where
  fl : gs.flatten.Nodup
  g3 : gs.length ≤ 3
  g4 : ∀ g ∈ gs, g.length ≤ 3 ∧ 1 ≤ g.length
  lo : last ∉ gs.flatten
  oo : other ∉ gs.flatten
  ne : last ≠ other
  hg : H go = some (.lst (gl.map V.int))
  bg : go ≠ b
  gn : gl ≠ []
  g16 : gl.length ≤ 16
  ir : InR last ∧ (∀ g ∈ gs, ∀ x ∈ g, InR x) ∧ ∀ x ∈ gl, InR x
  hs : H sa = some (.lst (sz.map V.int))
  bs : sa ≠ b
  ls : sz.length = gs.length
  hr : H gr = some (.lst ga)
  tr : Lists K H ga gs
theorem nd_gs {gs : List (List Int)} (h : gs.flatten.Nodup) : ∀ g ∈ gs, g.Nodup := by
  induction gs with
  | nil => intro g hg; cases hg
  | cons a gs ih =>
    rw [List.flatten_cons] at h
    obtain ⟨h1, h2, _⟩ := List.nodup_append.mp h
    intro g hg
    rcases List.mem_cons.mp hg with rfl | hg
    · exact h1
    · exact ih h2 g hg
section
variable {P : Program} {w : World} {K : PySem.W.Frag} {mg : Str → Option Value} {base : Heap}
theorem right05 (T : Txt w K mg) {cdv : Value} {A : Around} {outer : List Env} {s : Shared} {H0 : Hp} {E : XK} (hr : Room 8 (A.deeper (envOfC "_law_right" (defScope s__law_right) s.heap.objs.size T.a__law_right cdv))) : ∃ t, PSs (cxR P w K mg base T.a__law_right cdv A outer s H0 E) ((defBody s__law_right).drop 5) t ∧
    ∀ (D : Ends) (σ : L2.St) (H Hs : Hp) (b c sa go gr : Addr) (ga : List V) (gs : List (List Int)) (gl sz : List Int) (last other : Int) (x4 : Option V), (∀ H' N, Bag N H' b c → Kp b Hs H' → D.rt (.bl true) H') →
      σ = [some (.ref b), some (.ref sa), some (.ref go), some (.ref gr), x4, some (.int last), some (.int other), none, none, none, none, none, none, none, none, none, none, none, none, none, none, none, none] → Bag 0 H b c → Kp b Hs H → K0 K H b go sa gr ga gs gl sz last other → t D σ H := by
  have hr__law_draw : Room 1 _ := hr.mono (by decide)
  have G__law_draw := ok__law_draw (P := P) (base := base) T
  have hr__law_every : Room 1 _ := hr.mono (by decide)
  have G__law_every := ok__law_every (P := P) (base := base) T
  have hu65 : (A.deeper (envOfC "_law_right" (defScope s__law_right) s.heap.objs.size T.a__law_right cdv)).units + 65 < cLine := Nat.lt_of_le_of_lt (Nat.add_le_add_left (by decide : 65 ≤ 16 * 8 + 200) _) hr.un
  obtain ⟨t09, h09, go09⟩ := right09 (P := P) (base := base) (outer := outer) (H0 := H0) (E := E) T hr
  refine ⟨_, (pss_cons (ps_set (i := 7) sc__law_right.nd rfl (Or.inl rfl) (pe_call G__law_every hr__law_every (by rfl) T.m__law_every T.F__law_every.kp T.B__law_every .nil pass0 (pa_cons (pv 3) pa_nil)))
      (pss_cons (ps_par (i := 8) (j := 9) (by rfl) sc__law_right.nd rfl rfl (by decide) rfl rfl (pa_cons (pe_callTy call_listU (by rfl) T.n_list (by decide +kernel) (pa_cons (pv 7) pa_nil)) (pa_cons (pe_call G__law_draw hr__law_draw (by rfl) T.m__law_draw T.F__law_draw.kp T.B__law_draw .nil pass0 (pa_cons (pv 0) (pa_cons pe_int pa_nil))) pa_nil)) (by rfl))
      (pss_cons (ps_if (pt_cmpR op_eqI (pv 9) pe_int (nomark _)) (pss_one (ps_set (i := 8) sc__law_right.nd rfl (Or.inl rfl) (pe_revL (pv 8)))) pss_nil)
      (pss_cons (ps_if (pt_cmpR op_gt (pv 9) pe_int (nomark _)) (pss_cons (ps_set (i := 8) sc__law_right.nd rfl (Or.inl rfl) (pe_lstU (pa_cons (pe_ix ix_list (pv 7) (pe_call G__law_draw hr__law_draw (by rfl) T.m__law_draw T.F__law_draw.kp T.B__law_draw .nil pass0 (pa_cons (pv 0) (pa_cons (pe_callB call_len_seq (by rfl) T.n_len (by decide +kernel) (pa_cons (pv 7) pa_nil)) pa_nil))) (fun _ _ => rfl)) pa_nil)))
      (pss_one (ps_for PassesOwn.never rfl (pi_list (pv 7)) (pg_name (i := 10) sc__law_right.nd rfl (Or.inl rfl)) (pss_one (ps_if (PW.pt (pw_and (pt_cmpR (op_notInD hu65) (pv 10) (pv 8) (by rfl)) (pw_and1 (pt_cmpR op_eqI (pe_call G__law_draw hr__law_draw (by rfl) T.m__law_draw T.F__law_draw.kp T.B__law_draw .nil pass0 (pa_cons (pv 0) (pa_cons (pv 9) pa_nil))) pe_int (nomark _))))) (pss_one (ps_expr (pe_bm PySem.F.plainAttrs_list PySem.F.slot_list_append PySem.F.type_list_append mt_append (pv 8) (pa_cons (pv 10) pa_nil)))) pss_nil))))) pss_nil)
      h09)))), ?_⟩
  rintro D σ H Hs b c sa go gr ga gs gl sz last other x4 k rfl B KH q
  refine seq_op fun N hN => ?_
  walk_at "rs"
  refine ⟨gr, ga, gs, rfl, SqL.of q.hr, q.tr, q.g3, fun g hg => (q.g4 g hg).1, fun ea ex H1 s1 e0 e1 te => hN _ _ ?_⟩
  clear hN N
  have be : ea ≠ b := new_ne B e0
  have ngo : go ≠ ea := fun z => by have := q.hg; rw [z, e0] at this; cases this
  have nsa : sa ≠ ea := fun z => by have := q.hs; rw [z, e0] at this; cases this
  refine seq_op fun N hN => ?_
  walk_at "rs"
  have ple := every_pos fun g hg => (q.g4 g hg).2
  have lex := te.len
  have l27 : (everyL gs).length ≤ 27 := Nat.le_trans (every_len fun g hg => (q.g4 g hg).1) (Nat.pow_le_pow_right (by decide) q.g3)
  refine ⟨ex, .inl (SqL.of e1), fun ka H2 s2 k0 k1 => ⟨b, c, 4, 0, rfl, (B.same s1).same s2, by decide, by decide, fun way H3 w0 w1 B3 K3 => ⟨_, _, ⟨rfl, rfl⟩, hN _ _ ?_⟩⟩⟩
  clear hN N
  have B1 := B.same s1
  have bk : ka ≠ b := new_ne B1 k0
  have B2 := B1.same s2
  have nka : ∀ {a : Addr} {o : HO}, H1 a = some o → a ≠ ka := fun e z => by rw [z, k0] at e; cases e
  have s12 := Same.trans s1 s2
  have q3 : Kq K H3 b ea ka go sa ex ex gs (everyL gs) gl sz last other := ⟨q.fl, q.g3, q.g4, q.lo, q.oo, q.ne, every_nd (nd_gs q.fl), fun r hr => hr, l27, Kp.get K3 be (s2 _ _ e1), (te.same s2).kp B2 K3, Kp.get K3 bk k1, (te.same s2).kp B2 K3, be, bk, Kp.get K3 q.bg (s12 _ _ q.hg), q.bg, q.gn, q.g16, q.ir, Kp.get K3 q.bs (s12 _ _ q.hs), q.bs, q.ls⟩
  have KH3 := Same.trans KH (Same.trans (Kp.of s12) K3)
  have hs1 : Hs ka = none := Kp.none (Same.trans KH (Kp.of s1)) B1 k0
  have nek : ea ≠ ka := nka e1
  have ngk : go ≠ ka := nka (s1 _ _ q.hg)
  have nsk : sa ≠ ka := nka (s1 _ _ q.hs)
  clear s1 s2 s12 B1 B2 k0 k1 e0 e1 K3 B te KH
  -- if way == 1
  refine cut_seq (fun σ G => ∃ (ka : Addr) (kx : List V) (kr : List (List Int)), σ = [some (.ref b), some (.ref sa), some (.ref go), some (.ref gr), x4, some (.int last), some (.int other), some (.ref ea), some (.ref ka), some (.int way), none, none, none, none, none, none, none, none, none, none, none, none, none] ∧ Bag 0 G b c ∧ Kp b Hs G ∧ Kq K G b ea ka go sa ex kx gs kr gl sz last other) (fun N hN => ?_) ?_
  · walk_at "rs"
    refine ite2 (fun _ => ?_) (fun _ => hN _ _ ⟨ka, ex, everyL gs, rfl, B3, KH3, q3⟩)
    refine ⟨_, rfl, ka, ex, rfl, SqL.of q3.hk, fun p p0 => hN _ _ ?_⟩
    have sp : Same H3 (L2.upd H3 p (.lst ex.reverse)) := same_upd p0
    exact ⟨p, ex.reverse, (everyL gs).reverse, rfl, B3.same sp, Same.trans KH3 (Kp.of sp), q3.setK (sp _ _ q3.he) (q3.te.same sp) (sp _ _ q3.hg) (sp _ _ q3.hs) upd_same (q3.te.same sp).rev (new_ne B3 p0) ((List.reverse_perm _).nodup_iff.mpr q3.kn) fun r hr => List.mem_reverse.mp hr⟩
  · clear q3 KH3 B3 hs1 nek ngk nsk nka bk
    rintro σ G ⟨ka, kx, kr, rfl, B3, KH3, q3⟩
    refine cut_seq (fun σ G => ∃ (x10 : Option V) (ka : Addr) (kx : List V) (kr : List (List Int)), σ = [some (.ref b), some (.ref sa), some (.ref go), some (.ref gr), x4, some (.int last), some (.int other), some (.ref ea), some (.ref ka), some (.int way), x10, none, none, none, none, none, none, none, none, none, none, none, none] ∧ Bag 0 G b c ∧ Kp b Hs G ∧ Kq K G b ea ka go sa ex kx gs kr gl sz last other) (fun N hN => ?_) ?_
    · walk_at "rs"
      refine ite2 (fun wp => ?_) (fun _ => hN _ _ ⟨_, ka, kx, kr, rfl, B3, KH3, q3⟩)
      refine seq_op fun N1 hN1 => ?_
      walk_at "rs"
      refine ⟨ex, .inl (SqL.of q3.he), b, c, _, 0, rfl, B3, by omega, by omega, fun r H4 r0 r1 B4 K4 => ?_⟩
      obtain ⟨k1, rfl⟩ : ∃ k1 : Nat, r = (k1 : Int) := ⟨r.toNat, by omega⟩
      have hk1 : k1 < ex.length := by omega
      replace q3 := q3.kp B3 K4
      replace KH3 := Same.trans KH3 K4
      obtain ⟨ra, row, er, err, hrow⟩ := q3.te.get (i := k1) (List.getElem?_eq_getElem hk1)
      refine ⟨ex, k1, rfl, SqL.of q3.he, _, at_ofN (j := k1) rfl (by rw [List.getElem?_eq_getElem hk1, er]), by decide, fun ka2 H5 s5 n5 t5 => hN1 _ _ ?_⟩
      clear hN1 N1
      have bk2 : ka2 ≠ b := new_ne B4 n5
      have ncl := B4.ne2 n5
      have hs2 : Hs ka2 = none := Kp.none KH3 B4 n5
      have nek : ea ≠ ka2 := fun z => by have := q3.he; rw [z, n5] at this; cases this
      have ngk : go ≠ ka2 := fun z => by have := q3.hg; rw [z, n5] at this; cases this
      have nsk : sa ≠ ka2 := fun z => by have := q3.hs; rw [z, n5] at this; cases this
      have q5 : Kq K H5 b ea ka2 go sa ex [.ref ra] gs [row] gl sz last other := q3.setK (s5 _ _ q3.he) (q3.te.same s5) (s5 _ _ q3.hg) (s5 _ _ q3.hs) t5 (.cons (Same.seqT s5 hrow) .nil) bk2 (by simp) fun r hr => by
        rw [List.mem_singleton.mp hr]
        exact List.mem_of_getElem? err
      have B5 := B4.same s5
      have KH5 := Same.trans KH3 (Kp.of s5)
      clear q3 KH3 B4 s5 n5 t5 K4 B3 hrow kx kr ka
      refine for_ls (K := K) (a := ea) (xs := ex) (fun Q q => ⟨_, rfl, q⟩) (fun i σ G => ∃ (x10 : Option V) (kx : List V) (kr : List (List Int)), σ = [some (.ref b), some (.ref sa), some (.ref go), some (.ref gr), x4, some (.int last), some (.int other), some (.ref ea), some (.ref ka2), some (.int way), x10, none, none, none, none, none, none, none, none, none, none, none, none] ∧ Bag 0 G b c ∧ Kp b Hs G ∧ Kq K G b ea ka2 go sa ex kx gs kr gl sz last other) ⟨_, _, _, rfl, B5, KH5, q5⟩ (fun i σ G ⟨_, _, _, _, _, _, q⟩ => SqL.of q.he) ?_ ?_
      · rintro i x σ G hx ⟨x10, kx, kr, rfl, BG, KG, qG⟩
        obtain ⟨ra2, r2, rfl, er2, hr2⟩ := qG.te.get hx
        have lk := qG.tk.len
        have l27' := qG.l27
        walk_at "rs"
        refine ⟨dRow r2, kr.map dRow, .tup hr2 (dp_ints r2), .lst (SqL.of qG.hk) qG.tk.dp, shaped_tup r2, shaped_rows kr, _, rfl, ?_⟩
        rw [any_rows]
        by_cases m : r2 ∈ kr
        · rw [decide_eq_true m]
          exact iteFF (by decide) ⟨BG, KG, _, _, qG⟩
        · rw [decide_eq_false m]
          refine iteTT rfl ⟨b, c, way, 0, rfl, BG, by omega, by omega, fun r GA _ _ BA KA => ⟨r, rfl, ite2 (fun _ => ?_) (fun _ => ⟨BA, Same.trans KG KA, _, _, qG.kp BG KA⟩)⟩⟩
          have qA := qG.kp BG KA
          have nt := notT_lst qA.hk
          have nodup : (kr ++ [r2]).Nodup := List.nodup_append.mpr ⟨qA.kn, by simp, fun a ha c hc e => m (by rw [← List.mem_singleton.mp hc, ← e]; exact ha)⟩
          refine ⟨.inl ⟨rfl, _, SqL.of qA.hk⟩, kx, qA.hk, Nat.lt_of_le_of_lt (show kx.length ≤ 100 by omega) (by decide), BA.upd bk2.symm ncl.2, Kp.upd2 (Same.trans KG KA) hs2, kx ++ [.ref ra2], kr ++ [r2], qA.setK (by rw [upd_ne nek]; exact qA.he) (qA.te.updO nt) (by rw [upd_ne ngk]; exact qA.hg) (by rw [upd_ne nsk]; exact qA.hs) upd_same ((qA.tk.updO nt).app (.cons (seqT_updO nt (seqT_kp BG KA hr2)) .nil)) bk2 nodup fun r hr => ?_⟩
          rcases List.mem_append.mp hr with hr | hr
          · exact qA.ks r hr
          · rw [List.mem_singleton.mp hr]
            exact List.mem_of_getElem? er2
      · rintro σ G ⟨x10, kx, kr, rfl, BG, KG, qG⟩
        exact hN _ _ ⟨x10, ka2, kx, kr, rfl, BG, KG, qG⟩
    · rintro σ G2 ⟨x10, ka, kx, kr, rfl, B4, KH4, q4⟩
      exact go09 D _ G2 Hs b c sa ea ka go ex kx gs kr gl sz last other way _ _ _ k rfl B4 KH4 q4
end
end LK

set_option Elab.async false
set_option linter.all false
set_option maxRecDepth 100000
namespace LK
open PySem PySem.Spec PyProof.Rows L2
local macro_rules | `(tactic| walk_at "rs") => `(tactic| simp only [cxK, cxNK, tCallZ, tAsg, tOp, rI0, rS0, rB0, rI, rU, tUn, rEq, rNe, rIxL, rIxT, rIxS, rSetL, rSlLU, rSlS, rSlU, rCatL, rCatU, rRepL, rIn, tVar, tC, gName, gSub, tIfS, tTest, tB, tAnd, tOr, tNot, tNotV, tAndV, tOrV, tIf, tCall, tCons, tNil, tCB, tDrop, tRet, tRetN, tNext, tLstU, tTupU, tM0, tM1, tPar, tPar3, tAug, ipI, tBM, tBM0, rAppend, rPop, tBreak, sDPut, tDGet, tDGet2, tCont, tChain, tSl, tPart, tNoPart, L2.start, List.map, List.length_cons, List.length_nil, List.replicate, List.cons_append, List.nil_append, List.append_nil, List.getElem?_cons_zero, List.getElem?_cons_succ, List.set_cons_zero, List.set_cons_succ, Option.some.injEq, V.int.injEq, V.ref.injEq, V.str.injEq, V.bl.injEq, exists_eq_left', exists_eq_left, exists_and_left, decide_eq_true_eq, List.cons.injEq, and_true, true_and, scal, Bool.not_eq_true', decide_eq_false_iff_not, Nat.zero_add, Nat.reduceAdd, Nat.reduceSub, reduceCtorEq, false_and, exists_false, false_or, or_false, CPow, CPowW, CMul, CDiv, Int.reduceToNat, ↓reduceIte, wipe, sw, rv3, tListKeys, tDIn, tDNotIn, List.nil_append, List.singleton_append])
local macro_rules | `(tactic| walk_at "st") => `(tactic| (refine seq_op fun N hN => ?_; walk_at "rs"))
local macro_rules | `(tactic| walk_at "sd") => `(tactic| first | assumption | decide | omega)
local macro_rules | `(tactic| walk_at "rd") => `(tactic| repeat (first
  | refine ⟨_, SqL.of (by assumption), ?_⟩ | refine ⟨_, SqL.of upd_same, ?_⟩ | refine ⟨_, .inl (SqL.of (by assumption)), ?_⟩ | refine ⟨_, (by assumption : _ = some (HO.lst _)), ?_⟩ | refine ⟨_, upd_same, ?_⟩
  | refine ⟨_, rfl, ?_⟩ | refine And.intro (by walk_at "sd") ?_))

/-- lists beside those that change -/
inductive LsA (H : Hp) (bad : Addr → Prop) : List V → List (List Int) → Prop
  | nil : LsA H bad [] []
  | cons {a : Addr} {r : List Int} {xs : List V} {rs : List (List Int)} : ¬ bad a → H a = some (.lst (r.map V.int)) → LsA H bad xs rs → LsA H bad (.ref a :: xs) (r :: rs)
theorem LsA.mono {H H' : Hp} {bad : Addr → Prop} (m : ∀ a o, ¬ bad a → H a = some o → H' a = some o) : ∀ {xs : List V} {rs : List (List Int)}, LsA H bad xs rs → LsA H' bad xs rs
  | _, _, .nil => .nil
  | _, _, .cons n h q => .cons n (m _ _ n h) (q.mono m)
theorem LsA.lists {K : PySem.W.Frag} {H : Hp} {bad : Addr → Prop} : ∀ {xs : List V} {rs : List (List Int)}, LsA H bad xs rs → Lists K H xs rs
  | _, _, .nil => .nil
  | _, _, .cons _ h q => .cons (SqL.of h) q.lists
theorem LsA.app {H : Hp} {bad : Addr → Prop} : ∀ {xs ys : List V} {rs ss : List (List Int)}, LsA H bad xs rs → LsA H bad ys ss → LsA H bad (xs ++ ys) (rs ++ ss)
  | _, _, _, _, .nil, r => r
  | _, _, _, _, .cons n h q, r => .cons n h (q.app r)
theorem LsA.len {H : Hp} {bad : Addr → Prop} : ∀ {xs : List V} {rs : List (List Int)}, LsA H bad xs rs → xs.length = rs.length
  | _, _, .nil => rfl
  | _, _, .cons _ _ q => congrArg Nat.succ q.len
theorem sizes_in : ∀ {ys : List V}, (∀ v ∈ ys, ∃ z : Nat, v = V.int (z : Int) ∧ 1 ≤ z ∧ z ≤ 3) → ∃ sz : List Nat, ys = (sz.map fun z : Nat => (z : Int)).map V.int ∧ ∀ z ∈ sz, 1 ≤ z ∧ z ≤ 3
  | [], _ => ⟨[], rfl, fun t h => absurd h (by simp)⟩
  | v :: ys, h => by
    obtain ⟨z, rfl, hz⟩ := h v List.mem_cons_self
    obtain ⟨sz, rfl, h2⟩ := sizes_in fun u hu => h u (List.mem_cons_of_mem _ hu)
    refine ⟨z :: sz, rfl, fun x hx => ?_⟩
    rcases List.mem_cons.mp hx with rfl | hx
    · exact hz
    · exact h2 x hx
theorem sum_int : ∀ sz : List Nat, (sz.map fun z : Nat => (z : Int)).sum = ((sz.sum : Nat) : Int)
  | [] => rfl
  | z :: sz => by
    rw [List.map_cons, List.sum_cons, sum_int sz, List.sum_cons]
    omega
theorem sum_bd : ∀ {sz : List Nat}, (∀ z ∈ sz, z ≤ 3) → sz.sum ≤ sz.length * 3
  | [], _ => Nat.le_refl _
  | z :: sz, h => by
    have := sum_bd (sz := sz) fun x hx => h x (List.mem_cons_of_mem _ hx)
    have := h z List.mem_cons_self
    rw [List.sum_cons, List.length_cons]
    omega
theorem sum_take {sz : List Nat} {i z : Nat} (h : sz[i]? = some z) : (sz.take (i + 1)).sum = (sz.take i).sum + z ∧ (sz.take i).sum + z ≤ sz.sum := by
  obtain ⟨hk, e⟩ := List.getElem?_eq_some_iff.mp h
  have e1 : sz.take (i + 1) = sz.take i ++ [z] := by rw [← List.take_append_getElem hk, e]
  have e2 : (sz.take (i + 1)).sum = (sz.take i).sum + z := by rw [e1, List.sum_append]; simp
  refine ⟨e2, ?_⟩
  rw [← e2]
  have : ((sz.take (i + 1)) ++ sz.drop (i + 1)).sum = (sz.take (i + 1)).sum + (sz.drop (i + 1)).sum := List.sum_append
  rw [List.take_append_drop] at this
  omega
theorem snoc {α : Type} {l : List α} (h : 0 < l.length) : ∃ a y, l = a ++ [y] := by
  have ne : l ≠ [] := fun e => by subst e; exact Nat.lt_irrefl 0 h
  exact ⟨l.dropLast, l.getLast ne, (List.dropLast_concat_getLast ne).symm⟩
theorem last_snoc {α : Type} {a : List α} {y : α} : (a ++ [y])[(a ++ [y]).length - 1]? = some y := by simp
/-- the loop of groups -/
structure GI (H : Hp) (sz : List Nat) (cols : List Int) (D1 b go gr : Addr) (i : Nat) (ga : List V) (gs : List (List Int)) (gl : List Int) : Prop where
  hd : H D1 = some (.lst ((sz.map fun z : Nat => (z : Int)).map V.int))
  hr : H gr = some (.lst ga)
  hg : H go = some (.lst (gl.map V.int))
  tr : LsA H (fun a => a = b ∨ a = go ∨ a = gr) ga gs
  pm : (gs.flatten ++ gl).Perm cols
  ln : gs.length = i
  fs : gs.flatten.length = (sz.take i).sum
  gb : ∀ g ∈ gs, g.length ≤ 3 ∧ 1 ≤ g.length
section
variable {P : Program} {w : World} {K : PySem.W.Frag} {mg : Str → Option Value} {base : Heap}
def sp_right : Sp := fun vs H Q _ => ∃ (b c : Addr), vs = [.ref b] ∧ Bag 0 H b c ∧ ∀ H', Bag 0 H' b c → Kp b H H' → Q (.bl true) H'
theorem ok__law_right (T : Txt w K mg) : FnOk P w K mg base CX0 9 T.a__law_right T.d__law_right ["bag"] sp_right := by
  refine T.F__law_right.ok sc__law_right (fun vs H Q E h => ?_) (fun cdv A outer s H vs Q E hr h => ?_)
  · obtain ⟨b, c, rfl, _⟩ := h
    rfl
  · obtain ⟨b, c, rfl, B, k⟩ := h
    have hr__law_draw : Room 1 _ := hr.mono (by decide)
    have G__law_draw := ok__law_draw (P := P) (base := base) T
    have hr__law_of : Room 2 _ := hr.mono (by decide)
    have G__law_of := ok__law_of (P := P) (base := base) T
    have hr__law_any_columns : Room 2 _ := hr.mono (by decide)
    have G__law_any_columns := ok__law_any_columns (P := P) (base := base) T
    obtain ⟨t05, h05, go05⟩ := right05 (P := P) (base := base) (outer := outer) (H0 := H) (E := E) T hr
    refine ⟨_, (pss_cons (ps_setLc (i := 1) (own := [("k", 21)]) (g := gName 21) (tt := tYes) rfl sc__law_right.nd rfl rfl (sw_true rfl rfl rfl (by decide +kernel)) (pi_range1 (by rfl) T.n_range (pa_cons (pe_call G__law_of hr__law_of (by rfl) T.m__law_of T.F__law_of.kp T.B__law_of .nil pass0 (pa_cons (pv 0) (pa_cons (pe_lstU (pa_cons pe_int (pa_cons pe_int (pa_cons pe_int (pa_cons pe_int (pa_cons pe_int (pa_cons pe_int pa_nil))))))) pa_nil))) pa_nil)) (blkOk_by (own := [("k", 21)]) (N := N__law_right) (sc := defScope s__law_right) (by decide +kernel)) (fun _ _ _ _ _ => pg_name (i := 21) sc__law_right.nd rfl (Or.inl rfl)) (fun _ _ _ _ _ => pts_nil) (fun _ _ _ _ _ => (pe_op op_add pe_int (pe_call G__law_draw hr__law_draw (by rfl) T.m__law_draw T.F__law_draw.kp T.B__law_draw .nil pass0 (pa_cons (pv 0) (pa_cons pe_int pa_nil))))))
      (pss_cons (ps_set (i := 2) sc__law_right.nd rfl (Or.inr rfl) (pe_call G__law_any_columns hr__law_any_columns (by rfl) T.m__law_any_columns T.F__law_any_columns.kp T.B__law_any_columns .nil pass0 (pa_cons (pv 0) (pa_cons (pe_op op_add (pe_callB (cr_sum rfl) (by rfl) T.n_sum (by decide +kernel) (pa_cons (pv 1) pa_nil)) pe_int) pa_nil))))
      (pss_cons (ps_set (i := 3) sc__law_right.nd rfl (Or.inl rfl) (pe_lstU pa_nil))
      (pss_cons (ps_for PassesOwn.never rfl (pi_list (pv 1)) (pg_name (i := 4) sc__law_right.nd rfl (Or.inl rfl)) (pss_one (ps_expr (pe_bm PySem.F.plainAttrs_list PySem.F.slot_list_append PySem.F.type_list_append mt_append (pv 3) (pa_cons (pe_lc (own := [("k", 21)]) (g := gName 21) (tt := tYes) rfl sc__law_right.nd (pi_range1 (by rfl) T.n_range (pa_cons (pv 4) pa_nil)) (blkOk_by (own := [("k", 21)]) (N := N__law_right) (sc := defScope s__law_right) (by decide +kernel)) (fun _ _ _ _ _ => pg_name (i := 21) sc__law_right.nd rfl (Or.inl rfl)) (fun _ _ _ _ _ => pts_nil) (fun _ _ _ _ _ => (pe_bm0K (K := K) rfl PySem.F.plainAttrs_list PySem.F.slot_list_pop PySem.F.type_list_pop mt_pop (pv 2)))) pa_nil)))))
      (pss_cons (ps_par (i := 5) (j := 6) (by rfl) sc__law_right.nd rfl rfl (by decide) rfl rfl (pa_cons (pe_bm0 PySem.F.plainAttrs_list PySem.F.slot_list_pop PySem.F.type_list_pop mt_pop (pv 2)) (pa_cons (pe_bm0 PySem.F.plainAttrs_list PySem.F.slot_list_pop PySem.F.type_list_pop mt_pop (pv 2)) pa_nil)) (by rfl))
      h05))))), ?_⟩
    refine seq_op fun N hN => ?_
    walk_at "rs"
    refine ⟨_, rfl, by decide, fun p1 H1 s1 n1 t1 => ?_⟩
    show sp__law_of K [.ref b, .ref p1] H1 _ E0
    refine of_lst (N := 0) (B.same s1) t1 (new_ne B n1) (by simp) (by decide) fun y H2 my B2 K2 => ?_
    obtain ⟨n, rfl, n3⟩ : ∃ n : Nat, y = V.int (n : Int) ∧ n ≤ 3 := by
      simp only [List.mem_cons, List.not_mem_nil, or_false] at my
      rcases my with rfl | rfl | rfl | rfl | rfl | rfl
      · exact ⟨2, rfl, by decide⟩
      · exact ⟨1, rfl, by decide⟩
      · exact ⟨3, rfl, by decide⟩
      · exact ⟨0, rfl, by decide⟩
      · exact ⟨2, rfl, by decide⟩
      · exact ⟨1, rfl, by decide⟩
    refine ⟨(n : Int), rfl, by omega, by omega, fun D1 hD1 => lc_draw (n := (n : Int).toNat) (k := 1) (N := 0) walk_range (fun _ v => ∃ z : Nat, v = V.int (z : Int) ∧ 1 ≤ z ∧ z ≤ 3) (fun _ _ _ _ h => h) hD1 B2.to (by omega) (fun _ _ _ _ y => y.1) (fun _ _ => trivial) (fun x G M kG BG Q2 hq2 => ?_) fun G ys BG KG hDG lG hyG => ?_⟩
    · walk_at "rs"
      refine ⟨b, c, 3, M, rfl, BG, by decide, by decide, fun r G2 r0 r1 B3 K3 => ⟨r, rfl, hq2 _ G2 B3 K3 ⟨(1 + r).toNat, ?_, by omega, by omega⟩⟩⟩
      exact congrArg V.int (by omega)
    obtain ⟨sz, rfl, hsz⟩ := sizes_in hyG
    rw [List.length_map, List.length_map, Int.toNat_natCast] at lG
    refine hN _ _ ?_
    clear hN N
    have KH : Kp b H G := Same.trans (Kp.of s1) (Same.trans K2 KG)
    have bs : D1 ≠ b := new_ne B2 hD1
    have hs0 : H D1 = none := Kp.none (Same.trans (Kp.of s1) K2) B2 hD1
    clear s1 K2 KG t1 n1 my hyG hD1 B2 H1 H2
    have sb := sum_bd fun z hz => (hsz z hz).2
    refine seq_op fun N hN => ?_
    walk_at "rs"
    refine ⟨D1, _, rfl, SqL.of hDG, _, rfl, b, c, 0, sz.sum + 7, by rw [sum_int]; rfl, ‹Bag 0 G b c›, by omega, fun go cols H2 B2 K2 g0 g1 lc nc ir => hN _ _ ?_⟩
    clear hN N
    refine seq_op fun N hN => ?_
    walk_at "rs"
    refine ⟨by decide, fun gr H3 s3 r0 r1 => hN _ _ ?_⟩
    clear hN N
    have B3 := B2.same s3
    have D3 : H3 D1 = some (.lst ((sz.map fun z : Nat => (z : Int)).map V.int)) := s3 _ _ (Kp.get K2 bs hDG)
    have K3 : Kp b H H3 := Same.trans KH (Same.trans K2 (Kp.of s3))
    have hg0 : H go = none := Kp.none KH ‹Bag 0 G b c› g0
    have hr0 : H gr = none := Kp.none (Same.trans KH K2) B2 r0
    have ngb := B2.ne2 r0
    have ngo : go ≠ b := new_ne ‹Bag 0 G b c› g0
    have nco : c ≠ go := (Bag.ne2 ‹Bag 0 G b c› g0).2
    have n1 : D1 ≠ go := fun z => by rw [z, g0] at hDG; cases hDG
    have n2 : D1 ≠ gr := fun z => by
      have := Kp.get K2 bs hDG
      rw [z, r0] at this; cases this
    have n3 : go ≠ gr := fun z => by rw [z, r0] at g1; cases g1
    have g3 := s3 _ _ g1
    clear s3 K2 g1 g0 r0 hDG B2 KH hs0
    refine cut_seq (fun σ G => ∃ (x4 : Option V) (ga : List V) (gs : List (List Int)) (gl : List Int), σ = [some (.ref b), some (.ref D1), some (.ref go), some (.ref gr), x4, none, none, none, none, none, none, none, none, none, none, none, none, none, none, none, none, none, none] ∧ Bag 0 G b c ∧ Kp b H G ∧ GI G sz cols D1 b go gr sz.length ga gs gl) (fun N hN => ?_) ?_
    · walk_at "rs"
      refine for_ls (K := K) (a := D1) (xs := (sz.map fun z : Nat => (z : Int)).map V.int) (fun Q q => ⟨_, rfl, q⟩) (fun i σ G => ∃ (x4 : Option V) (ga : List V) (gs : List (List Int)) (gl : List Int), σ = [some (.ref b), some (.ref D1), some (.ref go), some (.ref gr), x4, none, none, none, none, none, none, none, none, none, none, none, none, none, none, none, none, none, none] ∧ Bag 0 G b c ∧ Kp b H G ∧ GI G sz cols D1 b go gr i ga gs gl) ⟨_, [], [], cols, rfl, B3, K3, ⟨D3, r1, g3, .nil, .refl _, rfl, rfl, fun g h => absurd h (by simp)⟩⟩ (fun i σ G ⟨_, _, _, _, _, _, _, q⟩ => SqL.of q.hd) ?_ ?_
      · rintro i x σ G hx ⟨x4, ga, gs, gl, rfl, BG, KG, q⟩
        obtain ⟨z, rfl, ez⟩ : ∃ z : Nat, x = V.int (z : Int) ∧ sz[i]? = some z := by
          rw [List.getElem?_map, List.getElem?_map] at hx
          obtain ⟨u, h1, h2⟩ := Option.map_eq_some_iff.mp hx
          obtain ⟨z, h3, h4⟩ := Option.map_eq_some_iff.mp h1
          exact ⟨z, by rw [h4, h2], h3⟩
        walk_at "rs"
        have hsum := sum_take ez
        have hzb := hsz z (List.mem_of_getElem? ez)
        have lgl : gl.length = sz.sum + 7 - (sz.take i).sum := by
          have := q.pm.length_eq
          rw [List.length_append, q.fs] at this
          omega
        refine ⟨.inl ⟨rfl, _, SqL.of q.hr⟩, _, rfl, (z : Int), rfl, by omega, by omega, fun D4 hD4 => lc_rngI (n := (z : Int).toNat) (fun j J ys => ∃ out ps : List Int, ys = out.map V.int ∧ J go = some (.lst (ps.map V.int)) ∧ (gs.flatten ++ (out ++ ps)).Perm cols ∧ out.length = j ∧ Bag 0 J b c ∧ Kp b H J ∧ ∀ a o, a ≠ b → a ≠ go → G a = some o → J a = some o) (by omega) ⟨[], gl, rfl, ?_, q.pm, rfl, ?_, ?_, ?_⟩ (fun j J ys hj hJ hl ⟨out, ps, ey, hp, pm, lo, BJ, KJ, m⟩ Q2 hq => ?_) fun J ys hJ hl ⟨out, ps, ey, hp, pm, lo, BJ, KJ, m⟩ => ?_⟩
        · rw [upd_ne (ne_of_none q.hg hD4)]; exact q.hg
        · exact BG.upd (BG.ne2 hD4).1 (BG.ne2 hD4).2
        · exact Kp.upd2 KG (Kp.none KG BG hD4)
        · intro a o _ _ h
          rw [upd_ne (ne_of_none h hD4)]; exact h
        · walk_at "rs"
          have lp : 0 < ps.length := by
            have h1 := pm.length_eq
            have h2 := q.pm.length_eq
            rw [List.length_append, List.length_append] at h1
            rw [List.length_append] at h2
            omega
          obtain ⟨p2, y, rfl⟩ := snoc lp
          have nD : go ≠ D4 := ne_of_none q.hg hD4
          refine ⟨.inl ⟨rfl, _, SqL.of hp⟩, _, hp, .int y, ?_, hq _ _ (by rw [upd_ne nD.symm]; exact hJ) ⟨out ++ [y], p2, by rw [ey, List.map_append]; rfl, ?_, ?_, ?_, ?_, ?_, ?_⟩⟩
          · rw [List.map_append]; exact last_snoc
          · rw [upd_ne nD, upd_same, List.map_append]
            exact congrArg (fun l => some (HO.lst l)) List.dropLast_concat
          · refine List.Perm.trans (List.Perm.append_left _ ?_) pm
            rw [List.append_assoc]
            exact List.Perm.append_left _ List.perm_append_comm
          · rw [List.length_append, lo]; rfl
          · exact (BJ.upd ngo.symm nco).upd (BG.ne2 hD4).1 (BG.ne2 hD4).2
          · exact Kp.upd2 (Kp.upd2 KJ hg0) (Kp.none KG BG hD4)
          · intro a o na ng h
            rw [upd_ne (ne_of_none h hD4), upd_ne ng]
            exact m a o na ng h
        · subst ey
          rw [Int.toNat_natCast] at lo
          have hrJ : J gr = some (.lst ga) := m _ _ ngb.1.symm n3.symm q.hr
          have lga := q.tr.len
          have i3 : i < sz.length := by
            obtain ⟨hk, _⟩ := List.getElem?_eq_some_iff.mp ez
            exact hk
          have ngr4 : D4 ≠ gr := (ne_of_none q.hr hD4).symm
          refine ⟨ga, hrJ, Nat.lt_of_le_of_lt (show ga.length ≤ 3 by rw [lga, q.ln]; omega) (by decide), BJ.upd ngb.1 ngb.2, Kp.upd2 KJ hr0, ga ++ [.ref D4], gs ++ [out], ps, ⟨?_, upd_same, ?_, ?_, ?_, ?_, ?_, ?_⟩⟩
          · rw [upd_ne n2]; exact m _ _ bs n1 q.hd
          · rw [upd_ne n3]; exact hp
          · refine LsA.app (q.tr.mono fun a o nb h => ?_) (.cons ?_ ?_ .nil)
            · rw [upd_ne fun z => nb (.inr (.inr z))]
              exact m a o (fun z => nb (.inl z)) (fun z => nb (.inr (.inl z))) h
            · rintro (h | h | h)
              · exact (BG.ne2 hD4).1 h.symm
              · exact ne_of_none q.hg hD4 h.symm
              · exact ngr4 h
            · rw [upd_ne ngr4]; exact hJ
          · rw [List.flatten_append, List.flatten_cons, List.flatten_nil, List.append_nil, List.append_assoc]; exact pm
          · rw [List.length_append, q.ln]; rfl
          · rw [List.flatten_append, List.flatten_cons, List.flatten_nil, List.append_nil, List.length_append, q.fs, lo, hsum.1]
          · intro g hg
            rcases List.mem_append.mp hg with hg | hg
            · exact q.gb g hg
            · rw [List.mem_singleton.mp hg]; omega
      · rintro σ G ⟨x4, ga, gs, gl, rfl, BG, KG, q⟩
        rw [List.length_map, List.length_map] at q
        exact hN _ _ ⟨x4, ga, gs, gl, rfl, BG, KG, q⟩
    · rintro σ G ⟨x4, ga, gs, gl, rfl, BG, KG, q⟩
      have lgl : gl.length = 7 := by
        have := q.pm.length_eq
        rw [List.length_append, q.fs, List.take_length] at this
        omega
      refine seq_op fun N hN => ?_
      walk_at "rs"
      obtain ⟨g1, last, rfl⟩ := snoc (l := gl) (by omega)
      rw [List.length_append, show [last].length = 1 from rfl] at lgl
      obtain ⟨g2, other, rfl⟩ := snoc (l := g1) (by omega)
      rw [List.length_append, show [other].length = 1 from rfl] at lgl
      refine ⟨.inl ⟨rfl, _, SqL.of q.hg⟩, _, q.hg, .int last, by rw [List.map_append]; exact last_snoc, .inl ⟨rfl, _, SqL.of upd_same⟩, _, upd_same, .int other, ?_, _, _, ⟨rfl, rfl⟩, hN _ _ ?_⟩
      · rw [List.map_append, show [last].map V.int = [V.int last] from rfl, List.dropLast_concat, List.map_append]; exact last_snoc
      have e2 : ((((g2 ++ [other] ++ [last]).map V.int).dropLast).dropLast) = g2.map V.int := by
        rw [List.map_append, show [last].map V.int = [V.int last] from rfl, List.dropLast_concat, List.map_append, show [other].map V.int = [V.int other] from rfl, List.dropLast_concat]
      rw [e2]
      clear hN N
      have nd := q.pm.nodup_iff.mpr nc
      obtain ⟨d1, d2, d3⟩ := List.nodup_append.mp nd
      have mm : ∀ x ∈ gs.flatten ++ (g2 ++ [other] ++ [last]), InR x := fun x hx => ir x (q.pm.mem_iff.mp hx)
      refine go05 _ _ _ H b c D1 go gr ga gs g2 (sz.map fun z : Nat => (z : Int)) last other _ (fun H' N B3 K3 => k H' B3 K3) rfl ((BG.upd ngo.symm nco).upd ngo.symm nco) (Kp.upd2 (Kp.upd2 KG hg0) hg0) ⟨d1, by rw [q.ln]; omega, q.gb, ?_, ?_, ?_, upd_same, ngo, ?_, ?_, ⟨mm _ (by simp), ?_, ?_⟩, ?_, bs, ?_, ?_, ?_⟩
      · exact fun h => d3 _ h _ (by simp) rfl
      · exact fun h => d3 _ h _ (by simp) rfl
      · rintro rfl
        exact (List.nodup_append.mp d2).2.2 last (by simp) last (by simp) rfl
      · rintro rfl
        exact absurd lgl (by decide)
      · omega
      · exact fun g hg x hx => mm x (List.mem_append_left _ (List.mem_flatten.mpr ⟨g, hg, hx⟩))
      · exact fun x hx => mm x (by simp [hx])
      · rw [upd_ne n1, upd_ne n1]; exact q.hd
      · rw [List.length_map, q.ln]
      · rw [upd_ne n3.symm, upd_ne n3.symm]; exact q.hr
      · refine (q.tr.mono fun a o nb h => ?_).lists
        rw [upd_ne fun z => nb (.inr (.inl z)), upd_ne fun z => nb (.inr (.inl z))]
        exact h
end
end LK

set_option Elab.async false
set_option linter.all false
set_option maxRecDepth 100000
namespace LK
open PySem PySem.Spec PyProof.Rows L2
local macro_rules | `(tactic| walk_at "rs") => `(tactic| simp only [cxK, cxNK, tCallZ, tAsg, tOp, rI0, rS0, rB0, rI, rU, tUn, rEq, rNe, rIxL, rIxT, rIxS, rSetL, rSlLU, rSlS, rSlU, rCatL, rCatU, rRepL, rIn, tVar, tC, gName, gSub, tIfS, tTest, tB, tAnd, tOr, tNot, tNotV, tAndV, tOrV, tIf, tCall, tCons, tNil, tCB, tDrop, tRet, tRetN, tNext, tLstU, tTupU, tM0, tM1, tPar, tPar3, tAug, ipI, tBM, tBM0, rAppend, rPop, tBreak, sDPut, tDGet, tDGet2, tCont, tChain, tSl, tPart, tNoPart, L2.start, List.map, List.length_cons, List.length_nil, List.replicate, List.cons_append, List.nil_append, List.append_nil, List.getElem?_cons_zero, List.getElem?_cons_succ, List.set_cons_zero, List.set_cons_succ, Option.some.injEq, V.int.injEq, V.ref.injEq, V.str.injEq, V.bl.injEq, exists_eq_left', exists_eq_left, exists_and_left, decide_eq_true_eq, List.cons.injEq, and_true, true_and, scal, Bool.not_eq_true', decide_eq_false_iff_not, Nat.zero_add, Nat.reduceAdd, Nat.reduceSub, reduceCtorEq, false_and, exists_false, false_or, or_false, CPow, CPowW, CMul, CDiv, Int.reduceToNat, ↓reduceIte, wipe, sw, rv3, tListKeys, tDIn, tDNotIn, List.nil_append, List.singleton_append])
local macro_rules | `(tactic| walk_at "st") => `(tactic| (refine seq_op fun N hN => ?_; walk_at "rs"))
local macro_rules | `(tactic| walk_at "sd") => `(tactic| first | assumption | decide | omega)
local macro_rules | `(tactic| walk_at "rd") => `(tactic| repeat (first
  | refine ⟨_, SqL.of (by assumption), ?_⟩ | refine ⟨_, SqL.of upd_same, ?_⟩ | refine ⟨_, .inl (SqL.of (by assumption)), ?_⟩ | refine ⟨_, (by assumption : _ = some (HO.lst _)), ?_⟩ | refine ⟨_, upd_same, ?_⟩
  | refine ⟨_, rfl, ?_⟩ | refine And.intro (by walk_at "sd") ?_))

theorem gv1_self {t : Int} : Norm (accR (gv1 t)) (gv1 t) := by
  have nd : ((gv1 t).map (·.1)).Nodup := by simp [gv1]
  refine ⟨List.pairwise_singleton _ _, fun x hx => ?_, fun k hk => ?_⟩
  · have e := accR_at nd hx
    obtain rfl := List.mem_singleton.mp hx
    exact ⟨low_one, (by decide : (1 : Int) ≠ 0), e.symm⟩
  · by_cases e : k = [t]
    · subst e
      exact ⟨_, List.mem_singleton.mpr rfl⟩
    · refine absurd (accF_none (items := gv1 t) fun it hit z => ?_).2 hk
      obtain rfl := List.mem_singleton.mp hit
      exact e z.symm
/-- the same units, read twice -/
theorem units_dp {K : PySem.W.Frag} {H : Hp} {rest : Int} : ∀ {us vs : List V} {rs : List (List Int)} {ts : List Int}, EUnits K H rest us rs ts → EUnits K H rest vs rs ts → (∀ r ∈ rs, r.Nodup ∧ rest ∉ r) →
    ∃ ds, DpAll K H us ds ∧ DpAll K H vs ds ∧ okAll ds = true ∧ depAll ds ≤ 4 ∧ ds.length = rs.length
  | _, _, _, _, .nil, .nil, _ => ⟨[], .nil, .nil, rfl, by decide, rfl⟩
  | _, _, _, _, .cons (r := r) (t := t) h q, .cons h' q', hr => by
    obtain ⟨ds, d1, d2, d3, d4, d5⟩ := units_dp q q' fun r h => hr r (List.mem_cons_of_mem _ h)
    obtain ⟨nd, nr⟩ := hr r List.mem_cons_self
    obtain ⟨p, a, sh, g, ys, gs, its, gits, rfl, g1, g2, g3, g4, g5, g6, g7, g8, g9, _⟩ := h
    obtain ⟨p', a', sh', g', ys', gs', its', gits', rfl, k1, k2, k3, k4, k5, k6, k7, k8, k9, _⟩ := h'
    obtain rfl := gv1_norm g9
    obtain rfl := gv1_norm k9
    obtain rfl : its' = its := k4.uniq g4
    have perm := norm_perm (tms_spots nd nr 1) (tms_nz (by decide)) g4
    have spot : ∀ x ∈ its', x.1.length ≤ 1000 := fun x hx => by
      have hx := perm.mem_iff.mp hx
      rcases List.mem_append.mp hx with hx | hx
      · obtain ⟨c, _, rfl⟩ := List.mem_map.mp hx
        show 1 ≤ 1000
        decide
      · obtain rfl := List.mem_singleton.mp hx
        show 1 ≤ 1000
        decide
    obtain ⟨ok1, ok2⟩ := dUnit_ok (n := 1 - (r.length : Int)) (t := t) spot (by omega)
    refine ⟨dUnit its' (1 - (r.length : Int)) t :: ds, .cons (.tup g1 (.cons (.tup g2 g3.dp) (.cons (dp_pair g6) (.cons (.tup g7 g8.dp) .nil)))) d1, .cons (.tup k1 (.cons (.tup k2 k3.dp) (.cons (dp_pair k6) (.cons (.tup k7 k8.dp) .nil)))) d2, ?_, ?_, congrArg Nat.succ d5⟩
    · show (okD _ && okAll ds) = true
      rw [ok1, d3]
      rfl
    · show max _ _ ≤ 4
      omega
theorem RowsT.erase {K : PySem.W.Frag} {H : Hp} : ∀ {xs : List V} {rs : List (List Int)} (k : Nat), RowsT K H xs rs → RowsT K H (xs.eraseIdx k) (rs.eraseIdx k)
  | _, _, _, .nil => .nil
  | _, _, 0, .cons _ q => q
  | _, _, k + 1, .cons h q => .cons h (q.erase k)
theorem erase_permA {α : Type} {l : List α} {k : Nat} {y : α} (h : l[k]? = some y) : l.Perm (y :: l.eraseIdx k) := by
  obtain ⟨hk, e⟩ := List.getElem?_eq_some_iff.mp h
  subst e
  have e2 : l = l.take k ++ l[k] :: l.drop (k + 1) := by
    rw [← List.drop_eq_getElem_cons hk, List.take_append_drop]
  have e3 : l.eraseIdx k = l.take k ++ l.drop (k + 1) := List.eraseIdx_eq_take_drop_succ l k
  rw [e3]
  conv => lhs; rw [e2]
  exact List.perm_middle
def rows4 (z : Int) : List (List Int) := [[z], [z + 1, z + 2], [], [z + 3, z + 4, z]]
theorem rows4_ok {z : Int} (h : 2 ≤ z) (g : z < 1902) : ∀ r ∈ rows4 z, r.length ≤ 3 ∧ (∀ x ∈ r, InR x) ∧ r.Nodup ∧ (1 : Int) ∉ r := by
  intro r hr
  unfold rows4 at hr
  simp only [List.mem_cons, List.not_mem_nil, or_false] at hr
  have key : ∀ x ∈ r, z ≤ x ∧ x ≤ z + 4 := by
    rcases hr with rfl | rfl | rfl | rfl
    all_goals
      intro x hx
      simp only [List.mem_cons, List.not_mem_nil, or_false] at hx <;> omega
  refine ⟨?_, fun x hx => ?_, ?_, fun m => ?_⟩
  · rcases hr with rfl | rfl | rfl | rfl
    all_goals simp
  · have := key x hx
    unfold InR
    omega
  · rcases hr with rfl | rfl | rfl | rfl
    · exact List.nodup_cons.mpr ⟨List.not_mem_nil, List.nodup_nil⟩
    · refine List.nodup_cons.mpr ⟨fun m => ?_, by simp⟩
      have := List.mem_singleton.mp m
      omega
    · exact List.nodup_nil
    · refine List.nodup_cons.mpr ⟨fun m => ?_, List.nodup_cons.mpr ⟨fun m => ?_, by simp⟩⟩
      · simp only [List.mem_cons, List.not_mem_nil, or_false] at m
        omega
      · have := List.mem_singleton.mp m
        omega
  · have := key 1 m
    omega
theorem goals_in {z : Int} : ∀ {ys : List V}, (∀ v ∈ ys, ∃ x : Int, v = V.int x ∧ z ≤ x ∧ x < z + 3) → ∃ zs : List Int, ys = zs.map V.int ∧ ∀ x ∈ zs, z ≤ x ∧ x < z + 3
  | [], _ => ⟨[], rfl, fun t h => absurd h (by simp)⟩
  | v :: ys, h => by
    obtain ⟨z, rfl, hz⟩ := h v List.mem_cons_self
    obtain ⟨sz, rfl, h2⟩ := goals_in fun u hu => h u (List.mem_cons_of_mem _ hu)
    refine ⟨z :: sz, rfl, fun x hx => ?_⟩
    rcases List.mem_cons.mp hx with rfl | hx
    · exact hz
    · exact h2 x hx
section
variable {P : Program} {w : World} {K : PySem.W.Frag} {mg : Str → Option Value} {base : Heap}
theorem ok__law_unlike_rows (T : Txt w K mg) : FnOk P w K mg base CX0 9 T.a__law_unlike_rows T.d__law_unlike_rows ["bag"] sp_right := by
  refine T.F__law_unlike_rows.ok sc__law_unlike_rows (fun vs H Q E h => ?_) (fun cdv A outer s H vs Q E hr h => ?_)
  · obtain ⟨b, c, rfl, _⟩ := h
    rfl
  · obtain ⟨b, c, rfl, B, k⟩ := h
    have hr__law_draw : Room 1 _ := hr.mono (by decide)
    have G__law_draw := ok__law_draw (P := P) (base := base) T
    have hr__law_normal : Room 3 _ := hr.mono (by decide)
    have G__law_normal := ok__law_normal (P := P) (base := base) T
    have hr_expression_units : Room 8 _ := hr
    have G_expression_units := ok_expression_units (P := P) (base := base) T
    have hr__law_like : Room 6 _ := hr.mono (by decide)
    have G__law_like := ok__law_like (P := P) (base := base) T 5
    refine ⟨_, (pss_cons (ps_set (i := 1) sc__law_unlike_rows.nd rfl (Or.inr rfl) (pe_op op_add pe_int (pe_call G__law_draw hr__law_draw (by rfl) T.m__law_draw T.F__law_draw.kp T.B__law_draw .nil pass0 (pa_cons (pv 0) (pa_cons pe_int pa_nil)))))
      (pss_cons (ps_set (i := 2) sc__law_unlike_rows.nd rfl (Or.inr rfl) (pe_lstU (pa_cons (pe_tupU (pa_cons (pv 1) pa_nil)) (pa_cons (pe_tupU (pa_cons (pe_op op_add (pv 1) pe_int) (pa_cons (pe_op op_add (pv 1) pe_int) pa_nil))) (pa_cons (pe_tupU pa_nil) (pa_cons (pe_tupU (pa_cons (pe_op op_add (pv 1) pe_int) (pa_cons (pe_op op_add (pv 1) pe_int) (pa_cons (pv 1) pa_nil)))) pa_nil))))))
      (pss_cons (ps_setLc (i := 3) (own := [("k", 8)]) (g := gName 8) (tt := tYes) rfl sc__law_unlike_rows.nd rfl rfl (sw_true rfl rfl rfl (by decide +kernel)) (pi_range1 (by rfl) T.n_range (pa_cons pe_int pa_nil)) (blkOk_by (own := [("k", 8)]) (N := N__law_unlike_rows) (sc := defScope s__law_unlike_rows) (by decide +kernel)) (fun _ _ _ _ _ => pg_name (i := 8) sc__law_unlike_rows.nd rfl (Or.inl rfl)) (fun _ _ _ _ _ => pts_nil) (fun _ _ _ _ _ => (pe_bmK (K := K) rfl PySem.F.plainAttrs_list PySem.F.slot_list_pop PySem.F.type_list_pop mt_popAt (pv 2) (pa_cons (pe_call G__law_draw hr__law_draw (by rfl) T.m__law_draw T.F__law_draw.kp T.B__law_draw .nil pass0 (pa_cons (pv 0) (pa_cons (pe_callB (call_len_seqK (K := K) rfl) (by rfl) T.n_len (by decide +kernel) (pa_cons (pv 2) pa_nil)) pa_nil))) pa_nil))))
      (pss_cons (ps_setLc (i := 4) (own := [("k", 8)]) (g := gName 8) (tt := tYes) rfl sc__law_unlike_rows.nd rfl rfl (sw_true rfl rfl rfl (by decide +kernel)) (pi_range1 (by rfl) T.n_range (pa_cons pe_int pa_nil)) (blkOk_by (own := [("k", 8)]) (N := N__law_unlike_rows) (sc := defScope s__law_unlike_rows) (by decide +kernel)) (fun _ _ _ _ _ => pg_name (i := 8) sc__law_unlike_rows.nd rfl (Or.inl rfl)) (fun _ _ _ _ _ => pts_nil) (fun _ _ _ _ _ => (pe_op op_add (pe_op op_add (pv 1) pe_int) (pe_call G__law_draw hr__law_draw (by rfl) T.m__law_draw T.F__law_draw.kp T.B__law_draw .nil pass0 (pa_cons (pv 0) (pa_cons pe_int pa_nil))))))
      (pss_cons (ps_set (i := 5) sc__law_unlike_rows.nd rfl (Or.inl rfl) (pe_lstU pa_nil))
      (pss_cons (ps_for PassesOwn.never rfl (pi_zip (by rfl) T.n_zip (pa_cons (pv 3) (pa_cons (pv 4) pa_nil))) (pg_tup rfl (pgs_cons (pg_name (i := 6) sc__law_unlike_rows.nd rfl (Or.inl rfl)) (pgs_cons (pg_name (i := 7) sc__law_unlike_rows.nd rfl (Or.inl rfl)) pgs_nil))) (pss_one (ps_expr (pe_bm PySem.F.plainAttrs_list PySem.F.slot_list_append PySem.F.type_list_append mt_append (pv 5) (pa_cons (pe_tupU (pa_cons (pe_call G__law_normal hr__law_normal (by rfl) T.m__law_normal T.F__law_normal.kp T.B__law_normal .nil pass0 (pa_cons (pe_op op_catL (pe_lc (own := [("spot", 9)]) (g := gName 9) (tt := tYes) rfl sc__law_unlike_rows.nd (pi_tup (pv 6)) (blkOk_by (own := [("spot", 9)]) (N := N__law_unlike_rows) (sc := defScope s__law_unlike_rows) (by decide +kernel)) (fun _ _ _ _ _ => pg_name (i := 9) sc__law_unlike_rows.nd rfl (Or.inl rfl)) (fun _ _ _ _ _ => pts_nil) (fun _ _ _ _ _ => (pe_tupU (pa_cons (pv 9) (pa_cons (pe_tupU (pa_cons pe_int (pa_cons pe_int pa_nil))) pa_nil))))) (pe_lstU (pa_cons (pe_tupU (pa_cons pe_int (pa_cons (pe_tupU (pa_cons (pe_un un_neg pe_int) (pa_cons pe_int pa_nil))) pa_nil))) pa_nil))) pa_nil)) (pa_cons (pe_tupU (pa_cons (pe_op op_sub pe_int (pe_callB call_len_seq (by rfl) T.n_len (by decide +kernel) (pa_cons (pv 6) pa_nil))) (pa_cons pe_int pa_nil))) (pa_cons (pe_tupU (pa_cons (pe_tupU (pa_cons (pv 7) (pa_cons (pe_tupU (pa_cons pe_int (pa_cons pe_int pa_nil))) pa_nil))) pa_nil)) pa_nil)))) pa_nil)))))
      (pss_one (ps_ret (pe_and (pe_call G__law_like hr__law_like (by rfl) T.m__law_like T.F__law_like.kp T.B__law_like .nil pass0 (pa_cons (pe_call G_expression_units hr_expression_units (by rfl) T.m_expression_units T.F_expression_units.kp T.B_expression_units .nil pass0 (pa_cons (pv 3) (pa_cons (pv 4) (pa_cons pe_int pa_nil)))) (pa_cons (pe_callTy call_tupleN (by rfl) T.n_tuple (by decide +kernel) (pa_cons (pv 5) pa_nil)) pa_nil))) (pe_one (pe_call G__law_like hr__law_like (by rfl) T.m__law_like T.F__law_like.kp T.B__law_like .nil pass0 (pa_cons (pe_call G_expression_units hr_expression_units (by rfl) T.m_expression_units T.F_expression_units.kp T.B_expression_units .nil pass0 (pa_cons (pe_lstU pa_nil) (pa_cons (pe_lstU pa_nil) (pa_cons pe_int pa_nil)))) (pa_cons (pe_tupU pa_nil) pa_nil))))))))))))), ?_⟩
    refine seq_op fun N hN => ?_
    walk_at "rs"
    refine ⟨b, c, 1900, 0, rfl, B, by decide, by decide, fun z0 H1 z1 z2 B1 K1 => ⟨_, rfl, hN _ _ ?_⟩⟩
    clear hN N B
    obtain ⟨z, ez⟩ : ∃ z, z = 2 + z0 := ⟨_, rfl⟩
    rw [← ez]
    have zl : 2 ≤ z := by omega
    have zh : z < 1902 := by omega
    clear ez z1 z2
    have rok := rows4_ok zl zh
    refine seq_op fun N hN => ?_
    walk_at "rs"
    refine ⟨by decide, fun p1 H2 s2 n2 t2 => ⟨by decide, fun p2 H3 s3 n3 t3 => ⟨by decide, fun p3 H4 s4 n4 t4 => ⟨by decide, fun p4 H5 s5 n5 t5 => ⟨by decide, fun ho H6 s6 n6 t6 => hN _ _ ?_⟩⟩⟩⟩⟩
    clear hN N
    have s56 := Same.trans s5 s6
    have s46 := Same.trans s4 s56
    have s36 := Same.trans s3 s46
    have s26 := Same.trans s2 s36
    have B6 := B1.same s26
    have K6 : Kp b H H6 := Same.trans K1 (Kp.of s26)
    have R6 : RowsT K H6 [.ref p1, .ref p2, .ref p3, .ref p4] (rows4 z) := .cons (r := [z]) (.inl (.inl (s36 _ _ t2))) (.cons (r := [z + 1, z + 2]) (.inl (.inl (s46 _ _ t3))) (.cons (r := []) (.inl (.inl (s56 _ _ t4))) (.cons (r := [z + 3, z + 4, z]) (.inl (.inl (s6 _ _ t5))) .nil)))
    have nho := (B1.same (Same.trans s2 (Same.trans s3 (Same.trans s4 s5)))).ne2 n6
    have hn0 : H ho = none := Kp.none (Same.trans K1 (Kp.of (Same.trans s2 (Same.trans s3 (Same.trans s4 s5))))) (B1.same (Same.trans s2 (Same.trans s3 (Same.trans s4 s5)))) n6
    clear s56 s46 s36 s26 s2 s3 s4 s5 s6 t2 t3 t4 t5 n2 n3 n4 n5 n6 B1 K1 H1 H2 H3 H4 H5
    refine seq_op fun N hN => ?_
    walk_at "rs"
    refine ⟨(4 : Int), rfl, by decide, by decide, fun D hD => lc_rngI (n := (4 : Int).toNat) (fun j J ys => ∃ (hx : List V) (hr out : List (List Int)), RowsT K J ys out ∧ J ho = some (.lst hx) ∧ RowsT K J hx hr ∧ (out ++ hr).Perm (rows4 z) ∧ out.length = j ∧ Bag 0 J b c ∧ Kp b H J) (by decide) ⟨_, rows4 z, [], .nil, ?_, R6.same (same_upd hD), .refl _, rfl, B6.upd (B6.ne2 hD).1 (B6.ne2 hD).2, Kp.upd2 K6 (Kp.none K6 B6 hD)⟩ (fun j J ys hj hJ hl ⟨hx, hr, out, ro, hp, rh, pm, lo, BJ, KJ⟩ Q2 hq => ?_) fun J ys hJ hl ⟨hx, hr, out, ro, hp, rh, pm, lo, BJ, KJ⟩ => ?_⟩
    · rw [upd_ne (ne_of_none t6 hD)]; exact t6
    · walk_at "rs"
      have lh := rh.len
      have lp : out.length + hr.length = 4 := by
        have := pm.length_eq
        rw [List.length_append] at this
        exact this
      have j4 : j < 4 := hj
      have nD : ho ≠ D := ne_of_none t6 hD
      have nDb := B6.ne2 hD
      have bho : ho ≠ b := nho.1.symm
      refine ⟨.inl ⟨rfl, _, SqL.of hp⟩, _, .inl (SqL.of hp), b, c, _, 0, rfl, BJ, by omega, by omega, fun x J2 x0 x1 B2 K2 => ?_⟩
      obtain ⟨k1, rfl⟩ : ∃ k1 : Nat, x = (k1 : Int) := ⟨x.toNat, by omega⟩
      have hk1 : k1 < hx.length := by omega
      have hp2 := Kp.get K2 bho hp
      have hJ2 := Kp.get K2 (fun z => nDb.1 z.symm) hJ
      have rh2 := rh.kp BJ K2
      have ro2 := ro.kp BJ K2
      obtain ⟨ra, row, er, err, hrow⟩ := rh2.get (i := k1) (List.getElem?_eq_getElem hk1)
      have hJ3 : (L2.upd J2 ho (.lst (hx.eraseIdx k1))) D = some (.lst ys) := by rw [upd_ne nD.symm]; exact hJ2
      have nt1 := notT_lst hp2
      have nt2 := notT_lst hJ3
      refine ⟨ho, _, _, k1, .ref ra, rfl, rfl, hp2, by omega, by omega, ixN_nat hk1, by rw [List.getElem?_eq_getElem hk1, er], hq _ _ hJ3 ⟨hx.eraseIdx k1, hr.eraseIdx k1, out ++ [row], ((ro2.updO nt1).app (.cons (seqT_updO nt1 hrow) .nil)).updO nt2, ?_, ((rh2.erase k1).updO nt1).updO nt2, ?_, ?_, ?_, ?_⟩⟩
      · rw [upd_ne nD, upd_same]
      · refine List.Perm.trans ?_ pm
        rw [List.append_assoc]
        exact List.Perm.append_left _ (erase_permA err).symm
      · rw [List.length_append, lo]; rfl
      · exact (B2.upd nho.1 nho.2).upd nDb.1 nDb.2
      · exact Kp.upd2 (Kp.upd2 (Same.trans KJ K2) hn0) (Kp.none K6 B6 hD)
    · refine hN _ _ ?_
      clear hN N
      have lo : out.length = 4 := lo
      have eh : hr = [] := by
        have := pm.length_eq
        rw [List.length_append] at this
        have h4 : (rows4 z).length = 4 := rfl
        exact List.length_eq_zero_iff.mp (by omega)
      subst eh
      rw [List.append_nil] at pm
      have orok : ∀ r ∈ out, r.length ≤ 3 ∧ (∀ x ∈ r, InR x) ∧ r.Nodup ∧ (1 : Int) ∉ r := fun r hr => rok r (pm.mem_iff.mp hr)
      have nDb : D ≠ b := fun z => (B6.ne2 hD).1 z.symm
      clear B6 K6 R6 t6 hD nho hn0 hp rh pm rok hl
      refine seq_op fun N hN => ?_
      walk_at "rs"
      refine ⟨(4 : Int), rfl, by decide, by decide, fun D2 hD2 => lc_draw (n := (4 : Int).toNat) (k := 1) (N := 0) walk_range (fun _ v => ∃ x : Int, v = V.int x ∧ z + 6 ≤ x ∧ x < z + 6 + 3) (fun _ _ _ _ h => h) hD2 BJ.to (by decide) (fun _ _ _ _ y => y.1) (fun _ _ => trivial) (fun x G M kG BG Q2 hq2 => ?_) fun G ys2 BG KG hDG lG hyG => ?_⟩
      · walk_at "rs"
        exact ⟨b, c, 3, M, rfl, BG, by decide, by decide, fun r G2 r0 r1 B3 K3 => ⟨r, rfl, hq2 _ G2 B3 K3 ⟨z + 6 + r, rfl, by omega, by omega⟩⟩⟩
      obtain ⟨zs, rfl, hzs⟩ := goals_in hyG
      rw [List.length_map] at lG
      have lG : zs.length = 4 := lG
      have nDb2 : D2 ≠ b := new_ne BJ hD2
      have KG2 := Same.trans KJ KG
      have hDD := Kp.get KG nDb hJ
      have roG := ro.kp BJ KG
      refine hN _ _ ?_
      clear hN N hyG KG KJ BJ hJ ro hD2
      refine seq_op fun N hN => ?_
      walk_at "rs"
      refine ⟨by decide, fun du G1 s1 n1 t1 => hN _ _ ?_⟩
      clear hN N
      have B1 := BG.same s1
      have K1 := Same.trans KG2 (Kp.of s1)
      have hD1 := s1 _ _ hDD
      have hD21 := s1 _ _ hDG
      have ro1 := roG.same s1
      have lro := ro1.len
      have ndu := BG.ne2 n1
      have hdu : H du = none := Kp.none KG2 BG n1
      have nd1 : D ≠ du := ne_of_none hDD n1
      have nd2 : D2 ≠ du := ne_of_none hDG n1
      clear roG hDD hDG s1 n1 KG2 BG
      refine cut_seq (fun σ G => ∃ (x6 x7 : Option V) (us : List V), σ = [some (.ref b), some (.int z), some (.ref ho), some (.ref D), some (.ref D2), some (.ref du), x6, x7, none, none] ∧ Bag 0 G b c ∧ Kp b H G ∧ G D = some (.lst ys) ∧ RowsT K G ys out ∧ G D2 = some (.lst (zs.map V.int)) ∧ G du = some (.lst us) ∧ EUnits K G 1 us out zs) (fun N hN => ?_) ?_
      · walk_at "rs"
        refine ⟨_, rfl, _, rfl, D, D2, ys, zs.map V.int, rfl, SqL.of hD1, SqL.of hD21, for_it (walk_zip (K := K) (a := D) (b := D2) (xs := ys) (ys := zs.map V.int) (n := 4) (by simp [lro, lo, lG])) (fun i σ G => ∃ (x6 x7 : Option V) (us : List V), σ = [some (.ref b), some (.int z), some (.ref ho), some (.ref D), some (.ref D2), some (.ref du), x6, x7, none, none] ∧ Bag 0 G b c ∧ Kp b H G ∧ G D = some (.lst ys) ∧ RowsT K G ys out ∧ G D2 = some (.lst (zs.map V.int)) ∧ G du = some (.lst us) ∧ EUnits K G 1 us (out.take i) (zs.take i)) ⟨_, _, [], rfl, B1, K1, hD1, ro1, hD21, t1, .nil⟩ (fun i σ G _ ⟨_, _, _, _, _, _, h1, _, h2, _⟩ => ⟨SqL.of h1, SqL.of h2⟩) ?_ ?_⟩
        · rintro i x σ G G' hi ⟨x6, x7, us, rfl, BG, KG, hDG, roG, hD2G, hduG, hu⟩ ⟨T0, u, v, rfl, hT, rfl, e1, e2⟩
          obtain ⟨ra, r, rfl, er, hr1⟩ := roG.get e1
          obtain ⟨t, rfl, et⟩ : ∃ t, v = V.int t ∧ zs[i]? = some t := by
            have e2 : (zs.map V.int)[i]? = some v := e2
            rw [List.getElem?_map] at e2
            obtain ⟨t, h1, h2⟩ := Option.map_eq_some_iff.mp e2
            exact ⟨t, h2.symm, h1⟩
          obtain ⟨l3, inr, _, _⟩ := orok r (List.mem_of_getElem? er)
          have htz := hzs t (List.mem_of_getElem? et)
          have int : InR t := ⟨by omega, by omega⟩
          have lu := hu.len
          have lu3 : us.length ≤ 4 := by
            rw [lu.1, List.length_take]
            omega
          have sT : Same G (L2.upd G T0 (.tup [.ref ra, .int t])) := same_upd hT
          have hT1 : (L2.upd G T0 (.tup [.ref ra, .int t])) T0 = some (.tup [.ref ra, .int t]) := upd_same
          generalize L2.upd G T0 (.tup [.ref ra, .int t]) = G1 at sT hT1 ⊢
          refine g2_at (.inl (.inl hT1)) ?_
          walk_at "rs"
          refine ⟨.inl ⟨rfl, _, SqL.of (sT _ _ hduG)⟩, ?_⟩
          refine lc_tms (fun Q q => ⟨_, rfl, q⟩) (Same.seqT sT hr1) (by omega) (fun c J Q2 hq2 => ?_) fun D3 J1 ys' s1 D30 D31 iy => ?_
          · walk_at "rs"
            exact ⟨by decide, fun p1 J1 u1 n1 v1 => ⟨by decide, fun p2 J2 u2 n2 v2 => hq2 p2 p1 J2 (Same.trans u1 u2) (.inl (.inl v2)) (.inl (.inl (u2 _ _ v1)))⟩⟩
          have ly := iy.len
          rw [List.length_map] at ly
          refine ⟨by decide, fun p1 J2 u2 n2 v2 => ⟨by decide, fun p2 J3 u3 n3 v3 => ⟨by decide, fun p3 J4 u4 n4 v4 => ?_⟩⟩⟩
          have u24 := Same.trans u2 (Same.trans u3 u4)
          refine ⟨D3, rfl, ys', u24 _ _ D31, _, v4, Nat.le_trans (show ys'.length + 1 ≤ 4 by omega) (by decide), fun p4 J5 u5 n5 v5 => ?_⟩
          have u25 := Same.trans u24 u5
          have it5 : Its K J5 (ys' ++ [.ref p2]) (tms r 1 1) := (iy.same u25).app (.cons (k := [1]) (f := (-1, 1)) (.inl (.inl (u5 _ _ (u4 _ _ v3)))) (.inl (.inl (u5 _ _ (u4 _ _ (u3 _ _ v2))))) .nil)
          have fit : Fit 1 (tms r 1 1) := tms_fit inr ⟨by decide, by decide⟩ (by omega) (by decide)
          refine ⟨p4, _, tms r 1 1, rfl, .inl (SqL.of v5), it5, fit, fun tt zs2 its2 J6 u6 h6 i6 n6 l6 => ?_⟩
          have s16 := Same.trans s1 (Same.trans u25 u6)
          have hr6 := Same.seqT (Same.trans sT s16) hr1
          refine ⟨_, .inr hr6, by decide, fun p7 J7 u7 n7 v7 => ⟨by decide, fun p8 J8 u8 n8 v8 => ⟨by decide, fun p9 J9 u9 n9 v9 => ⟨by decide, fun pA JA uA nA vA => ⟨by decide, fun pB JB uB nB vB => ?_⟩⟩⟩⟩⟩
          rw [List.length_map] at v7
          have w7B := Same.trans u8 (Same.trans u9 (Same.trans uA uB))
          have w6B := Same.trans u7 w7B
          have sB := Same.trans (Same.trans sT s16) w6B
          have eu : EUnit K JB 1 (.ref pB) r t := ⟨pB, tt, p7, pA, zs2, _, its2, gv1 t, rfl, .inl (.inl vB), Same.seqT w6B h6, i6.same w6B, n6, l6, .inl (.inl (w7B _ _ v7)), .inl (.inl (uB _ _ vA)), .cons (k := [t]) (f := (1, 1)) (.inl (.inl (uB _ _ (uA _ _ v9)))) (.inl (.inl (uB _ _ (uA _ _ (u9 _ _ v8))))) .nil, gv1_self, by show 1 < 64; decide⟩
          have hduB := sB _ _ hduG
          have nt := notT_lst hduB
          refine ⟨us, hduB, Nat.lt_of_le_of_lt lu3 (by decide), _, _, ⟨rfl, rfl⟩, (BG.same sB).upd ndu.1 ndu.2, Kp.upd2 (Same.trans KG (Kp.of sB)) hdu, by rw [upd_ne nd1]; exact sB _ _ hDG, (roG.same sB).updO nt, by rw [upd_ne nd2]; exact sB _ _ hD2G, _, upd_same, ?_⟩
          obtain ⟨hk, e⟩ := List.getElem?_eq_some_iff.mp er
          obtain ⟨hk2, e2⟩ := List.getElem?_eq_some_iff.mp et
          rw [← List.take_append_getElem hk, e, ← List.take_append_getElem hk2, e2]
          exact ((hu.same sB).app (.cons eu .nil)).updO nt
        · rintro σ G ⟨x6, x7, us, rfl, BG, KG, hDG, roG, hD2G, hduG, hu⟩
          rw [show out.take 4 = out from List.take_of_length_le (by omega), show zs.take 4 = zs from List.take_of_length_le (by omega)] at hu
          exact hN _ _ ⟨x6, x7, us, rfl, BG, KG, hDG, roG, hD2G, hduG, hu⟩
      · rintro σ G ⟨x6, x7, us, rfl, BG, KG, hDG, roG, hD2G, hduG, hu⟩
        walk_at "rs"
        have rowok : RowsOk out zs 1 := ⟨by omega, by omega, fun r hr => ⟨by have := (orok r hr).1; omega, (orok r hr).2.1⟩, fun t ht => by
          have := hzs t ht
          exact ⟨by omega, by omega⟩, by decide, by decide⟩
        refine ⟨D, D2, ys, out, zs, 1, rfl, .inl ⟨SqL.of hDG, SqL.of hD2G⟩, roG, rowok, fun tg gs H2 s2 tg1 eu => ⟨us, SqL.of (s2 _ _ hduG), fun q H3 s3 q0 q1 => ?_⟩⟩
        obtain ⟨ds, d1, d2, d3, d4, d5⟩ := units_dp (eu.same s3) (hu.same (Same.trans s2 s3)) fun r hr => (orok r hr).2.2
        refine ⟨.ref tg, .ref q, .tuple ds, rfl, .tup (.inl (.inl (s3 _ _ tg1))) d1, .tup (.inl (.inl q1)) d2, okD_tup.mpr ⟨by omega, d3⟩, by rw [dep_tup]; omega, fun H4 s4 => ⟨true, rfl, ?_⟩⟩
        rw [if_pos rfl]
        refine ⟨by decide, fun p5 H5 s5 n5 t5 => ⟨by decide, fun p6 H6 s6 n6 t6 => ?_⟩⟩
        refine ⟨p5, p6, [], [], [], 1, rfl, .inl ⟨SqL.of (s6 _ _ t5), SqL.of t6⟩, .nil, ⟨rfl, by decide, fun r h => absurd h (by simp), fun r h => absurd h (by simp), by decide, by decide⟩, fun te us2 H7 s7 te1 eu2 => ⟨by decide, fun p8 H8 s8 n8 t8 => ?_⟩⟩
        cases eu2
        refine ⟨.ref te, .ref p8, .tuple [], rfl, .tup (.inl (.inl (s8 _ _ te1))) .nil, .tup (.inl (.inl t8)) .nil, okD_tup.mpr ⟨by decide, rfl⟩, by decide, fun H9 s9 => ?_⟩
        have s29 := Same.trans s2 (Same.trans s3 (Same.trans s4 (Same.trans s5 (Same.trans s6 (Same.trans s7 (Same.trans s8 s9))))))
        exact k H9 (BG.same s29) (Same.trans KG (Kp.of s29))
end
end LK

set_option Elab.async false
set_option linter.all false
set_option maxRecDepth 100000
namespace LK
open PySem PySem.Spec PyProof.Rows L2
local macro_rules | `(tactic| walk_at "rs") => `(tactic| simp only [cxK, cxNK, tCallZ, tAsg, tOp, rI0, rS0, rB0, rI, rU, tUn, rEq, rNe, rIxL, rIxT, rIxS, rSetL, rSlLU, rSlS, rSlU, rCatL, rCatU, rRepL, rIn, tVar, tC, gName, gSub, tIfS, tTest, tB, tAnd, tOr, tNot, tNotV, tAndV, tOrV, tIf, tCall, tCons, tNil, tCB, tDrop, tRet, tRetN, tNext, tLstU, tTupU, tM0, tM1, tPar, tPar3, tAug, ipI, tBM, tBM0, rAppend, rPop, tBreak, sDPut, tDGet, tDGet2, tCont, tChain, tSl, tPart, tNoPart, L2.start, List.map, List.length_cons, List.length_nil, List.replicate, List.cons_append, List.nil_append, List.append_nil, List.getElem?_cons_zero, List.getElem?_cons_succ, List.set_cons_zero, List.set_cons_succ, Option.some.injEq, V.int.injEq, V.ref.injEq, V.str.injEq, V.bl.injEq, exists_eq_left', exists_eq_left, exists_and_left, decide_eq_true_eq, List.cons.injEq, and_true, true_and, scal, Bool.not_eq_true', decide_eq_false_iff_not, Nat.zero_add, Nat.reduceAdd, Nat.reduceSub, reduceCtorEq, false_and, exists_false, false_or, or_false, CPow, CPowW, CMul, CDiv, Int.reduceToNat, ↓reduceIte, wipe, sw, rv3, tListKeys, tDIn, tDNotIn, List.nil_append, List.singleton_append])
local macro_rules | `(tactic| walk_at "st") => `(tactic| (refine seq_op fun N hN => ?_; walk_at "rs"))
local macro_rules | `(tactic| walk_at "sd") => `(tactic| first | assumption | decide | omega)
local macro_rules | `(tactic| walk_at "rd") => `(tactic| repeat (first
  | refine ⟨_, SqL.of (by assumption), ?_⟩ | refine ⟨_, SqL.of upd_same, ?_⟩ | refine ⟨_, .inl (SqL.of (by assumption)), ?_⟩ | refine ⟨_, (by assumption : _ = some (HO.lst _)), ?_⟩ | refine ⟨_, upd_same, ?_⟩
  | refine ⟨_, rfl, ?_⟩ | refine And.intro (by walk_at "sd") ?_))

def sp_law (K : PySem.W.Frag) : Sp := fun vs H Q _ => ∃ (a : Addr) (ns : List Int), vs = [.ref a] ∧ SqL K H a (ns.map V.int) ∧ ns.length ≤ 63 ∧ ∀ H', Q (.bl true) H'
section
variable {P : Program} {w : World} {K : PySem.W.Frag} {mg : Str → Option Value} {base : Heap}
theorem ok_law (T : Txt w K mg) : FnOk P w K mg base CX0 10 T.a_law T.d_law ["script"] (sp_law K) := by
  refine T.F_law.ok sc_law (fun vs H Q E h => ?_) (fun cdv A outer s H vs Q E hr h => ?_)
  · obtain ⟨a, ns, rfl, _⟩ := h
    rfl
  · obtain ⟨a, ns, rfl, ha, l63, k⟩ := h
    have hr__law_bag : Room 1 _ := hr.mono (by decide)
    have G__law_bag := ok__law_bag (P := P) (base := base) T
    have hr__law_right : Room 9 _ := hr
    have G__law_right := ok__law_right (P := P) (base := base) T
    have hr__law_unlike_rows : Room 9 _ := hr
    have G__law_unlike_rows := ok__law_unlike_rows (P := P) (base := base) T
    refine ⟨_, (pss_cons (ps_set (i := 1) sc_law.nd rfl (Or.inl rfl) (pe_call G__law_bag hr__law_bag (by rfl) T.m__law_bag T.F__law_bag.kp T.B__law_bag .nil pass0 (pa_cons (pv 0) pa_nil)))
      (pss_cons (ps_for PassesOwn.never rfl (pi_range1 (by rfl) T.n_range (pa_cons pe_int pa_nil)) (pg_name (i := 2) sc_law.nd rfl (Or.inl rfl)) (pss_one (ps_if (pt_not (pt_val (pe_call G__law_right hr__law_right (by rfl) T.m__law_right T.F__law_right.kp T.B__law_right .nil pass0 (pa_cons (pv 1) pa_nil)))) (pss_one (ps_ret pe_bl)) pss_nil)))
      (pss_one (ps_ret (pe_call G__law_unlike_rows hr__law_unlike_rows (by rfl) T.m__law_unlike_rows T.F__law_unlike_rows.kp T.B__law_unlike_rows .nil pass0 (pa_cons (pv 1) pa_nil)))))), ?_⟩
    refine seq_op fun N hN => ?_
    walk_at "rs"
    refine ⟨a, ns, rfl, ha, l63, fun b c H1 s1 B1 b0 => hN _ _ ?_⟩
    clear hN N
    refine cut_seq (fun σ G => ∃ (x2 : Option V), σ = [some (.ref a), some (.ref b), x2] ∧ Bag 0 G b c) (fun N hN => ?_) ?_
    · walk_at "rs"
      refine ⟨_, rfl, by decide, by decide, for_it walk_range (fun i σ G => ∃ (x2 : Option V), σ = [some (.ref a), some (.ref b), x2] ∧ Bag 0 G b c) ⟨_, rfl, B1⟩ (fun _ _ _ _ _ => trivial) ?_ ?_⟩
      · rintro i x σ G G' hi ⟨x2, rfl, BG⟩ ⟨rfl, rfl⟩
        walk_at "rs"
        refine ⟨b, c, rfl, BG, fun H' BH _ => ⟨true, rfl, ?_⟩⟩
        rw [if_neg (by simp)]
        exact BH
      · rintro σ G ⟨x2, rfl, BG⟩
        exact hN _ _ ⟨_, rfl, BG⟩
    · rintro σ G ⟨x2, rfl, BG⟩
      walk_at "rs"
      exact ⟨b, c, rfl, BG, fun H' _ _ => k H'⟩
end
end LK

set_option Elab.async false
set_option linter.all false
set_option maxRecDepth 100000
namespace LK
open PySem PySem.Spec PyProof.Rows L2
local macro_rules | `(tactic| walk_at "rs") => `(tactic| simp only [cxK, cxNK, tCallZ, tAsg, tOp, rI0, rS0, rB0, rI, rU, tUn, rEq, rNe, rIxL, rIxT, rIxS, rSetL, rSlLU, rSlS, rSlU, rCatL, rCatU, rRepL, rIn, tVar, tC, gName, gSub, tIfS, tTest, tB, tAnd, tOr, tNot, tNotV, tAndV, tOrV, tIf, tCall, tCons, tNil, tCB, tDrop, tRet, tRetN, tNext, tLstU, tTupU, tM0, tM1, tPar, tPar3, tAug, ipI, tBM, tBM0, rAppend, rPop, tBreak, sDPut, tDGet, tDGet2, tCont, tChain, tSl, tPart, tNoPart, L2.start, List.map, List.length_cons, List.length_nil, List.replicate, List.cons_append, List.nil_append, List.append_nil, List.getElem?_cons_zero, List.getElem?_cons_succ, List.set_cons_zero, List.set_cons_succ, Option.some.injEq, V.int.injEq, V.ref.injEq, V.str.injEq, V.bl.injEq, exists_eq_left', exists_eq_left, exists_and_left, decide_eq_true_eq, List.cons.injEq, and_true, true_and, scal, Bool.not_eq_true', decide_eq_false_iff_not, Nat.zero_add, Nat.reduceAdd, Nat.reduceSub, reduceCtorEq, false_and, exists_false, false_or, or_false, CPow, CPowW, CMul, CDiv, Int.reduceToNat, ↓reduceIte, wipe, sw, rv3, tListKeys, tDIn, tDNotIn, List.nil_append, List.singleton_append])
local macro_rules | `(tactic| walk_at "st") => `(tactic| (refine seq_op fun N hN => ?_; walk_at "rs"))
local macro_rules | `(tactic| walk_at "sd") => `(tactic| first | assumption | decide | omega)
local macro_rules | `(tactic| walk_at "rd") => `(tactic| repeat (first
  | refine ⟨_, SqL.of (by assumption), ?_⟩ | refine ⟨_, SqL.of upd_same, ?_⟩ | refine ⟨_, .inl (SqL.of (by assumption)), ?_⟩ | refine ⟨_, (by assumption : _ = some (HO.lst _)), ?_⟩ | refine ⟨_, upd_same, ?_⟩
  | refine ⟨_, rfl, ?_⟩ | refine And.intro (by walk_at "sd") ?_))
/-! ### what the head tells, as Bools -/
def oexB (K : PySem.W.Frag) (C : Addr) : Bool := (match K.lookup C with
  | some ⟨.type c, _, .cls cd, sl⟩ => (match cd.mro, sl.toList with
    | .ref C' :: bm, [_, _, _, _, some (.builtin n), _] => decide (c = "type") && (decide (C' = C) && (decide (n = "ValueError.__new__") && (!cd.hasDel && (cd.hasDict && PySem.HandSPX.refsVE bm))))
    | _, _ => false)
  | _ => false) && (He.eqO (PySem.W.findIn K (.ref C) "__setattr__") (some (some (.builtin "object.__setattr__"))) && (decide (PySem.W.subIn K (.ref C) (.type "BaseException") = some true) && (decide (PySem.W.typeIn K (.ref C) = some (.type "type")) && PySem.W.keepIn K (.ref C))))
theorem oexB_ok {K : PySem.W.Frag} {C : Addr} (h : oexB K C = true) : OexC K C := by
  obtain ⟨h1, h2⟩ := He.ba h
  obtain ⟨h3, h4⟩ := He.ba h2
  obtain ⟨h5, h6⟩ := He.ba h4
  obtain ⟨h7, h8⟩ := He.ba h6
  refine ⟨?_, He.eqO_ok h3, of_decide_eq_true h5, of_decide_eq_true h7, h8⟩
  cases e : K.lookup C with
  | none => rw [e] at h1; cases h1
  | some ob =>
    obtain ⟨oc, od, dt, osl⟩ := ob
    rw [e] at h1
    cases oc with
    | type c =>
      cases dt with
      | cls cd =>
        obtain ⟨nm, bs, mro, ns, qn, hd, sn, sb, ab, col, del⟩ := cd
        dsimp only at h1
        split at h1
        · rename_i xl C' bm k0 k1 k2 k3 n k5 es
          obtain ⟨a1, b1⟩ := He.ba h1
          obtain ⟨a2, b2⟩ := He.ba b1
          obtain ⟨a3, b3⟩ := He.ba b2
          obtain ⟨a4, b4⟩ := He.ba b3
          obtain ⟨a5, a6⟩ := He.ba b4
          have ec : c = "type" := of_decide_eq_true a1
          have eC : C' = C := of_decide_eq_true a2
          have en : n = "ValueError.__new__" := of_decide_eq_true a3
          have ed : del = false := by cases del with
            | false => rfl
            | true => cases a4
          have eh : hd = true := a5
          have eo : osl = #[k0, k1, k2, k3, some (.builtin n), k5] := by
            have := congrArg List.toArray es
            simpa using this
          subst ec eC en ed eh eo
          exact ⟨nm, qn, ns, bs, bm, sn, sb, ab, col, od, k0, k1, k2, k3, k5, rfl, a6⟩
        · cases h1
      | _ => cases h1
    | _ => cases dt <;> cases h1
def bvC (K : PySem.W.Frag) : Addr := He.ga K "BadValue"
def bvI (K : PySem.W.Frag) : Addr := He.fAd K ("BadValue", some "__init__")
def exB (K : PySem.W.Frag) : Bool := oexB K (bvC K) && (He.eqO (PySem.W.nsIn K mainGlobals "gcd") (some (some (.builtin "math.gcd"))) && (decide (PySem.W.typeIn K (.ref (bvI K)) = some (.type "function")) && (He.eqO (PySem.W.findIn K (.ref (bvC K)) "__init__") (some (some (.ref (bvI K)))) && (He.tupB K "ZERO" [.int 0, .int 1] && (He.tupB K "ONE" [.int 1, .int 1])))))
def dInit : He.DefD := ⟨("BadValue", some "__init__"), "__init__", "BadValue.__init__", defArgs s_BadValue, defBody s_BadValue, defScope s_BadValue, [], []⟩
def D_is_number : He.DefD := ⟨("is_number", none), "is_number", "is_number", defArgs s_is_number, defBody s_is_number, defScope s_is_number, [], []⟩
def D_fraction : He.DefD := ⟨("fraction", none), "fraction", "fraction", defArgs s_fraction, defBody s_fraction, defScope s_fraction, [.int 1], []⟩
def D_plus : He.DefD := ⟨("plus", none), "plus", "plus", defArgs s_plus, defBody s_plus, defScope s_plus, [], []⟩
def D_normal_entries : He.DefD := ⟨("normal_entries", none), "normal_entries", "normal_entries", defArgs s_normal_entries, defBody s_normal_entries, defScope s_normal_entries, [], []⟩
def D_normal_triples : He.DefD := ⟨("normal_triples", none), "normal_triples", "normal_triples", defArgs s_normal_triples, defBody s_normal_triples, defScope s_normal_triples, [], []⟩
def D_normal_part : He.DefD := ⟨("normal_part", none), "normal_part", "normal_part", defArgs s_normal_part, defBody s_normal_part, defScope s_normal_part, [], []⟩
def D_unit_of : He.DefD := ⟨("unit_of", none), "unit_of", "unit_of", defArgs s_unit_of, defBody s_unit_of, defScope s_unit_of, [], []⟩
def D_expression_units : He.DefD := ⟨("expression_units", none), "expression_units", "expression_units", defArgs s_expression_units, defBody s_expression_units, defScope s_expression_units, [], []⟩
def D__law_bag : He.DefD := ⟨("_law_bag", none), "_law_bag", "_law_bag", defArgs s__law_bag, defBody s__law_bag, defScope s__law_bag, [], []⟩
def D__law_draw : He.DefD := ⟨("_law_draw", none), "_law_draw", "_law_draw", defArgs s__law_draw, defBody s__law_draw, defScope s__law_draw, [], []⟩
def D__law_of : He.DefD := ⟨("_law_of", none), "_law_of", "_law_of", defArgs s__law_of, defBody s__law_of, defScope s__law_of, [], []⟩
def D__law_like : He.DefD := ⟨("_law_like", none), "_law_like", "_law_like", defArgs s__law_like, defBody s__law_like, defScope s__law_like, [], []⟩
def D__law_low : He.DefD := ⟨("_law_low", none), "_law_low", "_law_low", defArgs s__law_low, defBody s__law_low, defScope s__law_low, [], []⟩
def D__law_plus : He.DefD := ⟨("_law_plus", none), "_law_plus", "_law_plus", defArgs s__law_plus, defBody s__law_plus, defScope s__law_plus, [], []⟩
def D__law_times : He.DefD := ⟨("_law_times", none), "_law_times", "_law_times", defArgs s__law_times, defBody s__law_times, defScope s__law_times, [], []⟩
def D__law_normal : He.DefD := ⟨("_law_normal", none), "_law_normal", "_law_normal", defArgs s__law_normal, defBody s__law_normal, defScope s__law_normal, [], []⟩
def D__law_gifts : He.DefD := ⟨("_law_gifts", none), "_law_gifts", "_law_gifts", defArgs s__law_gifts, defBody s__law_gifts, defScope s__law_gifts, [], []⟩
def D__law_every : He.DefD := ⟨("_law_every", none), "_law_every", "_law_every", defArgs s__law_every, defBody s__law_every, defScope s__law_every, [], []⟩
def D__law_any_columns : He.DefD := ⟨("_law_any_columns", none), "_law_any_columns", "_law_any_columns", defArgs s__law_any_columns, defBody s__law_any_columns, defScope s__law_any_columns, [], []⟩
def D__law_ones : He.DefD := ⟨("_law_ones", none), "_law_ones", "_law_ones", defArgs s__law_ones, defBody s__law_ones, defScope s__law_ones, [], []⟩
def D__law_right : He.DefD := ⟨("_law_right", none), "_law_right", "_law_right", defArgs s__law_right, defBody s__law_right, defScope s__law_right, [], []⟩
def D__law_unlike_rows : He.DefD := ⟨("_law_unlike_rows", none), "_law_unlike_rows", "_law_unlike_rows", defArgs s__law_unlike_rows, defBody s__law_unlike_rows, defScope s__law_unlike_rows, [], []⟩
def D_law : He.DefD := ⟨("law", none), "law", "law", defArgs s_law, defBody s_law, defScope s_law, [], []⟩
def fnL : List He.DefD := [dInit, D_is_number, D_fraction, D_plus, D_normal_entries, D_normal_triples, D_normal_part, D_unit_of, D_expression_units, D__law_bag, D__law_draw, D__law_of, D__law_like, D__law_low, D__law_plus, D__law_times, D__law_normal, D__law_gifts, D__law_every, D__law_any_columns, D__law_ones, D__law_right, D__law_unlike_rows, D_law]
def faL : List He.Fa := [.free "len", .free "int", .free "list", .free "tuple", .free "bool", .free "str", .free "dict", .free "isinstance", .free "all", .free "range", .free "zip", .free "abs", .free "sorted", .free "sum", .glo "ZERO", .glo "ONE", .glo "BadValue", .glo "is_number", .glo "fraction", .glo "plus", .glo "normal_entries", .glo "normal_triples", .glo "normal_part", .glo "unit_of", .glo "expression_units", .glo "_law_bag", .glo "_law_draw", .glo "_law_of", .glo "_law_like", .glo "_law_low", .glo "_law_plus", .glo "_law_times", .glo "_law_normal", .glo "_law_gifts", .glo "_law_every", .glo "_law_any_columns", .glo "_law_ones", .glo "_law_right", .glo "_law_unlike_rows", .glo "law", .noat "BadValue" "value", .noat "BadValue" "code"]
theorem fun_ofD {K : PySem.W.Frag} {x q : Str} {st : Stmt} {f : Addr} {fd : FuncData} {kws : List (Str × V)} (F : FunD K x q (defArgs st) (defBody st) (defScope st) [] kws f fd) : Fun K x q st f fd := by
  obtain ⟨oc, od, dV, kV, doc, pm, an, cdv, ct, osl, rfl, lk, hcd, hD, _⟩ := F.ex
  rcases hD with ⟨_, rfl⟩ | ⟨e, _⟩
  · exact ⟨⟨oc, od, kV, doc, pm, an, cdv, ct, osl, rfl, lk, hcd⟩, F.kp⟩
  · exact absurd rfl e
set_option maxHeartbeats 0 in
theorem facts {P : Program} {w : World} {K : PySem.W.Frag} {h : Heap} {mg : Str → Option Value} {f : Addr} (X : K.In h) (G : h.Ns mainGlobals mg) (hfa : mg ("law" : Str) = some (.ref f)) (c : He.SaysX faL fnL [] [] exB w h K) :
    ∃ (fd : FuncData) (cs : List (Addr × Addr)) (sp : Sp), (∀ p ∈ cs, h.get? p.2 = some { cls := .none, data := .fields #[] }) ∧ (∀ p ∈ cs, K.lookup p.2 = none) ∧ (∀ p ∈ cs, PySem.W.CodeHd h p.1 p.2) ∧ (∀ (s : Shared) (u : Value), BindsTo s fd ⟨[u], []⟩ [("script", u)]) ∧
      (∀ (H : Hp) (a : Addr) (ns : List Int), ns.length ≤ 63 → (∀ z ∈ ns, Builtin.Int.intBits z ≤ 1048576) → (∀ p ∈ cs, H p.2 = some (.tbl #[])) → SqL K H a (ns.map V.int) → sp [.ref a] H (fun v _ => v = .bl true) fun _ _ _ => False) ∧
      ∀ base : Heap, K.In base → base.Ns mainGlobals mg → (∀ p ∈ cs, LamX.TabB base mg p.1 p.2) → FnOk P w K mg base CX0 10 f fd ["script"] sp := by
  have d := c.t.d
  have ex := c.more
  obtain ⟨e1, ex⟩ := He.ba ex
  obtain ⟨e2, ex⟩ := He.ba ex
  obtain ⟨e3, ex⟩ := He.ba ex
  obtain ⟨e4, ex⟩ := He.ba ex
  obtain ⟨e5, ex⟩ := He.ba ex
  have e6 := ex
  obtain ⟨d_init, FD_init⟩ := d.def_ 0 (d := dInit) rfl
  obtain ⟨d_is_number, FD_is_number⟩ := d.def_ 1 (d := D_is_number) rfl
  obtain ⟨d_fraction, FD_fraction⟩ := d.def_ 2 (d := D_fraction) rfl
  obtain ⟨d_plus, FD_plus⟩ := d.def_ 3 (d := D_plus) rfl
  obtain ⟨d_normal_entries, FD_normal_entries⟩ := d.def_ 4 (d := D_normal_entries) rfl
  obtain ⟨d_normal_triples, FD_normal_triples⟩ := d.def_ 5 (d := D_normal_triples) rfl
  obtain ⟨d_normal_part, FD_normal_part⟩ := d.def_ 6 (d := D_normal_part) rfl
  obtain ⟨d_unit_of, FD_unit_of⟩ := d.def_ 7 (d := D_unit_of) rfl
  obtain ⟨d_expression_units, FD_expression_units⟩ := d.def_ 8 (d := D_expression_units) rfl
  obtain ⟨d__law_bag, FD__law_bag⟩ := d.def_ 9 (d := D__law_bag) rfl
  obtain ⟨d__law_draw, FD__law_draw⟩ := d.def_ 10 (d := D__law_draw) rfl
  obtain ⟨d__law_of, FD__law_of⟩ := d.def_ 11 (d := D__law_of) rfl
  obtain ⟨d__law_like, FD__law_like⟩ := d.def_ 12 (d := D__law_like) rfl
  obtain ⟨d__law_low, FD__law_low⟩ := d.def_ 13 (d := D__law_low) rfl
  obtain ⟨d__law_plus, FD__law_plus⟩ := d.def_ 14 (d := D__law_plus) rfl
  obtain ⟨d__law_times, FD__law_times⟩ := d.def_ 15 (d := D__law_times) rfl
  obtain ⟨d__law_normal, FD__law_normal⟩ := d.def_ 16 (d := D__law_normal) rfl
  obtain ⟨d__law_gifts, FD__law_gifts⟩ := d.def_ 17 (d := D__law_gifts) rfl
  obtain ⟨d__law_every, FD__law_every⟩ := d.def_ 18 (d := D__law_every) rfl
  obtain ⟨d__law_any_columns, FD__law_any_columns⟩ := d.def_ 19 (d := D__law_any_columns) rfl
  obtain ⟨d__law_ones, FD__law_ones⟩ := d.def_ 20 (d := D__law_ones) rfl
  obtain ⟨d__law_right, FD__law_right⟩ := d.def_ 21 (d := D__law_right) rfl
  obtain ⟨d__law_unlike_rows, FD__law_unlike_rows⟩ := d.def_ 22 (d := D__law_unlike_rows) rfl
  obtain ⟨d_law, FD_law⟩ := d.def_ 23 (d := D_law) rfl
  have F_init : Fun K "__init__" "BadValue.__init__" s_BadValue (bvI K) d_init := fun_ofD FD_init
  have F_is_number : Fun K "is_number" "is_number" s_is_number (He.ga K "is_number") d_is_number := fun_ofD FD_is_number
  have F_plus : Fun K "plus" "plus" s_plus (He.ga K "plus") d_plus := fun_ofD FD_plus
  have F_normal_entries : Fun K "normal_entries" "normal_entries" s_normal_entries (He.ga K "normal_entries") d_normal_entries := fun_ofD FD_normal_entries
  have F_normal_triples : Fun K "normal_triples" "normal_triples" s_normal_triples (He.ga K "normal_triples") d_normal_triples := fun_ofD FD_normal_triples
  have F_normal_part : Fun K "normal_part" "normal_part" s_normal_part (He.ga K "normal_part") d_normal_part := fun_ofD FD_normal_part
  have F_unit_of : Fun K "unit_of" "unit_of" s_unit_of (He.ga K "unit_of") d_unit_of := fun_ofD FD_unit_of
  have F_expression_units : Fun K "expression_units" "expression_units" s_expression_units (He.ga K "expression_units") d_expression_units := fun_ofD FD_expression_units
  have F__law_bag : Fun K "_law_bag" "_law_bag" s__law_bag (He.ga K "_law_bag") d__law_bag := fun_ofD FD__law_bag
  have F__law_draw : Fun K "_law_draw" "_law_draw" s__law_draw (He.ga K "_law_draw") d__law_draw := fun_ofD FD__law_draw
  have F__law_of : Fun K "_law_of" "_law_of" s__law_of (He.ga K "_law_of") d__law_of := fun_ofD FD__law_of
  have F__law_like : Fun K "_law_like" "_law_like" s__law_like (He.ga K "_law_like") d__law_like := fun_ofD FD__law_like
  have F__law_low : Fun K "_law_low" "_law_low" s__law_low (He.ga K "_law_low") d__law_low := fun_ofD FD__law_low
  have F__law_plus : Fun K "_law_plus" "_law_plus" s__law_plus (He.ga K "_law_plus") d__law_plus := fun_ofD FD__law_plus
  have F__law_times : Fun K "_law_times" "_law_times" s__law_times (He.ga K "_law_times") d__law_times := fun_ofD FD__law_times
  have F__law_normal : Fun K "_law_normal" "_law_normal" s__law_normal (He.ga K "_law_normal") d__law_normal := fun_ofD FD__law_normal
  have F__law_gifts : Fun K "_law_gifts" "_law_gifts" s__law_gifts (He.ga K "_law_gifts") d__law_gifts := fun_ofD FD__law_gifts
  have F__law_every : Fun K "_law_every" "_law_every" s__law_every (He.ga K "_law_every") d__law_every := fun_ofD FD__law_every
  have F__law_any_columns : Fun K "_law_any_columns" "_law_any_columns" s__law_any_columns (He.ga K "_law_any_columns") d__law_any_columns := fun_ofD FD__law_any_columns
  have F__law_ones : Fun K "_law_ones" "_law_ones" s__law_ones (He.ga K "_law_ones") d__law_ones := fun_ofD FD__law_ones
  have F__law_right : Fun K "_law_right" "_law_right" s__law_right (He.ga K "_law_right") d__law_right := fun_ofD FD__law_right
  have F__law_unlike_rows : Fun K "_law_unlike_rows" "_law_unlike_rows" s__law_unlike_rows (He.ga K "_law_unlike_rows") d__law_unlike_rows := fun_ofD FD__law_unlike_rows
  have F_law : Fun K "law" "law" s_law (He.ga K "law") d_law := fun_ofD FD_law
  have b_init := F_init.binds (ps := ["self", "value"]) fun _ _ _ _ _ _ us hl => match us, hl with | [_, _], _ => rfl
  have b_is_number := F_is_number.binds (ps := ["value"]) fun _ _ _ _ _ _ us hl => match us, hl with | [_], _ => rfl
  have b_plus := F_plus.binds (ps := ["a", "b"]) fun _ _ _ _ _ _ us hl => match us, hl with | [_, _], _ => rfl
  have b_normal_entries := F_normal_entries.binds (ps := ["entries"]) fun _ _ _ _ _ _ us hl => match us, hl with | [_], _ => rfl
  have b_normal_triples := F_normal_triples.binds (ps := ["triples"]) fun _ _ _ _ _ _ us hl => match us, hl with | [_], _ => rfl
  have b_normal_part := F_normal_part.binds (ps := ["kind", "part"]) fun _ _ _ _ _ _ us hl => match us, hl with | [_, _], _ => rfl
  have b_unit_of := F_unit_of.binds (ps := ["columns", "rest", "steep", "shift", "givings"]) fun _ _ _ _ _ _ us hl => match us, hl with | [_, _, _, _, _], _ => rfl
  have b_expression_units := F_expression_units.binds (ps := ["rows", "targets", "rest"]) fun _ _ _ _ _ _ us hl => match us, hl with | [_, _, _], _ => rfl
  have b__law_bag := F__law_bag.binds (ps := ["script"]) fun _ _ _ _ _ _ us hl => match us, hl with | [_], _ => rfl
  have b__law_draw := F__law_draw.binds (ps := ["bag", "size"]) fun _ _ _ _ _ _ us hl => match us, hl with | [_, _], _ => rfl
  have b__law_of := F__law_of.binds (ps := ["bag", "things"]) fun _ _ _ _ _ _ us hl => match us, hl with | [_, _], _ => rfl
  have b__law_like := F__law_like.binds (ps := ["got", "due"]) fun _ _ _ _ _ _ us hl => match us, hl with | [_, _], _ => rfl
  have b__law_low := F__law_low.binds (ps := ["top", "low"]) fun _ _ _ _ _ _ us hl => match us, hl with | [_, _], _ => rfl
  have b__law_plus := F__law_plus.binds (ps := ["one", "two"]) fun _ _ _ _ _ _ us hl => match us, hl with | [_, _], _ => rfl
  have b__law_times := F__law_times.binds (ps := ["one", "two"]) fun _ _ _ _ _ _ us hl => match us, hl with | [_, _], _ => rfl
  have b__law_normal := F__law_normal.binds (ps := ["things"]) fun _ _ _ _ _ _ us hl => match us, hl with | [_], _ => rfl
  have b__law_gifts := F__law_gifts.binds (ps := ["units", "content"]) fun _ _ _ _ _ _ us hl => match us, hl with | [_, _], _ => rfl
  have b__law_every := F__law_every.binds (ps := ["some"]) fun _ _ _ _ _ _ us hl => match us, hl with | [_], _ => rfl
  have b__law_any_columns := F__law_any_columns.binds (ps := ["bag", "many"]) fun _ _ _ _ _ _ us hl => match us, hl with | [_, _], _ => rfl
  have b__law_ones := F__law_ones.binds (ps := ["some"]) fun _ _ _ _ _ _ us hl => match us, hl with | [_], _ => rfl
  have b__law_right := F__law_right.binds (ps := ["bag"]) fun _ _ _ _ _ _ us hl => match us, hl with | [_], _ => rfl
  have b__law_unlike_rows := F__law_unlike_rows.binds (ps := ["bag"]) fun _ _ _ _ _ _ us hl => match us, hl with | [_], _ => rfl
  have b_law := F_law.binds (ps := ["script"]) fun _ _ _ _ _ _ us hl => match us, hl with | [_], _ => rfl
  have b_fraction : Binds K d_fraction ["p", "q"] [] := by
    obtain ⟨ds, hv, hb⟩ := FunD.binds1 (ps := ["p", "q"]) FD_fraction 2 1 (List.cons_ne_nil _ _) rfl fun _ _ _ _ _ _ _ us its h1 h2 => match us, its, h1, h2 with | [_, _], [_], _, _ => ⟨_, rfl, rfl⟩
    cases hv
    exact hb
  have dfl_fraction : ∃ ds, Vals [.int 1] ds ∧ Binds K d_fraction ["p", "q"] ds := FunD.binds1 (ps := ["p", "q"]) FD_fraction 1 0 (List.cons_ne_nil _ _) rfl fun _ _ _ _ _ _ _ us its h1 h2 => match us, its, h1, h2 with | [_], [_], _, _ => ⟨_, rfl, rfl⟩
  let T : Txt w K mg := {
    n_len := He.free_ok X G (d.fact 0 (f := .free "len") rfl)
    n_int := He.free_ok X G (d.fact 1 (f := .free "int") rfl)
    n_list := He.free_ok X G (d.fact 2 (f := .free "list") rfl)
    n_tuple := He.free_ok X G (d.fact 3 (f := .free "tuple") rfl)
    n_bool := He.free_ok X G (d.fact 4 (f := .free "bool") rfl)
    n_str := He.free_ok X G (d.fact 5 (f := .free "str") rfl)
    n_dict := He.free_ok X G (d.fact 6 (f := .free "dict") rfl)
    n_isinstance := He.free_ok X G (d.fact 7 (f := .free "isinstance") rfl)
    n_all := He.free_ok X G (d.fact 8 (f := .free "all") rfl)
    n_range := He.free_ok X G (d.fact 9 (f := .free "range") rfl)
    n_zip := He.free_ok X G (d.fact 10 (f := .free "zip") rfl)
    n_abs := He.free_ok X G (d.fact 11 (f := .free "abs") rfl)
    n_sorted := He.free_ok X G (d.fact 12 (f := .free "sorted") rfl)
    n_sum := He.free_ok X G (d.fact 13 (f := .free "sum") rfl)
    m_gcd := PySem.W.mg_of X G (He.eqO_ok e2)
    a_ZERO := He.ga K "ZERO"
    m_ZERO := He.glo_ok X G (d.fact 14 (f := .glo "ZERO") rfl)
    s_ZERO := fun H => He.tupB_ok e5 H
    a_ONE := He.ga K "ONE"
    m_ONE := He.glo_ok X G (d.fact 15 (f := .glo "ONE") rfl)
    s_ONE := fun H => He.tupB_ok e6 H
    C_BadValue := bvC K
    f_BadValue := bvI K
    d_BadValue := d_init
    m_BadValue := He.glo_ok X G (d.fact 16 (f := .glo "BadValue") rfl)
    X_BadValue := oexB_ok e1
    i_BadValue := He.eqO_ok e4
    t_BadValue := of_decide_eq_true e3
    F_BadValue := F_init
    B_BadValue__init := b_init
    v_BadValue := He.noat_ok (d.fact 40 (f := .noat "BadValue" "value") rfl)
    c_BadValue := He.noat_ok (d.fact 41 (f := .noat "BadValue" "code") rfl)
    a_is_number := He.ga K "is_number"
    d_is_number := d_is_number
    F_is_number := F_is_number
    m_is_number := He.glo_ok X G (d.fact 17 (f := .glo "is_number") rfl)
    B_is_number := b_is_number
    a_fraction := He.ga K "fraction"
    d_fraction := d_fraction
    F_fraction := FD_fraction
    m_fraction := He.glo_ok X G (d.fact 18 (f := .glo "fraction") rfl)
    B_fraction := b_fraction
    a_plus := He.ga K "plus"
    d_plus := d_plus
    F_plus := F_plus
    m_plus := He.glo_ok X G (d.fact 19 (f := .glo "plus") rfl)
    B_plus := b_plus
    a_normal_entries := He.ga K "normal_entries"
    d_normal_entries := d_normal_entries
    F_normal_entries := F_normal_entries
    m_normal_entries := He.glo_ok X G (d.fact 20 (f := .glo "normal_entries") rfl)
    B_normal_entries := b_normal_entries
    a_normal_triples := He.ga K "normal_triples"
    d_normal_triples := d_normal_triples
    F_normal_triples := F_normal_triples
    m_normal_triples := He.glo_ok X G (d.fact 21 (f := .glo "normal_triples") rfl)
    B_normal_triples := b_normal_triples
    a_normal_part := He.ga K "normal_part"
    d_normal_part := d_normal_part
    F_normal_part := F_normal_part
    m_normal_part := He.glo_ok X G (d.fact 22 (f := .glo "normal_part") rfl)
    B_normal_part := b_normal_part
    a_unit_of := He.ga K "unit_of"
    d_unit_of := d_unit_of
    F_unit_of := F_unit_of
    m_unit_of := He.glo_ok X G (d.fact 23 (f := .glo "unit_of") rfl)
    B_unit_of := b_unit_of
    a_expression_units := He.ga K "expression_units"
    d_expression_units := d_expression_units
    F_expression_units := F_expression_units
    m_expression_units := He.glo_ok X G (d.fact 24 (f := .glo "expression_units") rfl)
    B_expression_units := b_expression_units
    a__law_bag := He.ga K "_law_bag"
    d__law_bag := d__law_bag
    F__law_bag := F__law_bag
    m__law_bag := He.glo_ok X G (d.fact 25 (f := .glo "_law_bag") rfl)
    B__law_bag := b__law_bag
    a__law_draw := He.ga K "_law_draw"
    d__law_draw := d__law_draw
    F__law_draw := F__law_draw
    m__law_draw := He.glo_ok X G (d.fact 26 (f := .glo "_law_draw") rfl)
    B__law_draw := b__law_draw
    a__law_of := He.ga K "_law_of"
    d__law_of := d__law_of
    F__law_of := F__law_of
    m__law_of := He.glo_ok X G (d.fact 27 (f := .glo "_law_of") rfl)
    B__law_of := b__law_of
    a__law_like := He.ga K "_law_like"
    d__law_like := d__law_like
    F__law_like := F__law_like
    m__law_like := He.glo_ok X G (d.fact 28 (f := .glo "_law_like") rfl)
    B__law_like := b__law_like
    a__law_low := He.ga K "_law_low"
    d__law_low := d__law_low
    F__law_low := F__law_low
    m__law_low := He.glo_ok X G (d.fact 29 (f := .glo "_law_low") rfl)
    B__law_low := b__law_low
    a__law_plus := He.ga K "_law_plus"
    d__law_plus := d__law_plus
    F__law_plus := F__law_plus
    m__law_plus := He.glo_ok X G (d.fact 30 (f := .glo "_law_plus") rfl)
    B__law_plus := b__law_plus
    a__law_times := He.ga K "_law_times"
    d__law_times := d__law_times
    F__law_times := F__law_times
    m__law_times := He.glo_ok X G (d.fact 31 (f := .glo "_law_times") rfl)
    B__law_times := b__law_times
    a__law_normal := He.ga K "_law_normal"
    d__law_normal := d__law_normal
    F__law_normal := F__law_normal
    m__law_normal := He.glo_ok X G (d.fact 32 (f := .glo "_law_normal") rfl)
    B__law_normal := b__law_normal
    a__law_gifts := He.ga K "_law_gifts"
    d__law_gifts := d__law_gifts
    F__law_gifts := F__law_gifts
    m__law_gifts := He.glo_ok X G (d.fact 33 (f := .glo "_law_gifts") rfl)
    B__law_gifts := b__law_gifts
    a__law_every := He.ga K "_law_every"
    d__law_every := d__law_every
    F__law_every := F__law_every
    m__law_every := He.glo_ok X G (d.fact 34 (f := .glo "_law_every") rfl)
    B__law_every := b__law_every
    a__law_any_columns := He.ga K "_law_any_columns"
    d__law_any_columns := d__law_any_columns
    F__law_any_columns := F__law_any_columns
    m__law_any_columns := He.glo_ok X G (d.fact 35 (f := .glo "_law_any_columns") rfl)
    B__law_any_columns := b__law_any_columns
    a__law_ones := He.ga K "_law_ones"
    d__law_ones := d__law_ones
    F__law_ones := F__law_ones
    m__law_ones := He.glo_ok X G (d.fact 36 (f := .glo "_law_ones") rfl)
    B__law_ones := b__law_ones
    a__law_right := He.ga K "_law_right"
    d__law_right := d__law_right
    F__law_right := F__law_right
    m__law_right := He.glo_ok X G (d.fact 37 (f := .glo "_law_right") rfl)
    B__law_right := b__law_right
    a__law_unlike_rows := He.ga K "_law_unlike_rows"
    d__law_unlike_rows := d__law_unlike_rows
    F__law_unlike_rows := F__law_unlike_rows
    m__law_unlike_rows := He.glo_ok X G (d.fact 38 (f := .glo "_law_unlike_rows") rfl)
    B__law_unlike_rows := b__law_unlike_rows
    a_law := He.ga K "law"
    d_law := d_law
    F_law := F_law
    m_law := He.glo_ok X G (d.fact 39 (f := .glo "law") rfl)
    B_law := b_law
    D_fraction := dfl_fraction
    Z_expression_units := kb_of F_expression_units (n := 0) (ks := ["rest", "targets", "rows"]) (ps := ["rows", "targets", "rest"]) (fun _ ws => rv3 ws) (fun _ h => rv3_rel h) fun _ _ _ _ _ _ us ws h1 h2 => match us, ws, h1, h2 with | [], [_, _, _], _, _ => rfl
  }
  have ef : f = He.ga K "law" := by
    have e := hfa.symm.trans T.m_law
    cases e
    rfl
  refine ⟨d_law, [], sp_law K, fun p hp => absurd hp (by simp), fun p hp => absurd hp (by simp), fun p hp => absurd hp (by simp), fun s u => FunD.bindsA (ps := ["script"]) FD_law (fun _ _ _ _ _ _ us hl => match us, hl with | [_], _ => rfl) s [u] rfl, fun H a ns hl _ hT hS => ⟨a, ns, rfl, hS, hl, fun _ => rfl⟩, fun base _ _ hB => ?_⟩
  rw [ef]
  exact ok_law (P := P) (base := base) T
/-! ### the head's run -/
abbrev R : PySem.W.OpenRow := PySem.W.OpenLaw.row PySem.Challenge.rw_lookingnets_k26_expression_units_bear
abbrev hk : PySem.W.Hook := He.hookX 6 faL fnL [] [] exB
def ob (s : PySem.W.SharedT) : He.AlX := He.obsX 6 faL fnL [] [] exB (HandSHeadRun.getT s)
theorem ob_eq (s : PySem.W.SharedT) : ob s = hk.obs s.abs := He.obsX_eq (HandSHeadRun.getT_eq s)
def loose : List Str := (["NetError", "BadValue", "ZERO", "ONE", "is_number", "fraction", "plus", "normal_entries", "normal_triples", "normal_part", "unit_of", "expression_units", "_law_bag", "_law_draw", "_law_of", "_law_like"] : List Str) ++ (["_law_low", "_law_plus", "_law_times", "_law_normal", "_law_gifts", "_law_every", "_law_any_columns", "_law_ones", "_law_right", "_law_unlike_rows"] : List Str)
set_option maxHeartbeats 0 in
theorem run (w : World) : HandSHeadRun.RunEqI R (PySem.W.view R.prog [0, 32]) hk ob 20000 loose w := by
  unfold HandSHeadRun.RunEqI
  kernel_rfl
end LK

open PySem PySem.W PySem.Calls PyProof.Rows
set_option maxRecDepth 100000 in
set_option maxHeartbeats 0 in
theorem PySem.Challenge.cw_lookingnets_k26_expression_units_bear_holds : PySem.Challenge.rw_lookingnets_k26_expression_units_bear.Holds := by
  w_on; o_law
  refine HandSHeadRun.head_imp (r := OpenLaw.row PySem.Challenge.rw_lookingnets_k26_expression_units_bear) (q := view (OpenLaw.row PySem.Challenge.rw_lookingnets_k26_expression_units_bear).prog [0, 32]) (H := LK.hk) (ob := LK.ob) (M := 20000) (loose := LK.loose) (d := HandSHeadRun.topDef (OpenLaw.row PySem.Challenge.rw_lookingnets_k26_expression_units_bear).prog 32) (kwd := []) LK.ob_eq
    LK.run (by kernel_rfl) (by kernel_rfl) (by kernel_rfl) (by rfl) (by first | assumption | decide +kernel) (by decide +kernel) ⟨rfl, rfl, rfl, rfl, rfl, by decide +kernel⟩ ?hw ?hc
  case hw => w_witness2
  case hc =>
    refine LamX.walk_ofTsE (l := PySem.Challenge.rw_lookingnets_k26_expression_units_bear) (n := 63) (k := 10) (x := "script") (CX := fun _ => L2.CX0) rfl (by decide) (by kernel_rfl) ⟨rfl, by decide, by decide⟩ ?F (fun _ _ _ _ _ z => z)
    intro w mg fa h Y G hmg0
    obtain ⟨K, KX, c⟩ := Y
    have hmg : mg ("law" : PySem.Str) = some (.ref fa) := by
      have e : (HandSHeadRun.topDef (OpenLaw.row PySem.Challenge.rw_lookingnets_k26_expression_units_bear).prog 32).name = ("law" : PySem.Str) := by kernel_rfl
      rw [← e]
      exact hmg0
    exact ⟨K, KX, LK.facts KX G hmg c⟩
