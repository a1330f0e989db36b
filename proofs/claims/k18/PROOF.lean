import PyProof.Rows.All
import Wide.All
import OpenK.AllK
import Wide.FinOn
import HandS.ForMost
import HandS.IsInst
import HandS.Zip
import HandS.TupAny
import HandS.Style
import HandS.More
import HandS.Defaults
import HandS.Walk
import KE.GoesMore
import HandS.Deep
import HandS.ExcInit
import HandS.Gcd
import HandS.Wide
import HandS.WordsExc
import HandS.HeadHook4
import HandS.HeadWalk
import HandS.Head2
import HandS.Head3
import HandS.Lambda
import PySem.Challenge.RW_lookingnets_k18_whole_scores_and_looks
set_option Elab.async false
set_option linter.all false
set_option maxRecDepth 100000
namespace LK
open PySem PySem.Spec PyProof.Rows L2
/-! ### heaps but for one object -/
def hb (H : Hp) (b : Addr) : Hp := fun a => if a = b then none else H a
theorem hb_ne {H : Hp} {a b : Addr} (h : a ≠ b) : hb H b a = H a := if_neg h
theorem hb_same {H : Hp} {b : Addr} : hb H b b = none := if_pos rfl
theorem hb_some {H : Hp} {a b : Addr} {o : HO} (h : hb H b a = some o) : a ≠ b ∧ H a = some o := by
  unfold hb at h
  split at h
  · cases h
  · exact ⟨by assumption, h⟩
theorem hb_le (H : Hp) (b : Addr) : Same (hb H b) H := fun _ _ h => (hb_some h).2
/-- all but b stays -/
abbrev Kp (b : Addr) (H H' : Hp) : Prop := Same (hb H b) (hb H' b)
theorem Kp.of {b : Addr} {H H' : Hp} (s : Same H H') : Kp b H H' := fun a o h => by
  obtain ⟨h1, h2⟩ := hb_some h
  rw [hb_ne h1]
  exact s _ _ h2
theorem Kp.refl (b : Addr) (H : Hp) : Kp b H H := Same.refl _
theorem Kp.upd {b : Addr} {H : Hp} {o : HO} : Kp b H (upd H b o) := fun a u h => by
  obtain ⟨h1, h2⟩ := hb_some h
  rw [hb_ne h1, upd_ne h1]
  exact h2
theorem Kp.hd {b a : Addr} {H H' : Hp} {o : HO} (k : Kp b H H') (h : H a = some o) (n : a ≠ b) : H' a = some o := (hb_some (k a o (by rw [hb_ne n]; exact h))).2
/-- a new object -/
theorem al {H : Hp} {R : Addr → Hp → Prop} {o : HO} (h : ∀ p H1, Same H H1 → H1 p = some o → H p = none → R p H1) : ∀ p, H p = none → R p (upd H p o) := fun p hp =>
  h p _ (fun a u e => by rw [upd_ne (ne_of_none e hp)]; exact e) upd_same hp
theorem same_upd {H : Hp} {p : Addr} {o : HO} (hp : H p = none) : Same H (upd H p o) := fun a u e => by rw [upd_ne (ne_of_none e hp)]; exact e
theorem at_ofN {α : Type} {xs : List α} {z : Int} {j : Nat} {v : α} (e : z = (j : Int)) (h : xs[j]? = some v) : atI xs z = some v := by
  subst e
  exact atI_nat h
/-! ### the bag of a law -/
def Bag (N : Nat) (H : Hp) (b c : Addr) : Prop := ∃ (cells : List Int) (i g m n : Int), H b = some (.lst [.ref c, .int i, .int g, .int m, .int n]) ∧ H c = some (.lst (cells.map V.int)) ∧ c ≠ b ∧ 0 ≤ i ∧ 0 ≤ m ∧ m < 2305843009213693951 ∧ 0 ≤ n ∧ n + N ≤ 1099511627776
theorem Bag.le {N M : Nat} {H : Hp} {b c : Addr} (B : Bag N H b c) (h : M ≤ N) : Bag M H b c := by
  obtain ⟨cells, i, g, m, n, h1, h2, h3, h4, h5, h6, h7, h8⟩ := B
  exact ⟨cells, i, g, m, n, h1, h2, h3, h4, h5, h6, h7, by omega⟩
theorem Bag.same {N : Nat} {H H' : Hp} {b c : Addr} (B : Bag N H b c) (s : Same H H') : Bag N H' b c := by
  obtain ⟨cells, i, g, m, n, h1, h2, h3⟩ := B
  exact ⟨cells, i, g, m, n, s _ _ h1, s _ _ h2, h3⟩
theorem Bag.at {N : Nat} {H : Hp} {b c : Addr} (B : Bag N H b c) : ∃ xs, H b = some (.lst xs) := by
  obtain ⟨cells, i, g, m, n, h1, _⟩ := B
  exact ⟨_, h1⟩
theorem Bag.at2 {N : Nat} {H : Hp} {b c : Addr} (B : Bag N H b c) : ∃ xs, H c = some (.lst xs) := by
  obtain ⟨cells, i, g, m, n, h1, h2, _⟩ := B
  exact ⟨_, h2⟩
/-- another object is stored -/
theorem Bag.upd {N : Nat} {H : Hp} {b c p : Addr} {o : HO} (B : Bag N H b c) (n1 : b ≠ p) (n2 : c ≠ p) : Bag N (upd H p o) b c := by
  obtain ⟨cells, i, g, m, n, h1, h2, h3⟩ := B
  exact ⟨cells, i, g, m, n, by rw [upd_ne n1]; exact h1, by rw [upd_ne n2]; exact h2, h3⟩
/-- a new object beside a bag -/
theorem alB {N : Nat} {H : Hp} {R : Addr → Hp → Prop} {o : HO} {b c : Addr} (B : Bag N H b c) (h : ∀ p H1, Kp b H H1 → Bag N H1 b c → hb H1 b p = some o → Same H H1 → H p = none → R p H1) : ∀ p, H p = none → R p (upd H p o) :=
  al fun p H1 s h1 h0 => h p H1 (Kp.of s) (B.same s) (by
    have n : p ≠ b := fun e => by
      obtain ⟨xs, q⟩ := B.at
      rw [e, q] at h0; cases h0
    rw [hb_ne n]; exact h1) s h0
/-! ### data -/
theorem Same.seqT {K : PySem.W.Frag} {H H' : Hp} {a : Addr} {xs : List V} (e : Same H H') (h : SqT K H a xs) : SqT K H' a xs := by
  rcases h with (h | ⟨o, h⟩) | h
  · exact .inl (.inl (e _ _ h))
  · exact .inl (.inr ⟨o, e _ _ h⟩)
  · exact .inr h
mutual
theorem dp_same {K : PySem.W.Frag} {H H' : Hp} (e : Same H H') : ∀ {d : PyData} {v : V}, Dp K H v d → Dp K H' v d
  | .none, _, h => by cases h; exact .non
  | .bool _, _, h => by cases h; exact .bl _
  | .int _, _, h => by cases h; exact .int _
  | .str _, _, h => by cases h; exact .str _
  | .list ds, _, h => by cases h with | lst a b => exact .lst (L2.Same.seq e a) (dpa_same e b)
  | .tuple ds, _, h => by cases h with | tup a b => exact .tup (Same.seqT e a) (dpa_same e b)
  | .dict _, _, h => by cases h
theorem dpa_same {K : PySem.W.Frag} {H H' : Hp} (e : Same H H') : ∀ {ds : List PyData} {vs : List V}, DpAll K H vs ds → DpAll K H' vs ds
  | [], _, h => by cases h; exact .nil
  | _ :: _, _, h => by cases h with | cons a b => exact .cons (dp_same e a) (dpa_same e b)
end
end LK
namespace LK
open PySem PySem.Spec PyProof.Rows L2
section
variable {CX : CXT} {P : Program} {w : World} {K : PySem.W.Frag} {mg : Str → Option Value} {base : Heap} {N : List Str} {q : Str} {sc : Scope} {f : Addr} {cd : Value} {A : Around} {outer : List Env} {s : Shared} {H : Hp} {E : XK}
theorem cxK : (cxOf CX P w K mg base N q sc f cd A outer s H E).K = K := rfl
theorem cxNK : (cxOf CX P w K mg base N q sc f cd A outer s H E).nox.K = K := rfl
theorem cxW : (cxOf CX P w K mg base N q sc f cd A outer s H E).w = w := rfl
end
theorem cut_seq {t u : TS} {D : Ends} {σ : L2.St} {H : Hp} (Mid : L2.St → Hp → Prop) (h1 : ∀ N : L2.St → Hp → Prop, (∀ σ' H', Mid σ' H' → N σ' H') → t { D with nx := N } σ H) (h2 : ∀ σ' H', Mid σ' H' → u D σ' H') : tSeq t u D σ H := h1 _ h2
end LK
namespace LK
open PySem PySem.Spec PyProof.Rows L2
theorem seq_op {t u : TS} {D : Ends} {σ : L2.St} {H : Hp} (h : ∀ N : L2.St → Hp → Prop, (∀ σ' H', u D σ' H' → N σ' H') → t { D with nx := N } σ H) : tSeq t u D σ H := h _ fun _ _ z => z
end LK
namespace LK
open PySem PySem.Spec PyProof.Rows L2
section
variable {X : Cx}
theorem opr_imp {f : Value → Value → Sem Value} {r r' : R2} (h : OpR X f r) (i : ∀ x y H Q, r' x y H Q → r x y H Q) : OpR X f r' := fun pins s σ H x y v u Q I rx ry q => h pins s σ H x y v u Q I rx ry (i _ _ _ _ q)
theorem cr_imp {f : Value} {r r' : List V → Hp → VK → Prop} (h : CallR X f r) (i : ∀ x H Q, r' x H Q → r x H Q) : CallR X f r' := fun pins s σ H xs us Q I rx q => h pins s σ H xs us Q I rx (i _ _ _ q)
theorem op_eqI : OpR X (compareOp .Eq) (rI0 fun i j => .bl (decide (i = j))) := opr_imp op_eq fun x y H Q h => by
  obtain ⟨i, j, rfl, rfl, q⟩ := h
  refine ⟨rfl, ?_⟩
  rw [L2.dec_int, Bool.beq_eq_decide_eq]; exact q
theorem op_neI : OpR X (compareOp .NotEq) (rI0 fun i j => .bl (!decide (i = j))) := opr_imp op_ne fun x y H Q h => by
  obtain ⟨i, j, rfl, rfl, q⟩ := h
  refine ⟨rfl, ?_⟩
  rw [L2.dec_int, Bool.beq_eq_decide_eq]; exact q
def rS0 (g : Str → Str → V) : R2 := fun x y H Q => ∃ i j, x = .str i ∧ y = .str j ∧ Q (g i j) H
theorem op_eqS : OpR X (compareOp .Eq) (rS0 fun i j => .bl (decide (i = j))) := opr_imp op_eq fun x y H Q h => by
  obtain ⟨i, j, rfl, rfl, q⟩ := h
  refine ⟨rfl, ?_⟩
  have e : decide (V.str i = V.str j) = decide (i = j) := by
    by_cases c : i = j
    · subst c; simp
    · rw [decide_eq_false c, decide_eq_false (fun z => c (V.str.inj z))]
  rw [e]; exact q
theorem op_neS : OpR X (compareOp .NotEq) (rS0 fun i j => .bl (!decide (i = j))) := opr_imp op_ne fun x y H Q h => by
  obtain ⟨i, j, rfl, rfl, q⟩ := h
  refine ⟨rfl, ?_⟩
  have e : decide (V.str i = V.str j) = decide (i = j) := by
    by_cases c : i = j
    · subst c; simp
    · rw [decide_eq_false c, decide_eq_false (fun z => c (V.str.inj z))]
  rw [e]; exact q
def rB0 (g : Bool → Bool → V) : R2 := fun x y H Q => ∃ i j, x = .bl i ∧ y = .bl j ∧ Q (g i j) H
theorem op_eqB : OpR X (compareOp .Eq) (rB0 fun i j => .bl (i == j)) := opr_imp op_eq fun x y H Q h => by
  obtain ⟨i, j, rfl, rfl, q⟩ := h
  refine ⟨rfl, ?_⟩
  rw [L2.dec_bl]; exact q
theorem op_neB : OpR X (compareOp .NotEq) (rB0 fun i j => .bl (!(i == j))) := opr_imp op_ne fun x y H Q h => by
  obtain ⟨i, j, rfl, rfl, q⟩ := h
  refine ⟨rfl, ?_⟩
  rw [L2.dec_bl]; exact q
/-- int(n) of an int -/
theorem call_intI : CallR X (.type "int") (fun xs H Q => ∃ i, xs = [.int i] ∧ Q (.int i) H) := cr_imp call_int1 fun xs H Q h => .inl h
end
end LK
namespace LK
open PySem PySem.Spec PyProof.Rows L2
/-! ### isinstance of data -/
def tyN : PyData → String
  | .none => "NoneType" | .bool _ => "bool" | .int _ => "int" | .str _ => "str" | .list _ => "list" | .tuple _ => "tuple" | .dict _ => "dict"
def isTy (T : String) : PyData → Bool
  | .none => false | .bool _ => T == "bool" || T == "int" | .int _ => T == "int" | .str _ => T == "str" | .list _ => T == "list" | .tuple _ => T == "tuple" | .dict _ => false
theorem dp_ty {K : PySem.W.Frag} {H : Hp} {v : V} {d : PyData} (h : Dp K H v d) : TyX K H v (.type (tyN d)) := by
  cases h with
  | non => exact .base .non
  | bl b => exact .base (.bl b)
  | int i => exact .base (.int i)
  | str x => exact .base (.str x)
  | lst hs _ =>
    rcases hs with (h | ⟨o, h⟩) | ⟨o, its, n, h1, h2, _⟩
    · exact .base (.lst h)
    · exact .base (.frz h)
    · exact .kList h1 h2
  | tup hs _ =>
    rcases hs with (h | ⟨o, h⟩) | ⟨o, its, n, h1, h2, _⟩
    · exact .base (.tup h)
    · exact .fTuple h
    · exact .kTuple h1 h2
theorem dp_kit {K : PySem.W.Frag} {H : Hp} {v : V} {d : PyData} (h : Dp K H v d) {T : String} (hT : T ∈ ["str", "int", "bool", "list", "tuple"]) : PySem.W.kitOne K (.type (tyN d)) (.type T) = some (isTy T d) := by
  refine kit_ty ?_
  simp only [List.mem_cons, List.mem_nil_iff, or_false] at hT
  cases h <;> rcases hT with rfl | rfl | rfl | rfl | rfl <;> (simp only [tyN, isTy]; decide +kernel)
section
variable {X : Cx}
theorem call_isiD : CallR X (.builtin "isinstance") (fun xs H Q => ∃ x T d, xs = [x, .ty T] ∧ Dp X.K H x d ∧ T ∈ ["str", "int", "bool", "list", "tuple"] ∧ Q (.bl (isTy T d)) H) := cr_imp call_isi fun xs H Q h => by
  obtain ⟨x, T, d, rfl, hd, hT, q⟩ := h
  exact ⟨x, .ty T, _, _, _, rfl, .ty T, dp_ty hd, dp_kit hd hT, q⟩
theorem call_isiDT : CallR X (.builtin "isinstance") (fun xs H Q => ∃ x tp d, xs = [x, .ref tp] ∧ H tp = some (.tup [.ty "list", .ty "tuple"]) ∧ Dp X.K H x d ∧ Q (.bl (isTy "list" d || isTy "tuple" d)) H) := cr_imp call_isiT fun xs H Q h => by
  obtain ⟨x, tp, d, rfl, ht, hd, q⟩ := h
  refine ⟨x, tp, _, .type (tyN d), [.type "list", .type "tuple"], _, rfl, ht, .cons (.ty _) (.cons (.ty _) .nil), dp_ty hd, ?_, q⟩
  have h1 := dp_kit hd (T := "list") (by simp)
  have h2 := dp_kit hd (T := "tuple") (by simp)
  unfold PySem.W.kitAny PySem.W.kitAny PySem.W.kitAny
  rw [h1, h2]
  cases isTy "list" d <;> cases isTy "tuple" d <;> rfl
/-- len of data -/
theorem call_lenD : CallR X (.builtin "len") (fun xs H Q => ∃ x d, xs = [x] ∧ Dp X.K H x d ∧ ((∃ ds, (d = .list ds ∨ d = .tuple ds) ∧ Q (.int ds.length) H) ∨ ∃ z, d = .str z ∧ z.length ≤ sizeLine ∧ Q (.int z.length) H)) := cr_imp call_len fun xs H Q h => by
  obtain ⟨x, d, rfl, hd, ⟨ds, e, q⟩ | ⟨z, rfl, hz, q⟩⟩ := h
  · have ln : ∀ {vs : List V} {es : List PyData}, DpAll X.K H vs es → vs.length = es.length := by
      intro vs es h
      induction es generalizing vs with
      | nil => cases h; rfl
      | cons a r ih => cases h with | cons _ h2 => simp [ih h2]
    rcases e with rfl | rfl
    · cases hd with
      | lst hs ha => exact ⟨_, ds.length, rfl, .inl ⟨_, hs, (ln ha).symm⟩, q⟩
    · cases hd with
      | tup hs ha => exact ⟨_, ds.length, rfl, .inr ⟨_, hs, (ln ha).symm⟩, q⟩
  · cases hd
    exact ⟨_, z.length, rfl, ⟨hz, rfl⟩, q⟩
/-- t[lo:hi] of a tuple: some tuple of that content -/
def rSlU (K : PySem.W.Frag) : V → Option Int → Option Int → Hp → VK → Prop := fun x lo hi H Q => ∃ a xs, x = .ref a ∧ SqT K H a xs ∧ ∀ q H', Same H H' → SqT K H' q (cutV xs lo hi) → Q (.ref q) H'
theorem sl_tupU : SlR X (rSlU X.K) := by
  intro pins s σ H x v vl vu lo hi sl Q I rx hs pl pu h
  obtain ⟨a, xs, rfl, hx, q⟩ := h
  refine sl_tupA pins s σ H _ v vl vu lo hi sl Q I rx hs pl pu ⟨a, xs, rfl, hx, fun hw => q a H (Same.refl H) ?_, fun hw p hp => q p _ (fun b o e => ?_) (.inl (.inl upd_same))⟩
  · have e : cutV xs lo hi = xs := by
      unfold cutV
      rw [hw.1, hw.2]
      simp
    rw [e]; exact hx
  · rw [upd_ne (ne_of_none e hp)]; exact e
def rCatU (K : PySem.W.Frag) : R2 := fun x y H Q => ∃ a b xs ys, x = .ref a ∧ y = .ref b ∧ SqT K H a xs ∧ SqT K H b ys ∧ xs.length + ys.length ≤ sizeLine ∧ ∀ q H', Same H H' → SqT K H' q (xs ++ ys) → Q (.ref q) H'
theorem op_catU : OpR X (binaryOp .Add) (rCatU X.K) := opr_imp op_catA fun x y H Q h => by
  obtain ⟨a, b, xs, ys, rfl, rfl, ha, hb, hz, q⟩ := h
  refine ⟨a, b, xs, ys, rfl, rfl, ha, hb, hz, fun e => q b H (Same.refl H) ?_, fun _ e => q a H (Same.refl H) ?_, fun _ _ p hp => q p _ (fun c o e => ?_) (.inl (.inl upd_same))⟩
  · subst e; exact hb
  · subst e; rw [List.append_nil]; exact ha
  · rw [upd_ne (ne_of_none e hp)]; exact e
/-- tuple(x) of a list or tuple -/
theorem call_tupleU : CallR X (.type "tuple") (fun xs H Q => ∃ p ys, xs = [.ref p] ∧ (SqL X.K H p ys ∨ SqT X.K H p ys) ∧ ∀ q H', Same H H' → SqT X.K H' q ys → Q (.ref q) H') := cr_imp call_tuple_of fun xs H Q h => by
  obtain ⟨p, ys, rfl, h, q⟩ := h
  refine ⟨p, ys, rfl, ?_⟩
  rcases h with h | h
  · exact .inl ⟨h, fun l hl => q l _ (fun c o e => by rw [upd_ne (ne_of_none e hl)]; exact e) (.inl (.inl upd_same))⟩
  · exact .inr ⟨h, q p H (Same.refl H) h⟩
end
/-! ### calls by keywords alone -/
def tCallZ (m : Nat) (sp : Sp) (gV : List V → List V) (E : XK) (tk : TA) : TE := fun σ H Q => tk σ H fun zs H2 => zs.length = m ∧ sp (gV zs) H2 Q E
section
variable {X : Cx} {CX : CXT} {k : Nat} {f : Addr} {fd : FuncData} {ps ks : List Str} {sp : Sp} {E : XK} {x : Str} {p pos : Pos} {kws : List Keyword} {tk : TA} {g : List Value → List Value} {gV : List V → List V}
/-- f(k = v, ..) -/
theorem pe_callZ (F : FnOk X.prog X.w X.K X.mg X.base CX k f fd ps sp) (hr : Room k X.A) (hg : Gl X x) (hm : X.mg x = some (.ref f)) (hk : PySem.W.keepIn X.K (.ref f) = true) (hb : KBn X.K fd ps 0 ks (fun _ ws => g ws) (fun _ zs => gV zs)) (hx : Passes CX X E)
    (hkw : PK X kws tk) (hall : (backToKw pos (keywordEach kws X.env)).all (·.1.isSome) = true := by rfl) (hks : (backToKw pos (keywordEach kws X.env)).filterMap (·.1) = ks := by rfl)
    (hdb : (x == ("__debug__" : Str)) = false := by decide)
    (hpl : ((backTo pos (starEach [] X.env)).any (·.1) || (backToKw pos (keywordEach kws X.env)).any (·.1.isNone)) = false := by rfl) :
    PE X (.Call (.Name x p) [] kws pos) (tCallZ ks.length sp gV E tk) := by
  refine ⟨fun pins s σ H Q I h => ?_⟩
  refine wpAny_Call_Name_kw (ld_glob I hg hm ?_ hdb)
  refine PySem.W.callWith_KW0 (h₀ := X.base) I.ok.mod.kin hk hall (thn (hkw.run pos pins s σ H _ I h) fun ws s2 ⟨zs, H2, I2, rz, l2, q2⟩ => ⟨I2.kIn, ?_⟩) hpl
  rw [hks]
  exact run_fnN F hr hb hx I2 .nil rz rfl l2 q2
end
theorem kb_of {K : PySem.W.Frag} {x qual : Str} {st : Stmt} {f : Addr} {fd : FuncData} {ps : List Str} (F : Fun K x qual st f fd) {n : Nat} {ks : List Str} (g : {α : Type} → List α → List α → List α)
    (hrel : ∀ {vs zs : List V} {us ws : List Value}, Vals vs us → Vals zs ws → Vals (g vs zs) (g us ws))
    (h : ∀ (kV doc pm : Value) (an : Option Addr) (cdv ct : Value) (us ws : List Value), us.length = n → ws.length = ks.length → bindArgs (PySem.W.fnOf x qual (defArgs st) (defBody st) (defScope st) .none kV doc pm an cdv ct) ⟨us, ks.zip ws⟩ = pure (ps.zip (g us ws))) : KBn K fd ps n ks (fun us ws => g us ws) (fun vs zs => g vs zs) := by
  obtain ⟨oc, od, kV, doc, pm, an, cdv, ct, osl, rfl, lk, hcd⟩ := F.ex
  exact ⟨fun s us ws _ l1 l2 => .of_eq (h kV doc pm an cdv ct us ws l1 l2), hrel⟩
end LK

namespace LK
open PySem PySem.Spec PyProof.Rows L2
/-! ### t[::-1] of a tuple -/
theorem fm_map {α β : Type} {f : α → Option β} {g : α → β} : ∀ {l : List α}, (∀ m ∈ l, f m = some (g m)) → l.filterMap f = l.map g
  | [], _ => rfl
  | a :: l, h => by
    rw [List.filterMap_cons, h a List.mem_cons_self]
    exact congrArg (g a :: ·) (fm_map fun m hm => h m (List.mem_cons_of_mem _ hm))
theorem rev_pick (xs : Array Value) : ((List.range xs.size).filterMap fun (m : Nat) => xs[(((xs.size : Int) - 1) + (m : Int) * (-1)).toNat]?).toArray = xs.toList.reverse.toArray := by
  have e : ((List.range xs.size).filterMap fun (m : Nat) => xs[(((xs.size : Int) - 1) + (m : Int) * (-1)).toNat]?) = xs.toList.reverse := by
    have h : ∀ m ∈ List.range xs.size, (xs[(((xs.size : Int) - 1) + (m : Int) * (-1)).toNat]?) = some (xs.toList.reverse.getD m .none) := by
      intro m hm
      have hm := List.mem_range.mp hm
      have e1 : (((xs.size : Int) - 1) + (m : Int) * (-1)).toNat = xs.size - 1 - m := by omega
      rw [e1, List.getD_eq_getElem?_getD, List.getElem?_reverse (by simpa using hm)]
      rw [Array.getElem?_eq_getElem (by omega), Array.length_toList, List.getElem?_eq_getElem (by rw [Array.length_toList]; omega)]
      rfl
    rw [fm_map h]
    refine List.ext_getElem? fun i => ?_
    rw [List.getElem?_map]
    by_cases hi : i < xs.size
    · rw [List.getElem?_range hi, List.getElem?_eq_getElem (by simpa using hi)]
      simp [List.getElem?_eq_getElem, hi]
    · rw [List.getElem?_eq_none (by simpa using hi), List.getElem?_eq_none (by simpa using hi)]
      rfl
  rw [e]
section
variable {prog : Program} {w : World} {A : Around} {E : Value → Shared → Prop} {s : Shared}
theorem sliceApplied_rev {sl : Addr} {vl vu vs : Value} {n : Nat} {Q : Int × Int × Nat → Shared → Prop} (hs : s.heap.IsSliceOf sl vl vu vs) (pl : IsPart vl none) (pu : IsPart vu none) (ps : IsPart vs (some (-1)))
    (h : Q ((n : Int) - 1, -1, n) s) : wpAny (model prog w) A (Builtin.Slice.sliceApplied (.ref sl) (pure (n : Int))) Q E s := by
  obtain ⟨os, hos, hcs, hds⟩ := id hs
  unfold Builtin.Slice.sliceApplied Builtin.Slice.sliceFields
  refine wpAny_bind (wpAny_bind (wpAny_field hos hds (x := vl) rfl (wpAny_bind (wpAny_field hos hds (x := vu) rfl (wpAny_bind (wpAny_field hos hds (x := vs) rfl (wpAny_pure ?_)))))))
  refine wpAny_bind (HT.slicePart_ ps ?_)
  show wpAny _ _ (if ((-1 : Int) == 0) = true then _ else _) _ _ s
  rw [if_neg (by decide)]
  refine wpAny_bind (HT.slicePart_ pl (wpAny_bind (HT.slicePart_ pu (wpAny_bind (wpAny_pure ?_)))))
  show wpAny _ _ (match Builtin.Slice.sliceAdjust none none (-1) (n : Int) with | (lo, hi) => pure (lo, (-1 : Int), Builtin.Slice.slicePlaces lo hi (-1))) _ _ s
  have e1 : Builtin.Slice.sliceAdjust none none (-1) (n : Int) = ((n : Int) - 1, -1) := rfl
  rw [e1]
  show wpAny _ _ (pure ((n : Int) - 1, (-1 : Int), Builtin.Slice.slicePlaces ((n : Int) - 1) (-1) (-1))) _ _ s
  have e2 : Builtin.Slice.slicePlaces ((n : Int) - 1) (-1) (-1) = n := by
    unfold Builtin.Slice.slicePlaces
    rw [if_neg (by decide)]
    by_cases c : n = 0
    · subst c; rfl
    · rw [if_pos (by omega)]
      show (((n : Int) - 1 - -1 - 1) / 1 + 1).toNat = n
      rw [Int.ediv_one]; omega
  rw [e2]
  exact wpAny_pure h
theorem getItem_tuple_rev {t sl : Addr} {items : Array Value} {vl vu vs : Value} {Q : Value → Shared → Prop} (ht : IsTup s.heap t items) (hs : s.heap.IsSliceOf sl vl vu vs) (pl : IsPart vl none) (pu : IsPart vu none) (ps : IsPart vs (some (-1)))
    (h : Q (.ref s.heap.objs.size) { s with heap := s.heap.push { cls := .type "tuple", data := .seq items.toList.reverse.toArray } })
    (hsz : items.size ≤ sizeLine) : wpAny (model prog w) A (getItem (.ref t) (.ref sl)) Q E s := by
  have htake : sizeOk (.seq items.toList.reverse.toArray) := by
    show items.toList.reverse.toArray.size ≤ sizeLine
    simpa using hsz
  obtain ⟨os, hos, hcs, hds⟩ := id hs
  have hTs : s.TypeIs (.ref sl) "slice" := ⟨os, hos, hcs⟩
  unfold getItem
  try with_reducible refine wpAny_holding ?_
  first | refine wpAny_bind (wpAny_pure ?_) | skip
  refine wpAny_bind (wpAny_sequenceKey ht.typeIs (by decide) ?_)
  refine wpAny_bind (wpAny_callSpecial?_slot (name := Str.ofString "__getitem__") ht.typeIs PyProof.Rows.slot_tuple_getitem
    (wpAny_call_entry PyProof.Rows.slot_tuple_getitem ht.typeIs PyProof.Rows.entry_tuple_getitem ?_ (PyProof.Rows.args_tuple_getitem _ _)))
  show wpAny _ _ (Builtin.Tuple.tupleItemsOf (.ref t) >>= _) _ _ s
  refine wpAny_bind (PyProof.Rows.tupleItemsOf_ ht ?_)
  refine wpAny_bind (wpAny_typeOf hTs ?_)
  rw [if_pos (by decide)]
  refine wpAny_bind (sliceApplied_rev hs pl pu ps ?_)
  have hno : ¬ ((((items.size : Int) - 1) == 0 && (-1 : Int) == 1 && items.size == items.size) = true) := by
    intro q
    rw [Bool.and_eq_true, Bool.and_eq_true] at q
    exact absurd (eq_of_beq q.1.2) (by decide)
  show wpAny _ _ (if (((items.size : Int) - 1) == 0 && (-1 : Int) == 1 && items.size == items.size) = true then _ else _) _ _ s
  rw [if_neg hno, rev_pick]
  first
    | exact wpAny_bind (m := Builtin.Tuple.tupleExact _) (wpAny_newObj_type (wpAny_pure ⟨_, rfl, wpAny_pure h⟩) htake)
    | exact wpAny_bind (m := Builtin.Tuple.tupleExact _) (wpAny_newObj_type (wpAny_bind (wpAny_pure (wpAny_pure ⟨_, rfl, wpAny_pure h⟩))) htake)
    | exact wpAny_bind (wpAny_bind (m := Builtin.Tuple.tupleExact _) (wpAny_newObj_type (wpAny_pure (wpAny_pure ⟨_, rfl, wpAny_pure h⟩)) htake))
    | exact wpAny_bind (wpAny_bind (m := Builtin.Tuple.tupleExact _) (wpAny_newObj_type (wpAny_pure ⟨_, rfl, wpAny_pure h⟩) htake))
end
section
variable {X : Cx}
def tRevT (K : PySem.W.Frag) (te : TE) : TE := fun σ H Q => te σ H fun x H1 => ∃ a xs, x = .ref a ∧ SqT K H1 a xs ∧ ∀ p H2, Same H1 H2 → H1 p = none → H2 p = some (.tup xs.reverse) → Q (.ref p) H2
theorem pe_revT {e : Expr} {te : TE} {k : Nat} {p1 p2 p3 pos : Pos} (he : PE X e te) : PE X (.Subscript e (.Slice none none (some (.UnaryOp .USub (.Constant (.int 1) k p1) p2)) p3) pos) (tRevT X.K te) := by
  refine ⟨fun pins s σ H Q I h => ?_⟩
  refine Subscript_ (thn (he.run pins s σ H _ I h) fun v s1 ⟨x, H1, I1, r1, q1⟩ => ?_)
  obtain ⟨a, xs, ex, hx, q⟩ := q1
  subst ex
  cases r1
  have hst : PO X (some (.UnaryOp .USub (.Constant (.int 1) k p1) p2)) (tPart (tUn (rU fun i => .int (-i)) (tC (.int 1)))) := po_some (pe_un un_neg pe_int)
  refine wpAny_Slice (thn (po_none.run pins s1 σ H1 (fun o H2 => o = none ∧ H2 = H1) I1 ⟨rfl, rfl⟩) fun vl s2 ⟨l, H2, I2, pl, el, e2⟩ => ?_)
  subst el e2
  refine thn (po_none.run pins s2 σ H2 (fun o H3 => o = none ∧ H3 = H2) I2 ⟨rfl, rfl⟩) fun vu s3 ⟨u, H3, I3, pu, eu, e3⟩ => ?_
  subst eu e3
  refine thn (hst.run pins s3 σ H3 (fun o H4 => o = some (-1) ∧ H4 = H3) I3 ⟨1, rfl, -1, rfl, rfl, rfl⟩) fun vs s4 ⟨o, H4, I4, ps, eo, e4⟩ => ?_
  subst eo e4
  have I5 : Inv X pins σ H4 { s4 with heap := s4.heap.push { cls := .type "slice", data := .fields #[vl, vu, vs] } } := I4.kept (t' := s4.toks) fun b ob q => Heap.get?_push_of_some _ q
  obtain ⟨its, r, ht, hz⟩ := I5.tuple hx
  have hlen := r.length
  show wpAny (model X.prog X.w) X.A (subscriptTail e (.Slice none none (some (.UnaryOp .USub (.Constant (.int 1) k p1) p2)) p3) (.ref a) (.ref s4.heap.objs.size)) (EP X pins σ Q) X.xe { s4 with heap := s4.heap.push { cls := .type "slice", data := .fields #[vl, vu, vs] } }
  refine tail_any (ops := [.ref a, .ref s4.heap.objs.size]) ht.typeIs (PyProof.Rows.slot_tuple_getitem.lookup) ?_ (by with_unfolding_all rfl)
  refine getItem_tuple_rev ht (Heap.IsSliceOf.new _ vl vu vs) pl pu ps ?_ (by rw [List.size_toArray]; omega)
  refine ⟨.ref _, _, I5.laid (t' := s4.toks) (o := .tup xs.reverse) (fun b ob q => Heap.get?_push_of_some _ q) (Nat.le_refl _) ?_, rfl, q _ _ (same_upd (I5.hok.fresh (Nat.le_refl _))) (I5.hok.fresh (Nat.le_refl _)) upd_same⟩
  exact ⟨by rw [List.length_reverse]; exact hz, _, r.reverse, IsTup.new _ _⟩
end
end LK
namespace LK
open PySem PySem.Spec PyProof.Rows L2
/-! ### d.get(k) of a written dict with text keys -/
section
variable {X : Cx} {d : Addr} {es : Array DictEntry} {n : Nat} {o e : Expr} {apos cpos : Pos} {td ty : TE}
def tWget (K : PySem.W.Frag) (d : Addr) (td ty : TE) : TE := fun σ H Q => td σ H fun x H1 => x = .ref d ∧ ty σ H1 fun y H2 => ∃ (z : Str) (r : Option Value) (v : V), y = .str z ∧ PySem.W.nsIn K d z = some r ∧ RelV v (r.getD .none) ∧ Q v H2
theorem pe_wget (D : KDict X.K X.w d es n) (ho : PE X o td) (he : PE X e ty) (hbase : attributeBase o "get" X.env (eval o X.env) = eval o X.env := by rfl)
    (hfew : ((backTo cpos (starEach [e] X.env)).all (fun x => !x.1) && (backToKw cpos (keywordEach [] X.env)).all (fun x => x.1.isSome)
    && decide (([e] : List Expr).length + ([] : List Keyword).length + (if ([] : List Keyword).isEmpty then 0 else 1) < 30)) = true := by rfl)
    (hline : (apos.endLine == cpos.line) = true := by rfl) (htr : backTo cpos (starEach [e] X.env) = [(false, eval e X.env)] := by rfl) : PE X (.Call (.Attribute o "get" apos) [e] [] cpos) (tWget X.K d td ty) := by
  refine ⟨fun pins s σ H Q I h => ?_⟩
  refine wpAny_Call_method hbase hfew hline PySem.F.plainAttrs_dict PySem.F.slot_dict_get PySem.F.type_dict_get (thn (ho.run pins s σ H _ I h) fun u s1 ⟨x, H1, I1, rx, ex, q1⟩ => ?_)
  subst ex
  obtain rfl : u = Value.ref d := rx
  have ob := I1.kIn _ _ D.at_
  refine ⟨kd_type D I1, fun b q => ?_, ?_⟩
  · cases q
    exact ⟨_, ob, rfl⟩
  rw [htr]
  refine Calls.callWith_builtin rfl (Calls.evalArgs_plain (Calls.spliced_cons (thn (he.run pins s1 σ H1 _ I1 q1) fun iv s2 ⟨y, H2, I2, ry, z, r, v, ey, hn, rv, q2⟩ => Calls.spliced_nil ?_)))
  subst ey
  obtain ⟨t, rfl⟩ := ry
  refine call_meetsIn PySem.F.slot_dict_get (kd_type D I2) PySem.F.entry_dict_get (PySem.F.args_dict_get_2 _ _) (meets_dict_get (strKind X.prog X.w) d (PySem.strKind_is X.prog X.w z t) D.low)
    ⟨_, PySem.W.mapOf_K (prog := X.prog) I2.kIn D.at_ D.lit, v, H2, I2.tok _, ?_, q2⟩
  rw [PySem.W.find_K D.at_ hn]
  exact rv
end
end LK
namespace LK
open PySem PySem.Spec PyProof.Rows L2
/-! ### comprehensions without tests -/
/-- what is new since H -/
def nw (H H' : Hp) : Hp := fun a => if H a = none then H' a else none
theorem nw_some {H H' : Hp} {a : Addr} {o : HO} (h : nw H H' a = some o) : H a = none ∧ H' a = some o := by
  unfold nw at h
  split at h
  · exact ⟨by assumption, h⟩
  · cases h
theorem nw_of {H H' : Hp} {a : Addr} {o : HO} (h0 : H a = none) (h : H' a = some o) : nw H H' a = some o := by
  unfold nw
  rw [if_pos h0]; exact h
theorem nw_le (H H' : Hp) : Same (nw H H') H' := fun _ _ h => (nw_some h).2
theorem nw_hb {H H' : Hp} {b : Addr} {o : HO} (h : H b = some o) : Same (nw H H') (hb H' b) := fun a u e => by
  obtain ⟨h1, h2⟩ := nw_some e
  have n : a ≠ b := fun q => by rw [q, h] at h1; cases h1
  rw [hb_ne n]; exact h2
/-- new since a later heap is new since an earlier one -/
theorem nw_anti {H0 H H' : Hp} (d : ∀ a, H a = none → H0 a = none) : Same (nw H H') (nw H0 H') := fun a u e => by
  obtain ⟨h1, h2⟩ := nw_some e
  exact nw_of (d a h1) h2
theorem nw_same {H H' H'' : Hp} (s : ∀ a o, H a = none → H' a = some o → H'' a = some o) : Same (nw H H') (nw H H'') := fun a u e => by
  obtain ⟨h1, h2⟩ := nw_some e
  exact nw_of h1 (s _ _ h1 h2)
theorem Kp.dom {b : Addr} {H H' : Hp} {o : HO} (k : Kp b H H') (hb' : H' b = some o) : ∀ a, H' a = none → H a = none := fun a h => by
  cases q : H a with
  | none => rfl
  | some u =>
    by_cases e : a = b
    · subst e; rw [hb'] at h; cases h
    · rw [k.hd q e] at h; cases h
theorem Same.dom {H H' : Hp} (k : Same H H') : ∀ a, H' a = none → H a = none := fun a h => k.free h

/-- a pure one -/
theorem lc_pure {J : It} {n : Nat} {G : Hp → Prop} {Y : Nat → Hp → V → Hp → Prop} (w : Walk J n G Y) {g : TG} {te : TE} {vs : List Nat} {σ : L2.St} {H1 : Hp} {D : Addr} {Qd : Hp → Prop} (hD : H1 D = none) (hn : n ≤ 1000000) (y : Nat → V)
    (hG : ∀ H, Same H1 H → G H)
    (hs : ∀ i x H H', i < n → Same H1 H → Y i H x H' → g x (wipe σ vs) H' fun σ2 H2 => Same H H2 ∧ wipe σ2 vs = wipe σ vs ∧ ∀ Q2 : V → Hp → Prop, (∀ H3, Same H2 H3 → Q2 (y i) H3) → te σ2 H2 Q2)
    (gm : ∀ x σ0 H0 Q0 Q1, (∀ σ2 H2, Q0 σ2 H2 → Q1 σ2 H2) → g x σ0 H0 Q0 → g x σ0 H0 Q1)
    (hq : ∀ H', Same H1 H' → H' D = some (.lst ((List.range n).map y)) → Qd H') :
    ∃ W : Nat → Nat → Hp → Prop, (∃ m, W 0 m (upd H1 D (.lst []))) ∧ ∀ i m H, W i m H →
      (J.stop i H ∧ Qd H) ∨ (J.go i H ∧ ∃ Nx : Hp → Prop, (∀ H', Nx H' → ∃ m', m' < m ∧ W (i + 1) m' H') ∧ ∀ x H', J.yld i H x H' → g x (wipe σ vs) H' fun σ2 H2 => wipe σ2 vs = wipe σ vs ∧ tYes σ2 H2 fun b H3 =>
        if b = true then te σ2 H3 fun y H4 => ∃ acc, H4 D = some (.lst acc) ∧ acc.length < sizeLine ∧ Nx (upd H4 D (.lst (acc ++ [y]))) else Nx H3) := by
  have up : ∀ {H : Hp} {o : HO}, Same H1 H → Same H1 (upd H D o) := fun s a u e => by
    rw [upd_ne (ne_of_none e hD)]; exact s _ _ e
  refine lc_it w (fun i H => Same H1 H ∧ H D = some (.lst ((List.range i).map y))) ⟨up (Same.refl _), upd_same⟩ (fun i H _ h => hG H h.1) (fun i x H H' hi ⟨s1, h1⟩ hY => ?_) (fun H h => hq H h.1 h.2)
  refine gm _ _ _ _ _ (fun σ2 H2 ⟨s2, e2, k⟩ => ⟨e2, ?_⟩) (hs i x H H' hi s1 hY)
  simp only [tYes, eq_self, ite_true]
  refine k _ fun H3 s3 => ⟨_, s3 _ _ (s2 _ _ h1), ?_, up (Same.trans (Same.trans s1 s2) s3), ?_⟩
  · rw [List.length_map, List.length_range]
    exact Nat.lt_of_lt_of_le (Nat.lt_of_lt_of_le hi hn) (by decide)
  · rw [upd_same, List.range_succ, List.map_append]
    rfl
/-- one that draws from a bag -/
theorem lc_bag {J : It} {n k N : Nat} {G : Hp → Prop} {Y : Nat → Hp → V → Hp → Prop} (w : Walk J n G Y) {g : TG} {te : TE} {vs : List Nat} {σ : L2.St} {H1 : Hp} {D b c : Addr} {Qd : Hp → Prop} (hD : H1 D = none) (hB : Bag (N + n * k) H1 b c) (hn : n ≤ 1000000) (Φ : Hp → V → Prop) (mono : ∀ G G' v, Same G G' → Φ G v → Φ G' v)
    (hG : ∀ H, Kp b H1 H → G H)
    (hs : ∀ i x H H' M, i < n → Kp b H1 H → Bag (M + k) H b c → Y i H x H' → g x (wipe σ vs) H' fun σ2 H2 => Same H H2 ∧ wipe σ2 vs = wipe σ vs ∧ ∀ Q2 : V → Hp → Prop, (∀ v H3, Bag M H3 b c → Kp b H2 H3 → Φ (nw H2 H3) v → Q2 v H3) → te σ2 H2 Q2)
    (gm : ∀ x σ0 H0 Q0 Q1, (∀ σ2 H2, Q0 σ2 H2 → Q1 σ2 H2) → g x σ0 H0 Q0 → g x σ0 H0 Q1)
    (hq : ∀ H' ys, Bag N H' b c → Kp b H1 H' → H' D = some (.lst ys) → ys.length = n → (∀ v ∈ ys, Φ (nw (upd H1 D (.lst [])) H') v) → Qd H') :
    ∃ W : Nat → Nat → Hp → Prop, (∃ m, W 0 m (upd H1 D (.lst []))) ∧ ∀ i m H, W i m H →
      (J.stop i H ∧ Qd H) ∨ (J.go i H ∧ ∃ Nx : Hp → Prop, (∀ H', Nx H' → ∃ m', m' < m ∧ W (i + 1) m' H') ∧ ∀ x H', J.yld i H x H' → g x (wipe σ vs) H' fun σ2 H2 => wipe σ2 vs = wipe σ vs ∧ tYes σ2 H2 fun b H3 =>
        if b = true then te σ2 H3 fun y H4 => ∃ acc, H4 D = some (.lst acc) ∧ acc.length < sizeLine ∧ Nx (upd H4 D (.lst (acc ++ [y]))) else Nx H3) := by
  obtain ⟨xb, eb⟩ := hB.at
  obtain ⟨xc, ec⟩ := hB.at2
  have nbD : b ≠ D := fun e => by rw [← e, eb] at hD; cases hD
  have ncD : c ≠ D := fun e => by rw [← e, ec] at hD; cases hD
  have up : ∀ {H : Hp} {o : HO}, Kp b H1 H → Kp b H1 (upd H D o) := fun s a u e => by
    obtain ⟨h1, h2⟩ := hb_some e
    rw [hb_ne h1, upd_ne (ne_of_none h2 hD)]
    exact s.hd h2 h1
  refine lc_it w (fun i H => Kp b H1 H ∧ Bag (N + (n - i) * k) H b c ∧ ∃ ys, H D = some (.lst ys) ∧ ys.length = i ∧ ∀ v ∈ ys, Φ (nw (upd H1 D (.lst [])) H) v) ⟨up (Kp.refl _ _), hB.upd nbD ncD, [], upd_same, rfl, fun v hv => absurd hv (by simp)⟩ (fun i H _ h => hG H h.1) (fun i x H H' hi ⟨s1, B1, ys, h1, hl, hp⟩ hY => ?_) (fun H ⟨s1, B1, ys, h1, hl, hp⟩ => hq H ys (B1.le (Nat.le_add_right _ _)) s1 h1 hl hp)
  refine gm _ _ _ _ _ (fun σ2 H2 ⟨s2, e2, kq⟩ => ⟨e2, ?_⟩) (hs i x H H' (N + (n - (i + 1)) * k) hi s1 (B1.le (by
    have e : n - i = (n - (i + 1)) + 1 := by omega
    rw [e, Nat.add_mul, Nat.one_mul, Nat.add_assoc]; exact Nat.le_refl _)) hY)
  simp only [tYes, eq_self, ite_true]
  have B2 := B1.same s2
  refine kq _ fun v H3 B3 k3 hv => ⟨ys, k3.hd (s2 _ _ h1) nbD.symm, ?_, up (Same.trans (Same.trans s1 (Kp.of s2)) k3), B3.upd nbD ncD, ys ++ [v], upd_same, by rw [List.length_append, hl]; rfl, fun u hu => ?_⟩
  · rw [hl]
    exact Nat.lt_of_lt_of_le (Nat.lt_of_lt_of_le hi hn) (by decide)
  · have kk : ∀ a o, upd H1 D (.lst []) a = none → H3 a = some o → upd H3 D (.lst (ys ++ [v])) a = some o := fun a o q e => by
      have n : a ≠ D := fun z => by rw [z, upd_same] at q; cases q
      rw [upd_ne n]; exact e
    rcases List.mem_append.mp hu with hu | hu
    · refine mono _ _ _ (fun a o e => ?_) (hp u hu)
      obtain ⟨q1, q2⟩ := nw_some e
      have n : a ≠ b := fun z => by rw [z, upd_ne nbD, eb] at q1; cases q1
      exact nw_of q1 (kk _ _ q1 (k3.hd (s2 _ _ q2) n))
    · obtain rfl : u = v := by simpa using hu
      refine mono _ _ _ (fun a o e => ?_) hv
      obtain ⟨q1, q2⟩ := nw_some e
      have d1 : upd H1 D (.lst []) a = none := by
        by_cases n : a = D
        · rw [n, s2 _ _ h1] at q1; cases q1
        · rw [upd_ne n]
          exact Kp.dom (Same.trans s1 (Kp.of s2)) (B2.at.choose_spec) a q1
      exact nw_of d1 (kk _ _ d1 q2)
end LK
namespace LK
open PySem PySem.Spec PyProof.Rows L2
theorem cutV_take (xs : List V) (k : Nat) : cutV xs none (some (k : Int)) = xs.take k := by
  unfold cutV HT.sIx
  simp only [List.drop_zero, Nat.sub_zero]
  by_cases h : (k : Int) < 0
  · omega
  · rw [if_neg h]
    have e : ((k : Int)).toNat = k := Int.toNat_natCast k
    by_cases c : k ≤ xs.length
    · congr 1
      omega
    · rw [List.take_of_length_le (by omega), List.take_of_length_le (by omega)]
theorem cutV_drop (xs : List V) (k : Nat) : cutV xs (some (k : Int)) none = xs.drop k := by
  unfold cutV
  rw [HT.sIx_nat, HT.sIx_none]
  by_cases c : k ≤ xs.length
  · rw [Nat.min_eq_left c, List.take_of_length_le (by simp)]
  · rw [Nat.min_eq_right (by omega), List.drop_eq_nil_of_le (by omega), List.drop_eq_nil_of_le (by omega)]
    simp
end LK
namespace LK
open PySem PySem.Spec PyProof.Rows L2
/-! ### new objects, the heap behind them by a name -/
section
variable {X : Cx} {es : List Expr} {t : TA} {pos : Pos}
def tTupU (t : TA) : TE := fun σ H Q => t σ H fun xs H1 => xs.length ≤ sizeLine ∧ ∀ p H2, Same H1 H2 → H1 p = none → H2 p = some (.tup xs) → Q (.ref p) H2
def tLstU (t : TA) : TE := fun σ H Q => t σ H fun xs H1 => xs.length ≤ sizeLine ∧ ∀ p H2, Same H1 H2 → H1 p = none → H2 p = some (.lst xs) → Q (.ref p) H2
theorem pe_tupU {x1} (h : PA X es t) : PE X (.Tuple es x1 pos) (tTupU t) := by
  refine ⟨fun pins s σ H Q I hq => ?_⟩
  refine wpAny_Tuple_spliced (thn (h.run pos pins s σ H _ I hq) fun us s1 ⟨xs, H1, I1, r, z, q⟩ => ⟨by rw [← r.length]; exact z, ?_⟩)
  have hf : H1 s1.heap.objs.size = none := I1.hok.fresh (Nat.le_refl _)
  refine ⟨.ref s1.heap.objs.size, L2.upd H1 s1.heap.objs.size (.tup xs), I1.laid (t' := s1.toks) (fun b u e => Heap.get?_push_of_some _ e) (Nat.le_refl _) ?_, rfl, q _ _ (same_upd hf) hf upd_same⟩
  exact ⟨z, us, r, ⟨_, Heap.get?_push_size _ rfl, rfl, _, rfl⟩⟩
theorem pe_lstU (h : PA X es t) : PE X (.List es pos) (tLstU t) := by
  refine ⟨fun pins s σ H Q I hq => ?_⟩
  refine wpAny_List_spliced (thn (h.run pos pins s σ H _ I hq) fun us s1 ⟨xs, H1, I1, r, z, q⟩ => ⟨by rw [← r.length]; exact z, ?_⟩)
  have hf : H1 s1.heap.objs.size = none := I1.hok.fresh (Nat.le_refl _)
  refine ⟨.ref s1.heap.objs.size, L2.upd H1 s1.heap.objs.size (.lst xs), I1.laid (t' := s1.toks) (fun b u e => Heap.get?_push_of_some _ e) (Nat.le_refl _) ?_, rfl, q _ _ (same_upd hf) hf upd_same⟩
  exact ⟨z, us, 0, r, Heap.get?_push_size _ rfl⟩
def rSlLU (K : PySem.W.Frag) : V → Option Int → Option Int → Hp → VK → Prop := fun x lo hi H Q => ∃ a xs, x = .ref a ∧ SqL K H a xs ∧ ∀ p H2, Same H H2 → H p = none → H2 p = some (.lst (cutV xs lo hi)) → Q (.ref p) H2
theorem sl_listU : SlR X (rSlLU X.K) := by
  intro pins s σ H x v vl vu lo hi sl Q I rx hs pl pu h
  obtain ⟨a, xs, rfl, hx, q⟩ := h
  exact sl_list pins s σ H _ v vl vu lo hi sl Q I rx hs pl pu ⟨a, xs, rfl, hx, fun p hp => q p _ (same_upd hp) hp upd_same⟩
theorem call_listU : CallR X (.type "list") (fun xs H Q => ∃ p ys, xs = [.ref p] ∧ (SqL X.K H p ys ∨ SqT X.K H p ys) ∧ ∀ l H2, Same H H2 → H l = none → H2 l = some (.lst ys) → Q (.ref l) H2) := cr_imp call_list_of fun xs H Q h => by
  obtain ⟨p, ys, rfl, h, q⟩ := h
  exact ⟨p, ys, rfl, h, fun l hl => q l _ (same_upd hl) hl upd_same⟩
def rCatL : R2 := fun x y H Q => ∃ l b xs zs, x = .ref l ∧ y = .ref b ∧ H l = some (.lst xs) ∧ H b = some (.lst zs) ∧ xs.length + zs.length ≤ sizeLine ∧ ∀ p H2, Same H H2 → H p = none → H2 p = some (.lst (xs ++ zs)) → Q (.ref p) H2
theorem op_catL : OpR X (binaryOp .Add) rCatL := opr_imp op_cat fun x y H Q h => by
  obtain ⟨l, b, xs, zs, rfl, rfl, h1, h2, hz, q⟩ := h
  exact ⟨l, b, xs, zs, rfl, rfl, h1, h2, hz, fun p hp => q p _ (same_upd hp) hp upd_same⟩
def rRepL : R2 := fun x y H Q => ∃ l k xs, x = .ref l ∧ y = .int k ∧ H l = some (.lst xs) ∧ -(2 ^ 63) ≤ k ∧ k < 2 ^ 63 ∧ xs.length * k.toNat ≤ sizeLine ∧ ∀ p H2, Same H H2 → H p = none → H2 p = some (.lst (List.replicate k.toNat xs).flatten) → Q (.ref p) H2
theorem op_repL : OpR X (binaryOp .Mult) rRepL := opr_imp op_rep fun x y H Q h => by
  obtain ⟨l, k, xs, rfl, rfl, h1, h2, h3, hz, q⟩ := h
  exact ⟨l, k, xs, rfl, rfl, h1, h2, h3, hz, fun p hp => q p _ (same_upd hp) hp upd_same⟩
end
end LK
namespace LK
open PySem PySem.Spec PyProof.Rows L2
/-- [f(x) for x in ..], the items known -/
theorem lc_map {J : It} {n : Nat} {G : Hp → Prop} {Y : Nat → Hp → V → Hp → Prop} (w : Walk J n G Y) {te : TE} {i : Nat} {σ : L2.St} {H1 : Hp} {D : Addr} {Qd : Hp → Prop} (xs : List V) (f : V → V) (hD : H1 D = none) (hn : n ≤ 1000000) (hx : xs.length = n)
    (hY : ∀ k H x H', k < n → Y k H x H' → H' = H ∧ xs[k]? = some x) (hG : ∀ H, Same H1 H → G H)
    (hs : ∀ x H, x ∈ xs → Same H1 H → ∀ Q2 : V → Hp → Prop, (∀ H3, Same H H3 → Q2 (f x) H3) → te ((wipe σ [i]).set i (some x)) H Q2)
    (hq : ∀ H', Same H1 H' → H' D = some (.lst (xs.map f)) → Qd H') :
    ∃ W : Nat → Nat → Hp → Prop, (∃ m, W 0 m (L2.upd H1 D (.lst []))) ∧ ∀ i' m H, W i' m H →
      (J.stop i' H ∧ Qd H) ∨ (J.go i' H ∧ ∃ Nx : Hp → Prop, (∀ H', Nx H' → ∃ m', m' < m ∧ W (i' + 1) m' H') ∧ ∀ x H', J.yld i' H x H' → gName i x (wipe σ [i]) H' fun σ2 H2 => wipe σ2 [i] = wipe σ [i] ∧ tYes σ2 H2 fun b H3 =>
        if b = true then te σ2 H3 fun y H4 => ∃ acc, H4 D = some (.lst acc) ∧ acc.length < sizeLine ∧ Nx (L2.upd H4 D (.lst (acc ++ [y]))) else Nx H3) := by
  have e : (List.range n).map (fun k => f (xs.getD k .non)) = xs.map f := by
    refine List.ext_getElem? fun k => ?_
    rw [List.getElem?_map, List.getElem?_map]
    by_cases hk : k < n
    · rw [List.getElem?_range hk, List.getElem?_eq_getElem (by omega)]
      simp [List.getD_eq_getElem?_getD, List.getElem?_eq_getElem (show k < xs.length by omega)]
    · rw [List.getElem?_eq_none (by simpa using hk), List.getElem?_eq_none (by omega)]
      rfl
  refine lc_pure w hD hn (fun k => f (xs.getD k .non)) hG (fun k x H H' hk s1 y => ?_) (fun x σ0 H0 Q0 Q1 h q => h _ _ q) (fun H' s h => hq H' s (by rw [← e]; exact h))
  obtain ⟨rfl, hx2⟩ := hY _ _ _ _ hk y
  refine ⟨Same.refl _, ?_, fun Q2 h2 => hs x H' (List.mem_of_getElem? hx2) s1 Q2 fun H3 s3 => ?_⟩
  · show ((σ.set i none).set i (some x)).set i none = σ.set i none
    rw [List.set_set, List.set_set]
  · have e2 : xs.getD k .non = x := by rw [List.getD_eq_getElem?_getD, hx2]; rfl
    have := h2 H3 s3
    rw [e2] at this
    exact this
/-- the same, drawing from a bag -/
theorem lc_draw {J : It} {n k N : Nat} {G : Hp → Prop} {Y : Nat → Hp → V → Hp → Prop} (w : Walk J n G Y) {te : TE} {i : Nat} {σ : L2.St} {H1 : Hp} {D b c : Addr} {Qd : Hp → Prop} (Φ : Hp → V → Prop) (mono : ∀ G G' v, Same G G' → Φ G v → Φ G' v) (hD : H1 D = none) (hB : Bag (N + n * k) H1 b c) (hn : n ≤ 1000000)
    (hY : ∀ k H x H', Y k H x H' → H' = H) (hG : ∀ H, Kp b H1 H → G H)
    (hs : ∀ x H M, Kp b H1 H → Bag (M + k) H b c → ∀ Q2 : V → Hp → Prop, (∀ v H3, Bag M H3 b c → Kp b H H3 → Φ (nw H H3) v → Q2 v H3) → te ((wipe σ [i]).set i (some x)) H Q2)
    (hq : ∀ H' ys, Bag N H' b c → Kp b H1 H' → H' D = some (.lst ys) → ys.length = n → (∀ v ∈ ys, Φ (nw (L2.upd H1 D (.lst [])) H') v) → Qd H') :
    ∃ W : Nat → Nat → Hp → Prop, (∃ m, W 0 m (L2.upd H1 D (.lst []))) ∧ ∀ i' m H, W i' m H →
      (J.stop i' H ∧ Qd H) ∨ (J.go i' H ∧ ∃ Nx : Hp → Prop, (∀ H', Nx H' → ∃ m', m' < m ∧ W (i' + 1) m' H') ∧ ∀ x H', J.yld i' H x H' → gName i x (wipe σ [i]) H' fun σ2 H2 => wipe σ2 [i] = wipe σ [i] ∧ tYes σ2 H2 fun b H3 =>
        if b = true then te σ2 H3 fun y H4 => ∃ acc, H4 D = some (.lst acc) ∧ acc.length < sizeLine ∧ Nx (L2.upd H4 D (.lst (acc ++ [y]))) else Nx H3) := by
  refine lc_bag w hD hB hn Φ mono hG (fun j x H H' M hk s1 B1 y => ?_) (fun x σ0 H0 Q0 Q1 h q => h _ _ q) hq
  have e := hY _ _ _ _ y
  subst e
  refine ⟨Same.refl _, ?_, fun Q2 h2 => hs x H' M s1 B1 Q2 h2⟩
  show ((σ.set i none).set i (some x)).set i none = σ.set i none
  rw [List.set_set, List.set_set]
def signsV (z : Str) : List V := z.cps.toList.map fun c => V.str ⟨#[c]⟩
theorem signsV_at {z : Str} : ∀ (k : Nat) (H : Hp) (x : V) (H' : Hp), (H' = H ∧ ∃ c, z.cps[k]? = some c ∧ x = V.str ⟨#[c]⟩) → H' = H ∧ (signsV z)[k]? = some x := by
  rintro k H x H' ⟨rfl, c, h, rfl⟩
  refine ⟨rfl, ?_⟩
  unfold signsV
  rw [List.getElem?_map, Array.getElem?_toList, h]
  rfl
theorem signsV_length (z : Str) : (signsV z).length = z.cps.size := by simp [signsV]
theorem all_map_id {α : Type} (p : α → Bool) (l : List α) : (l.map p).all id = l.all p := by
  rw [List.all_map]; rfl
end LK
namespace LK
open PySem PySem.Spec PyProof.Rows L2
/-- [p(c) for c in z], z a text -/
theorem lc_signs {z : Str} {te : TE} {i : Nat} {σ : L2.St} {H1 : Hp} {D : Addr} {Qd : Hp → Prop} (p : Nat → Bool) (hD : H1 D = none) (hz : z.length ≤ 1000000)
    (hs : ∀ c H, c ∈ z.cps.toList → Same H1 H → ∀ Q2 : V → Hp → Prop, (∀ H3, Same H H3 → Q2 (.bl (p c)) H3) → te ((wipe σ [i]).set i (some (.str ⟨#[c]⟩))) H Q2)
    (hq : ∀ H', Same H1 H' → H' D = some (.lst ((z.cps.toList.map p).map V.bl)) → Qd H') :
    ∃ W : Nat → Nat → Hp → Prop, (∃ m, W 0 m (L2.upd H1 D (.lst []))) ∧ ∀ i' m H, W i' m H →
      ((Its z).stop i' H ∧ Qd H) ∨ ((Its z).go i' H ∧ ∃ Nx : Hp → Prop, (∀ H', Nx H' → ∃ m', m' < m ∧ W (i' + 1) m' H') ∧ ∀ x H', (Its z).yld i' H x H' → gName i x (wipe σ [i]) H' fun σ2 H2 => wipe σ2 [i] = wipe σ [i] ∧ tYes σ2 H2 fun b H3 =>
        if b = true then te σ2 H3 fun y H4 => ∃ acc, H4 D = some (.lst acc) ∧ acc.length < sizeLine ∧ Nx (L2.upd H4 D (.lst (acc ++ [y]))) else Nx H3) := by
  refine lc_map walk_str (signsV z) (fun v => match v with | .str y => .bl (p (y.cps.toList.headD 0)) | _ => .non) hD hz (signsV_length z) (fun k H x H' _ y => signsV_at k H x H' y) (fun _ _ => trivial) (fun x H hx s1 Q2 h2 => ?_) (fun H' s h => hq H' s ?_)
  · obtain ⟨c, hc, rfl⟩ := List.mem_map.mp hx
    exact hs c H hc s1 Q2 h2
  · rw [h]
    unfold signsV
    rw [List.map_map, List.map_map]
    rfl
theorem starts_minus {z : Str} (h : Txt.startswith z "-" = true) : ∃ r, z.cps.toList = 45 :: r := by
  have h2 : PySem.StrLaws.At z "-" z.length 0 := by
    unfold Txt.startswith at h
    rw [Bool.and_eq_true] at h
    exact ⟨of_decide_eq_true h.1, h.2⟩
  have e : TL.tl "-" = [45] := by decide +kernel
  have q := (TL.at_iff (by rw [e]; simp) 0).mp h2
  rw [e, List.drop_zero] at q
  unfold TL.pre at q
  have q2 : z.cps.toList.take 1 = [45] := eq_of_beq q
  cases hz : z.cps.toList with
  | nil => rw [hz] at q2; simp at q2
  | cons c r => rw [hz] at q2; simp at q2; rw [q2]; exact ⟨r, rfl⟩
theorem cutS_tail (z : Str) : (cutS z (some 1) none).cps.toList = z.cps.toList.drop 1 := by
  unfold cutS
  have e1 := HT.sIx_nat z.length 0 1
  have l : z.length = z.cps.toList.length := by rw [Array.length_toList]; rfl
  show ((z.cps.toList.drop (HT.sIx z.length 0 (some ((1 : Nat) : Int)))).take (HT.sIx z.length z.length none - HT.sIx z.length 0 (some ((1 : Nat) : Int)))) = _
  rw [e1, HT.sIx_none]
  by_cases c : 1 ≤ z.length
  · rw [Nat.min_eq_left c, List.take_of_length_le (by rw [List.length_drop]; omega)]
  · rw [List.drop_eq_nil_of_le (by omega), List.drop_eq_nil_of_le (by omega)]
    simp
theorem len_cps (z : Str) : z.cps.toList.length = z.length := by rw [Array.length_toList]; rfl
end LK
namespace LK
theorem iteTT {c A B : Prop} [Decidable c] (hc : c) (h : A) : if c then A else B := by rw [if_pos hc]; exact h
theorem iteFF {c A B : Prop} [Decidable c] (hc : ¬ c) (h : B) : if c then A else B := by rw [if_neg hc]; exact h
end LK
namespace LK
open PySem PySem.Spec PyProof.Rows L2
theorem str_append (a b : Str) : (a ++ b).cps.toList = a.cps.toList ++ b.cps.toList := by
  show (a.cps ++ b.cps).toList = _
  exact Array.toList_append
theorem str_append_len (a b : Str) : (a ++ b).length = a.length + b.length := by
  rw [← len_cps, str_append, List.length_append, len_cps, len_cps]
theorem cutS_tail_len (z : Str) : (cutS z (some 1) none).length = z.length - 1 := by
  rw [← len_cps, cutS_tail, List.length_drop, len_cps]
theorem cutS_len (z : Str) (lo hi : Option Int) : (cutS z lo hi).length ≤ z.length := by
  rw [← len_cps, ← len_cps z]
  unfold cutS
  show (List.take _ (List.drop _ _)).length ≤ _
  rw [List.length_take, List.length_drop]
  omega
end LK
namespace LK
open PySem PySem.Spec PyProof.Rows L2
/-- [f(k) for k in range(n)] -/
theorem lc_rng {lo : Int} {n : Nat} {te : TE} {i : Nat} {σ : L2.St} {H1 : Hp} {D : Addr} {Qd : Hp → Prop} (f : Int → V) (hD : H1 D = none) (hn : n ≤ 1000000)
    (hs : ∀ (k : Nat) H, k < n → Same H1 H → ∀ Q2 : V → Hp → Prop, (∀ H3, Same H H3 → Q2 (f (lo + (k : Int))) H3) → te ((wipe σ [i]).set i (some (.int (lo + (k : Int))))) H Q2)
    (hq : ∀ H', Same H1 H' → H' D = some (.lst ((List.range n).map fun (k : Nat) => f (lo + (k : Int)))) → Qd H') :
    ∃ W : Nat → Nat → Hp → Prop, (∃ m, W 0 m (L2.upd H1 D (.lst []))) ∧ ∀ i' m H, W i' m H →
      ((Itr lo n).stop i' H ∧ Qd H) ∨ ((Itr lo n).go i' H ∧ ∃ Nx : Hp → Prop, (∀ H', Nx H' → ∃ m', m' < m ∧ W (i' + 1) m' H') ∧ ∀ x H', (Itr lo n).yld i' H x H' → gName i x (wipe σ [i]) H' fun σ2 H2 => wipe σ2 [i] = wipe σ [i] ∧ tYes σ2 H2 fun b H3 =>
        if b = true then te σ2 H3 fun y H4 => ∃ acc, H4 D = some (.lst acc) ∧ acc.length < sizeLine ∧ Nx (L2.upd H4 D (.lst (acc ++ [y]))) else Nx H3) := by
  refine lc_map walk_range ((List.range n).map fun (k : Nat) => V.int (lo + (k : Int))) (fun v => match v with | .int j => f j | _ => .non) hD hn (by rw [List.length_map, List.length_range]) (fun k H x H' hk y => ?_) (fun _ _ => trivial) (fun x H hx s1 Q2 h2 => ?_) (fun H' s h => hq H' s ?_)
  · refine ⟨y.1, ?_⟩
    rw [List.getElem?_map, List.getElem?_range hk, y.2]
    rfl
  · obtain ⟨k, hk, rfl⟩ := List.mem_map.mp hx
    exact hs k H (List.mem_range.mp hk) s1 Q2 h2
  · rw [h, List.map_map]
    rfl
end LK
namespace LK
open PySem PySem.Spec PyProof.Rows L2
section
variable {X : Cx} {K : PySem.W.Frag}
theorem call_isiDK (hK : X.K = K) : CallR X (.builtin "isinstance") (fun xs H Q => ∃ x T d, xs = [x, .ty T] ∧ Dp K H x d ∧ T ∈ ["str", "int", "bool", "list", "tuple"] ∧ Q (.bl (isTy T d)) H) := by
  subst hK
  exact call_isiD
end
end LK
namespace LK
open PySem PySem.Spec PyProof.Rows L2
section
variable {X : Cx}
/-- tuple(x) of a list: a new tuple -/
theorem call_tupleN : CallR X (.type "tuple") (fun xs H Q => ∃ p ys, xs = [.ref p] ∧ SqL X.K H p ys ∧ ∀ q H', Same H H' → H q = none → H' q = some (.tup ys) → Q (.ref q) H') := cr_imp call_tuple_of fun xs H Q h => by
  obtain ⟨p, ys, rfl, h, q⟩ := h
  exact ⟨p, ys, rfl, .inl ⟨h, fun l hl => q l _ (same_upd hl) hl upd_same⟩⟩
end
theorem strs_of {m : Nat} : ∀ {l : List V}, (∀ v ∈ l, ∃ z, v = V.str z ∧ z.length ≤ m) → ∃ zs : List Str, l = zs.map V.str ∧ ∀ z ∈ zs, z.length ≤ m
  | [], _ => ⟨[], rfl, fun z h => absurd h (by simp)⟩
  | v :: l, h => by
    obtain ⟨z, rfl, hz⟩ := h v List.mem_cons_self
    obtain ⟨zs, rfl, hzs⟩ := strs_of (l := l) fun v hv => h v (List.mem_cons_of_mem _ hv)
    refine ⟨z :: zs, rfl, fun y hy => ?_⟩
    rcases List.mem_cons.mp hy with rfl | hy
    · exact hz
    · exact hzs y hy
theorem sum_le {m : Nat} : ∀ {zs : List Str}, (∀ z ∈ zs, z.length ≤ m) → (zs.map (·.length)).sum ≤ zs.length * m
  | [], _ => by simp
  | z :: zs, h => by
    rw [List.map_cons, List.sum_cons, List.length_cons, Nat.succ_mul]
    have h1 := h z List.mem_cons_self
    have h2 := sum_le (zs := zs) fun y hy => h y (List.mem_cons_of_mem _ hy)
    omega
end LK
namespace LK
open PySem PySem.Spec PyProof.Rows L2
theorem joinL_len (S : List Nat) : ∀ ps : List (List Nat), (TL.joinL S ps).length ≤ (ps.map List.length).sum + ps.length * S.length
  | [] => by simp [TL.joinL]
  | [p] => by simp [TL.joinL]
  | p :: q :: r => by
    have ih := joinL_len S (q :: r)
    show (p ++ (S ++ TL.joinL S (q :: r))).length ≤ _
    rw [List.length_append, List.length_append, List.map_cons, List.sum_cons, List.length_cons, Nat.succ_mul]
    omega
theorem join_len (y : Str) (zs : List Str) : (Txt.join y zs).length ≤ (zs.map (·.length)).sum + zs.length * y.length := by
  rw [TL.join_eq, ← len_cps]
  have e := TL.tl_join y zs
  show (TL.tl (Str.join y zs)).length ≤ _
  rw [e]
  refine Nat.le_trans (joinL_len _ _) ?_
  rw [List.map_map, List.length_map]
  have e1 : ((zs.map (List.length ∘ TL.tl))) = zs.map (·.length) := List.map_congr_left fun z _ => len_cps z
  rw [e1]
  show _ + zs.length * (y.cps.toList).length ≤ _
  rw [len_cps]
  exact Nat.le_refl _
/-- the list that lc_draw has made, as texts -/
theorem kp_new {N : Nat} {b c : Addr} {H H1 : Hp} (B : Bag N H b c) (s : Same H H1) : Kp b H H1 ∧ Bag N H1 b c := ⟨Kp.of s, B.same s⟩
theorem hb_new {N : Nat} {b c p : Addr} {H H1 : Hp} {o : HO} (B : Bag N H b c) (h0 : H p = none) (h1 : H1 p = some o) : hb H1 b p = some o := by
  have n : p ≠ b := fun e => by
    obtain ⟨xs, q⟩ := B.at
    rw [e, q] at h0; cases h0
  rw [hb_ne n]; exact h1
end LK
namespace LK
open PySem PySem.Spec PyProof.Rows L2
def isIntV : V → Bool
  | .int _ => true
  | _ => false
theorem ints_of {l : List V} (h : l.all isIntV = true) : ∀ y ∈ l, ∃ i, y = V.int i := fun y hy => by
  have q := List.all_eq_true.mp h y hy
  cases y <;> first | exact ⟨_, rfl⟩ | simp [isIntV] at q
end LK
namespace LK
open PySem PySem.Spec PyProof.Rows L2
theorem nx_op {t : TS} {D : Ends} {σ : L2.St} {H : Hp} (h : ∀ N : L2.St → Hp → Prop, (∀ σ' H', D.nx σ' H' → N σ' H') → t { D with nx := N } σ H) : t D σ H := h D.nx fun _ _ z => z
/-- a test that changes nothing and whose answer does not matter -/
theorem if_any {c : TT} {t u : TS} {D : Ends} {σ : L2.St} {H : Hp} (hc : ∀ K : Bool → Hp → Prop, (∀ b, K b H) → c σ H K) (hA : t D σ H) (hB : u D σ H) : tIfS c t u D σ H := hc _ fun b => by
  cases b
  · exact iteFF (by decide) hB
  · exact iteTT rfl hA
end LK
namespace LK
open PySem PySem.Spec PyProof.Rows L2
theorem if_anyS {c : TT} {t u : TS} {D : Ends} {σ : L2.St} {H : Hp} (hc : ∀ K : Bool → Hp → Prop, (∀ b H1, Same H H1 → K b H1) → c σ H K) (hA : ∀ H1, Same H H1 → t D σ H1) (hB : ∀ H1, Same H H1 → u D σ H1) : tIfS c t u D σ H := hc _ fun b H1 s => by
  cases b
  · exact iteFF (by decide) (hB H1 s)
  · exact iteTT rfl (hA H1 s)
end LK
namespace LK
open PySem PySem.Spec PyProof.Rows L2
theorem if_of {c : TT} {t u : TS} {D : Ends} {σ : L2.St} {H : Hp} (R : Bool → Prop) (hc : ∀ K : Bool → Hp → Prop, (∀ b H1, R b → Same H H1 → K b H1) → c σ H K) (hA : ∀ H1, R true → Same H H1 → t D σ H1) (hB : ∀ H1, R false → Same H H1 → u D σ H1) : tIfS c t u D σ H := hc _ fun b H1 r s => by
  cases b
  · exact iteFF (by decide) (hB H1 r s)
  · exact iteTT rfl (hA H1 r s)
end LK

set_option Elab.async false
set_option linter.all false
set_option maxRecDepth 100000
namespace PySem
open Sem (wp)
open AutoSeq1 (wpAny_loadPart')
/-! ### enumerate of a tuple -/
theorem meets_enumerate_newT (l : Addr) (items : Array Value) (n : Nat) (dct : Option Addr) (sl : Array (Option Value)) :
    Meets (Builtin.«enumerate.__new__» ⟨[.type "enumerate", .ref l], []⟩) (fun _ R s => s.heap.get? l = some { cls := .type "tuple", dict := dct, data := .seq items n, slots := sl } ∧
      R (.ok (.ret (.ref (s.heap.push { cls := .type "tuple_iterator", data := .fields #[.ref l, .int 0 0] }).objs.size)))
        { s with heap := (s.heap.push { cls := .type "tuple_iterator", data := .fields #[.ref l, .int 0 0] }).push { cls := .type "enumerate", data := .fields #[.none, .bool false, .ref s.heap.objs.size, rawInt 0, .none, .none] } }) :=
  .of_wp fun prog w A R s h => by
    obtain ⟨hp, g, d, tk, os⟩ := s; obtain ⟨hl, h⟩ := h
    have hsub := sub_enumerate
    have hL : Heap.IsTuple (Shared.heap ⟨hp, g, d, tk, os⟩) l items := ⟨_, hl, rfl, n, rfl⟩
    wp_walk using wpAny_loadPart' hl
    refine wpAny_stack_any fun st => wpAny_pure ?_
    split
    · rename_i c _ _ _ _ _
      cases (c == Value.type "enumerate")
      · wp_walk using wpAny_loadPart' hl, wpAny_pyIter_tuple hL
        exact ⟨_, rfl, h⟩
      · wp_walk using wpAny_loadPart' hl, wpAny_pyIter_tuple hL
        exact ⟨_, rfl, h⟩
    · wp_walk using wpAny_loadPart' hl, wpAny_pyIter_tuple hL
      exact ⟨_, rfl, h⟩
theorem call_enumerate_tuple {prog : Program} {w : World} {A : Around} {E : Value → Shared → Prop} {s : Shared} {l : Addr} {items : Array Value} {Q : Value → Shared → Prop} (hL : s.heap.IsTuple l items)
    (h : ∀ h', IsEnum h' (s.heap.objs.size + 1) s.heap.objs.size 0 .none → h'.IsTupleIter s.heap.objs.size l 0 → h'.objs.size = s.heap.objs.size + 2 →
      (∀ b o, s.heap.get? b = some o → h'.get? b = some o) → Q (.ref (s.heap.objs.size + 1)) { s with heap := h' }) :
    wpAny (model prog w) A (call (.type "enumerate") [.ref l]) Q E s := by
  obtain ⟨⟨c, dct, dt, sl⟩, hl, hc, n, hd⟩ := hL
  replace hc : c = .type "tuple" := hc
  replace hd : dt = .seq items n := hd
  subst hc hd
  refine callType_new F.called_enumerate (by decide) (F.typeCall_enumerate_1 _) (F.newCall_enumerate_1 _) (fun obj => F.args_object_init_2 obj _) F.entry_enumerate_new
    (meets_enumerate_newT l items n dct sl) ⟨hl, ?_⟩
  have hz : (s.heap.push { cls := .type "tuple_iterator", data := .fields #[.ref l, .int 0 0] }).objs.size = s.heap.objs.size + 1 := Heap.size_push ..
  show _ ∧ _
  rw [hz]
  have he : IsEnum ((s.heap.push { cls := .type "tuple_iterator", data := .fields #[.ref l, .int 0 0] }).push
      { cls := .type "enumerate", data := .fields #[.none, .bool false, .ref s.heap.objs.size, rawInt 0, .none, .none] }) (s.heap.objs.size + 1) s.heap.objs.size 0 .none := by
    have := Heap.get?_push_size (s.heap.push { cls := .type "tuple_iterator", data := .fields #[.ref l, .int 0 0] })
      (o := { cls := .type "enumerate", data := .fields #[.none, .bool false, .ref s.heap.objs.size, rawInt 0, .none, .none] }) rfl
    rw [hz] at this; exact this
  refine ⟨⟨_, he, rfl⟩, h _ he ⟨_, Heap.get?_push_of_some _ (Heap.get?_push_size _ rfl), rfl, rfl⟩ (by rw [Heap.size_push, hz]) fun b o x => Heap.get?_push_of_some _ (Heap.get?_push_of_some _ x)⟩
end PySem
namespace LK
open PySem PySem.Spec PyProof.Rows L2
def Itet (K : PySem.W.Frag) (a : Addr) : It :=
  ⟨fun i H => ∃ (xs : List V) (x : V), SqT K H a xs ∧ xs[i]? = some x, fun i H v H' => ∃ T x, v = .ref T ∧ H T = none ∧ H' = L2.upd H T (.tup [.int (i : Nat), x]) ∧ ∀ xs, SqT K H a xs → xs[i]? = some x, fun i H => ∃ xs : List V, SqT K H a xs ∧ xs.length ≤ i⟩
theorem turn_enumT {P : Program} {w : World} {K : PySem.W.Frag} {elts : List Expr} {kk : Nat} {tpos : Pos} (a e it : Addr) :
    Turn P w K (.Tuple elts kk tpos) (Itet K a) [e, it] e (fun i h => (∃ old, IsEnum h e it ((i : Nat) : Int) old) ∧ h.IsTupleIter it a i ∧ e ≠ it ∧ a ≠ it ∧ a ≠ e) where
  mem := by simp
  obj := fun i h st b hb => by
    obtain ⟨⟨old, he⟩, ⟨o, ho, hc, hd⟩, _⟩ := st
    have e' : b = e ∨ b = it := by simpa using hb
    rcases e' with z | z
    · rw [z]; exact ⟨_, he, fun v q => nomatch q⟩
    · rw [z]; exact ⟨o, ho, fun v q => by rw [hd] at q; cases q⟩
  keep := fun i h h' st k => let ⟨⟨old, he⟩, hi, hne⟩ := st; ⟨⟨old, k e (by simp) _ he⟩, hi.at fun o q => k it (by simp) o q, hne⟩
  item := by
    intro X hP hw hK hc i pins s σ H E I hf st hg
    subst hP hw hK
    obtain ⟨⟨old, he⟩, hit, hne, hai, hae⟩ := st
    obtain ⟨xs, x, hq, hx⟩ := hg
    obtain ⟨its, rv, p, hz⟩ := I.tuple hq
    obtain ⟨u, hu, ru⟩ := rv.get hx
    have hel : e < s.heap.objs.size := Heap.lt_size he
    have hil : it < s.heap.objs.size := by obtain ⟨_, q, _⟩ := hit; exact Heap.lt_size q
    have hil2 : i < its.toArray.size := by
      have := (List.getElem?_eq_some_iff.mp hu).1
      simpa using this
    refine wpAny_pyNext_enum_itemD (Draws.tuple (A := X.A.in1) (I.ok.hd hc) it a hai its.toArray) he ⟨hit, p⟩ hil2 hne (by simp [hne, hae.symm]) fun y h' tk hy ho hit' hT hsz hk => ?_
    have hy : its.toArray[i]? = some y := hy
    rw [show its.toArray[i]? = some u by simpa using hu] at hy
    cases hy
    obtain ⟨hit1, _⟩ := hit'
    refine ⟨_, rfl, wpAny_letOwnedTupleGo_enum (s := { s with heap := h', toks := tk + 1 }) ho fun h'' he' sb => ?_⟩
    have hT2 : h''.get? s.heap.objs.size = some { cls := .type "tuple", data := .seq #[.int i tk, u] } := (sb.2 _ (Nat.ne_of_gt hel)).trans hT
    have new : ObjOk X.prog X.w (L2.upd H s.heap.objs.size (.tup [.int (i : Nat), x])) h'' s.heap.objs.size (.tup [.int (i : Nat), x]) :=
      ⟨by show 2 ≤ sizeLine; decide, [.int i tk, u], .cons ⟨_, rfl⟩ (.cons ru .nil), ⟨_, hT2, rfl, _, rfl⟩⟩
    have I1 : Inv X pins σ (L2.upd H s.heap.objs.size (.tup [.int (i : Nat), x])) { s with heap := h'', toks := tk + 1 } :=
      I.turnedNew (ch := [e, it]) (fun b ob hb q => (sb.2 b (fun z => hb (by simp [z]))).trans (hk b ob (fun z => hb (by simp [z])) (fun z => hb (by simp [z])) q)) hf (Nat.le_refl _) new
    refine ⟨.ref s.heap.objs.size, _, I1, rfl, ⟨_, x, rfl, I.hok.fresh (Nat.le_refl _), rfl, fun ys hy => by rw [I.tuple_inj hy hq]; exact hx⟩, ⟨⟨u, ?_⟩, hit1.at fun o q => (sb.2 it (Ne.symm hne)).trans q, hne, hai, hae⟩, fun b hb => ?_⟩
    · have e1 : ((i + 1 : Nat) : Int) = (i : Int) + 1 := by omega
      rw [e1]; exact he'
    · have hb' : b < s.heap.objs.size := by
        have e' : b = e ∨ b = it := by simpa using hb
        rcases e' with z | z
        · rw [z]; exact hel
        · rw [z]; exact hil
      rw [upd_ne (Nat.ne_of_lt hb')]
      exact (hf b hb).1
  done := by
    intro X hP hw hK hc i pins s σ H E I hf st hg
    subst hP hw hK
    obtain ⟨⟨old, he⟩, hit, hne, hai, hae⟩ := st
    obtain ⟨xs, hq, hx⟩ := hg
    obtain ⟨its, rv, p, hz⟩ := I.tuple hq
    obtain ⟨f0, f1, f2, f3, f4, f5⟩ := hf it (by simp)
    have hl := rv.length
    have hn : its.toArray[i]? = none := by simp; omega
    have hT : s.TypeIs (.ref e) "enumerate" := ⟨_, he, rfl⟩
    unfold pyNext
    refine wpAny_bind (wpAny_attempt (wpAny_callSpecial?_slot (name := Str.ofString "__next__") hT PySem.F.slot_enumerate_next
      (wpAny_call_entry PySem.F.slot_enumerate_next hT PySem.F.entry_enumerate_next ?_ (PySem.F.args_enumerate_next_1 _))))
    show wpAny _ _ (field (.ref e) 2 >>= _) _ _ _
    refine wpAny_bind (wpAny_field he rfl (x := .ref it) rfl ?_)
    refine wpAny_bind (RZ.nextOf_tuple_end (I.ok.hd hc) hit p hn fun h' x eb hx' => ?_)
    obtain ⟨o, ho, hc'⟩ := hx'
    refine wpAny_bind (wpAny_isInstance (T := "StopIteration") (b := true) ⟨o, ho, hc'⟩ isSubtype_stop ?_)
    exact wpAny_pure ⟨rfl, I.turned (t' := s.toks) (fun b o hb q => eb b o hb q) f0 f1 f3 f4 f5⟩
  self := fun A i s Q E st h => let ⟨⟨_, he⟩, _⟩ := st; wpAny_pyIter_enum he h
def iEnumT (K : PySem.W.Frag) (ta : TA) : TI := fun σ H R => ta σ H fun vs H1 => ∃ a xs, vs = [.ref a] ∧ SqT K H1 a xs ∧ R (Itet K a) H1
theorem pi_enumT {X : Cx} {e : Expr} {ta : TA} {p pos tpos : Pos} {elts : List Expr} {kk : Nat} (hg : Gl X "enumerate") (hm : X.mg "enumerate" = none) (ha : PA X [e] ta) (hs : starEach [e] X.env = [(false, eval e X.env)] := by rfl) :
    PI X (.Tuple elts kk tpos) (.Call (.Name "enumerate" p) [e] [] pos) (iEnumT X.K ta) := by
  refine ⟨fun pins s σ H R I h => ?_⟩
  refine Call_ (ld_blt I hg hm boot_enumerate (PyProof.Rows.callWith_type1 (thn (ha.run pos pins s σ H _ I h) fun us s1 ⟨vs, H1, I1, r1, q1⟩ => ?_) hs rfl))
  obtain ⟨a, xs, ex, hq, q⟩ := q1
  subst ex
  cases r1 with
  | cons r rr =>
    cases rr
    cases r
    obtain ⟨its, rv, p', hz⟩ := I1.tuple hq
    have al : a < s1.heap.objs.size := by obtain ⟨_, q, _⟩ := id p'; exact Heap.lt_size q
    refine call_enumerate_tuple p' fun h' he hit hsz hk => wpAny_pyIter_enum he ?_
    have I2 : Inv X pins σ H1 { s1 with heap := h' } := I1.kept (t' := s1.toks) hk
    refine ⟨s1.heap.objs.size + 1, [s1.heap.objs.size + 1, s1.heap.objs.size], _, _, H1, rfl, I2, turn_enumT a (s1.heap.objs.size + 1) s1.heap.objs.size, ⟨⟨.none, he⟩, hit, Nat.succ_ne_self _, Nat.ne_of_lt al, Nat.ne_of_lt (Nat.lt_succ_of_lt al)⟩, fun b hb => ?_, q⟩
    have e' : b = s1.heap.objs.size + 1 ∨ b = s1.heap.objs.size := by simpa using hb
    have hle : s1.heap.objs.size ≤ b := by
      rcases e' with z | z
      · rw [z]; exact Nat.le_add_right _ _
      · rw [z]; exact Nat.le_refl _
    exact I1.fpOk hle (I1.hok.fresh hle)
/-- of a list or a tuple -/
def iEnumLT (K : PySem.W.Frag) (ta : TA) : TI := fun σ H R => iEnum K ta σ H R ∨ iEnumT K ta σ H R
theorem pi_enumLT {X : Cx} {e : Expr} {ta : TA} {p pos tpos : Pos} {elts : List Expr} {kk : Nat} (hg : Gl X "enumerate") (hm : X.mg "enumerate" = none) (ha : PA X [e] ta) (hs : starEach [e] X.env = [(false, eval e X.env)] := by rfl) :
    PI X (.Tuple elts kk tpos) (.Call (.Name "enumerate" p) [e] [] pos) (iEnumLT X.K ta) :=
  ⟨fun pins s σ H R I h => h.elim ((pi_enum hg hm ha hs).run pins s σ H R I) ((pi_enumT hg hm ha hs).run pins s σ H R I)⟩
theorem pi_enumK {X : Cx} {K : PySem.W.Frag} (hK : X.K = K) {e : Expr} {ta : TA} {p pos tpos : Pos} {elts : List Expr} {kk : Nat} (hg : Gl X "enumerate") (hm : X.mg "enumerate" = none) (ha : PA X [e] ta) (hs : starEach [e] X.env = [(false, eval e X.env)] := by rfl) :
    PI X (.Tuple elts kk tpos) (.Call (.Name "enumerate" p) [e] [] pos) (iEnum K ta) := by subst hK; exact pi_enum hg hm ha hs
theorem walk_enumT {K : PySem.W.Frag} {a : Addr} {xs : List V} : Walk (Itet K a) xs.length (fun H => SqT K H a xs) (YPair (fun i => some (.int (i : Nat))) (fun i => xs[i]?)) := by
  refine ⟨fun i _ hi q => ⟨xs, xs[i], q, by simp [hi]⟩, fun _ q => ⟨xs, q, Nat.le_refl _⟩, fun i H v H' _ q y => ?_⟩
  obtain ⟨T, x, h1, h2, h3, h4⟩ := y
  exact ⟨T, _, x, h1, h2, h3, rfl, h4 xs q⟩
end LK

set_option Elab.async false
set_option linter.all false
set_option maxRecDepth 100000
namespace LK
open PySem PySem.Spec PyProof.Rows L2
/-! ### zip of a tuple and a list: two sources of any kind -/
structure Src (p : Program) (w : World) (it l : Addr) (It : Nat → Heap → Prop) (Con : Array Value → Heap → Prop) : Prop where
  mvI : ∀ {i : Nat} {h g : Heap}, It i h → (∀ o, h.get? it = some o → g.get? it = some o) → It i g
  mvC : ∀ {xs : Array Value} {h g : Heap}, Con xs h → (∀ o, h.get? l = some o → g.get? l = some o) → Con xs g
  fld : ∀ {i : Nat} {h : Heap}, It i h → ∃ o fs, h.get? it = some o ∧ o.data = .fields fs
  more : ∀ {A : Around} {E : Value → Shared → Prop} {s : Shared} {i : Nat} {xs : Array Value} {x : Value} {Q : Value → Shared → Prop}, It i s.heap → Con xs s.heap → xs[i]? = some x →
    (∀ g, It (i + 1) g → Heap.SameBut it s.heap g → Q x { s with heap := g }) → wpAny (model p w) A (Builtin.SmallTypes.nextOf (.ref it)) Q E s
  over : ∀ {A : Around} {E : Value → Shared → Prop} {s : Shared} {i : Nat} {xs : Array Value} {Q : Value → Shared → Prop}, A.handled = none → It i s.heap → Con xs s.heap → xs[i]? = none →
    (∀ g e, Heap.ExtBut it s.heap g → (∃ o, g.get? e = some o ∧ o.cls = .type "StopIteration") → E (.ref e) { s with heap := g }) → wpAny (model p w) A (Builtin.SmallTypes.nextOf (.ref it)) Q E s
theorem src_tup (p : Program) (w : World) (it l : Addr) : Src p w it l (fun i h => h.IsTupleIter it l i) (fun xs h => h.IsTuple l xs) where
  mvI := fun a b => a.at b
  mvC := fun a b => a.at b
  fld := fun ⟨o, e, _, d⟩ => ⟨o, _, e, d⟩
  more := fun a b c k => RZ.nextOf_tuple_item a b c k
  over := fun a b c d k => RZ.nextOf_tuple_end a b c d k
theorem src_lst (p : Program) (w : World) (it l : Addr) : Src p w it l (fun i h => h.IsListIter it l i) (fun xs h => h.IsList l xs) where
  mvI := fun a b => a.at b
  mvC := fun a b => a.at b
  fld := fun ⟨o, e, _, d⟩ => ⟨o, _, e, d⟩
  more := fun a b c k => wpAny_nextOf_list_item a b c k
  over := fun a b c d k => wpAny_nextOf_list_end a b c d k
/-- all that a zip holds, at one point of time -/
structure ZS (z TI TO i1 i2 : Addr) (I1 I2 : Nat → Heap → Prop) (C1 C2 : Array Value → Heap → Prop) (xs ys : Array Value) (h : Heap) (f a b : Value) (k1 k2 : Nat) : Prop where
  oz : IsZip h z TI TO f
  ti : IsPair h TI (.ref i1) (.ref i2)
  tt : IsPair h TO a b
  j1 : I1 k1 h
  j2 : I2 k2 h
  c1 : C1 xs h
  c2 : C2 ys h
section
variable {prog : Program} {w : World} {A : Around} {E : Value → Shared → Prop} {s : Shared} {z TI TO i1 i2 l1 l2 : Addr} {I1 I2 : Nat → Heap → Prop} {C1 C2 : Array Value → Heap → Prop} {xs ys : Array Value} {f a b : Value} {k1 k2 : Nat} {h g : Heap}
theorem ZS.atZ (D : ZipApart z TI TO i1 i2 l1 l2) (S1 : Src prog w i1 l1 I1 C1) (S2 : Src prog w i2 l2 I2 C2) (q : ZS z TI TO i1 i2 I1 I2 C1 C2 xs ys h f a b k1 k2) (e : Heap.ExtBut z h g) {f' : Value} (n : IsZip g z TI TO f') : ZS z TI TO i1 i2 I1 I2 C1 C2 xs ys g f' a b k1 k2 :=
  ⟨n, e _ _ D.TIz q.ti, e _ _ D.TOz q.tt, S1.mvI q.j1 fun o => e _ o D.i1z, S2.mvI q.j2 fun o => e _ o D.i2z, S1.mvC q.c1 fun o => e _ o D.l1z, S2.mvC q.c2 fun o => e _ o D.l2z⟩
theorem ZS.atO (D : ZipApart z TI TO i1 i2 l1 l2) (S1 : Src prog w i1 l1 I1 C1) (S2 : Src prog w i2 l2 I2 C2) (q : ZS z TI TO i1 i2 I1 I2 C1 C2 xs ys h f a b k1 k2) (e : Heap.ExtBut TO h g) {a' b' : Value} (n : IsPair g TO a' b') : ZS z TI TO i1 i2 I1 I2 C1 C2 xs ys g f a' b' k1 k2 :=
  ⟨e _ _ D.TOz.symm q.oz, e _ _ D.TITO q.ti, n, S1.mvI q.j1 fun o => e _ o D.TOi1.symm, S2.mvI q.j2 fun o => e _ o D.TOi2.symm, S1.mvC q.c1 fun o => e _ o D.l1TO, S2.mvC q.c2 fun o => e _ o D.l2TO⟩
theorem ZS.at1 (D : ZipApart z TI TO i1 i2 l1 l2) (S1 : Src prog w i1 l1 I1 C1) (S2 : Src prog w i2 l2 I2 C2) (q : ZS z TI TO i1 i2 I1 I2 C1 C2 xs ys h f a b k1 k2) (e : Heap.ExtBut i1 h g) {k : Nat} (n : I1 k g) : ZS z TI TO i1 i2 I1 I2 C1 C2 xs ys g f a b k k2 :=
  ⟨e _ _ D.i1z.symm q.oz, e _ _ D.TIi1 q.ti, e _ _ D.TOi1 q.tt, n, S2.mvI q.j2 fun o => e _ o D.i12.symm, S1.mvC q.c1 fun o => e _ o D.l1i1, S2.mvC q.c2 fun o => e _ o D.l2i1⟩
theorem ZS.at2 (D : ZipApart z TI TO i1 i2 l1 l2) (S1 : Src prog w i1 l1 I1 C1) (S2 : Src prog w i2 l2 I2 C2) (q : ZS z TI TO i1 i2 I1 I2 C1 C2 xs ys h f a b k1 k2) (e : Heap.ExtBut i2 h g) {k : Nat} (n : I2 k g) : ZS z TI TO i1 i2 I1 I2 C1 C2 xs ys g f a b k1 k :=
  ⟨e _ _ D.i2z.symm q.oz, e _ _ D.TIi2 q.ti, e _ _ D.TOi2 q.tt, S1.mvI q.j1 fun o => e _ o D.i12, n, S1.mvC q.c1 fun o => e _ o D.l1i2, S2.mvC q.c2 fun o => e _ o D.l2i2⟩
/-- what lies beside the zip stays -/
def Stay (z TO i1 i2 : Addr) (h g : Heap) : Prop := ∀ c o, c ≠ z → c ≠ TO → c ≠ i1 → c ≠ i2 → h.get? c = some o → g.get? c = some o
theorem Stay.tr {h1 h2 h3 : Heap} (p : Stay z TO i1 i2 h1 h2) (q : Stay z TO i1 i2 h2 h3) : Stay z TO i1 i2 h1 h3 := fun c o n1 n2 n3 n4 e => q c o n1 n2 n3 n4 (p c o n1 n2 n3 n4 e)
theorem Stay.zz (e : Heap.ExtBut z h g) : Stay z TO i1 i2 h g := fun c o n1 _ _ _ => e c o n1
theorem Stay.o (e : Heap.ExtBut TO h g) : Stay z TO i1 i2 h g := fun c o _ n2 _ _ => e c o n2
theorem Stay.i (e : Heap.ExtBut i1 h g) : Stay z TO i1 i2 h g := fun c o _ _ n3 _ => e c o n3
theorem Stay.j (e : Heap.ExtBut i2 h g) : Stay z TO i1 i2 h g := fun c o _ _ _ n4 => e c o n4
theorem zm_item {x y : Value} {Q : Value → Shared → Prop} (D : ZipApart z TI TO i1 i2 l1 l2) (S1 : Src prog w i1 l1 I1 C1) (S2 : Src prog w i2 l2 I2 C2) (q0 : ZS z TI TO i1 i2 I1 I2 C1 C2 xs ys s.heap .none a b k1 k2) (hx : xs[k1]? = some x) (hy : ys[k2]? = some y)
    (k : ∀ g, ZS z TI TO i1 i2 I1 I2 C1 C2 xs ys g (rawInt s.heap.objs.size) x y (k1 + 1) (k2 + 1) → IsPair g s.heap.objs.size x y → g.objs.size = s.heap.objs.size + 1 → Stay z TO i1 i2 s.heap g → Q (.ref s.heap.objs.size) { s with heap := g }) :
    wpAny (model prog w) A (Builtin.«zip.__next__» ⟨[.ref z], []⟩) (fun r s' => ∃ v, r = .done (.ret v) ∧ Q v s') E s := by
  have oz := q0.oz
  show wpAny (model prog w) _ (field (.ref z) 2 >>= _) _ E _
  refine wpAny_bind (wpAny_field oz rfl (x := .bool false) rfl ?_)
  show wpAny (model prog w) _ (field (.ref z) 3 >>= _) _ E _
  refine wpAny_bind (wpAny_field oz rfl (x := .ref TI) rfl (wpAny_bind (wpAny_seqItems q0.ti rfl ?_)))
  show wpAny (model prog w) _ (Builtin.SmallTypes.ownedTupleIsFree (.ref z) >>= _) _ E _; unfold Builtin.SmallTypes.ownedTupleIsFree
  refine wpAny_bind (wpAny_bind (wpAny_field oz rfl (x := .none) rfl (wpAny_pure ?_)))
  simp only [if_true]
  refine wpAny_bind (wpAny_rule (wpAny_bind (wpAny_field oz rfl (x := .ref TO) rfl (wpAny_bind (wpAny_setField_rec oz (by simp) fun g1 z1 e1 => ?_)))))
  have q1 := q0.atZ D S1 S2 e1.extBut (f' := .ellipsis) z1
  have t1 : Stay z TO i1 i2 s.heap g1 := .zz e1.extBut
  simp only [List.forIn_cons, List.forIn_nil, List.zipIdx_cons, List.zipIdx_nil]
  refine wpAny_bind (wpAny_bind (wpAny_bind (wpAny_onRaise ?_)))
  show wpAny (model prog w) _ (Builtin.SmallTypes.nextOf (.ref i1) >>= _) _ _ _
  refine wpAny_bind (S1.more q1.j1 q1.c1 hx fun g2 n2 e2 => wpAny_pure ?_)
  have q2 := q1.at1 D S1 S2 e2.extBut n2
  have t2 := t1.tr (.i e2.extBut)
  refine wpAny_bind (wpAny_seqItems q2.tt rfl (wpAny_bind (wpAny_updateSeq_pair q2.tt fun g3 n3 e3 => ?_)))
  have q3 := q2.atO D S1 S2 e3.extBut (a' := x) (b' := b) n3
  have t3 := t2.tr (.o e3.extBut)
  refine wpAny_bind (wpAny_letGo (wpAny_pure (wpAny_bind (wpAny_bind (wpAny_onRaise ?_)))))
  show wpAny (model prog w) _ (Builtin.SmallTypes.nextOf (.ref i2) >>= _) _ _ _
  refine wpAny_bind (S2.more q3.j2 q3.c2 hy fun g4 n4 e4 => wpAny_pure ?_)
  have q4 := q3.at2 D S1 S2 e4.extBut n4
  have t4 := t3.tr (.j e4.extBut)
  refine wpAny_bind (wpAny_seqItems q4.tt rfl (wpAny_bind (wpAny_updateSeq_pair q4.tt fun g5 n5 e5 => ?_)))
  have q5 := q4.atO D S1 S2 e5.extBut (a' := x) (b' := y) n5
  have t5 := t4.tr (.o e5.extBut)
  have sz : g5.objs.size = s.heap.objs.size := by rw [e5.1, e4.1, e3.1, e2.1, e1.1]
  refine wpAny_bind (wpAny_letGo (wpAny_pure (wpAny_pure (wpAny_bind (wpAny_seqItems q5.tt rfl (wpAny_bind (wpAny_newTuple ?_)))))))
  show wpAny (model prog w) _ (Builtin.SmallTypes.ownedTupleHandOut (.ref z) (.ref g5.objs.size) >>= _) _ E _; unfold Builtin.SmallTypes.ownedTupleHandOut
  have pz : IsZip (g5.push { cls := .type "tuple", data := .seq #[x, y] }) z TI TO .ellipsis := Heap.get?_push_of_some _ q5.oz
  refine wpAny_bind (wpAny_bind (wpAny_setField_rec pz (by simp) fun g7 z7 e7 => ?_))
  have z7' : IsZip g7 z TI TO (rawInt g5.objs.size) := z7
  refine wpAny_setField_rec z7' (by simp) fun g8 z8 e8 => ?_
  have z8' : IsZip g8 z TI TO (rawInt g5.objs.size) := z8
  have e58 : Heap.ExtBut z g5 g8 := fun c o n e => e8.extBut _ _ n (e7.extBut _ _ n (Heap.get?_push_of_some _ e))
  have q8 := q5.atZ D S1 S2 e58 z8'
  have nz : g5.objs.size ≠ z := Nat.ne_of_gt (Heap.lt_size q5.oz)
  have p8 : IsPair g8 g5.objs.size x y := e8.extBut _ _ nz (e7.extBut _ _ nz (Heap.get?_push_size _ rfl))
  have s8 : g8.objs.size = g5.objs.size + 1 := by rw [e8.1, e7.1, Heap.size_push]
  refine wpAny_pure ⟨.ref g5.objs.size, rfl, ?_⟩
  rw [sz] at q8 p8 s8 ⊢
  exact k g8 q8 p8 s8 (t5.tr (.zz e58))
/-- the last turn: one of the two has no more -/
theorem zm_end {Q : Fin → Shared → Prop} (hh : A.handled = none) (D : ZipApart z TI TO i1 i2 l1 l2) (S1 : Src prog w i1 l1 I1 C1) (S2 : Src prog w i2 l2 I2 C2) (q0 : ZS z TI TO i1 i2 I1 I2 C1 C2 xs ys s.heap .none a b k1 k2) (he : xs[k1]? = none ∨ ys[k2]? = none)
    (k : ∀ g e, Stay z TO i1 i2 s.heap g → (∃ o, g.get? e = some o ∧ o.cls = .type "StopIteration") → E (.ref e) { s with heap := g }) : wpAny (model prog w) A (Builtin.«zip.__next__» ⟨[.ref z], []⟩) Q E s := by
  have oz := q0.oz
  show wpAny (model prog w) _ (field (.ref z) 2 >>= _) _ E _
  refine wpAny_bind (wpAny_field oz rfl (x := .bool false) rfl ?_)
  show wpAny (model prog w) _ (field (.ref z) 3 >>= _) _ E _
  refine wpAny_bind (wpAny_field oz rfl (x := .ref TI) rfl (wpAny_bind (wpAny_seqItems q0.ti rfl ?_)))
  show wpAny (model prog w) _ (Builtin.SmallTypes.ownedTupleIsFree (.ref z) >>= _) _ E _; unfold Builtin.SmallTypes.ownedTupleIsFree
  refine wpAny_bind (wpAny_bind (wpAny_field oz rfl (x := .none) rfl (wpAny_pure ?_)))
  simp only [if_true]
  refine wpAny_bind (wpAny_rule (wpAny_bind (wpAny_field oz rfl (x := .ref TO) rfl (wpAny_bind (wpAny_setField_rec oz (by simp) fun g1 z1 e1 => ?_)))))
  have q1 := q0.atZ D S1 S2 e1.extBut (f' := .ellipsis) z1
  have t1 : Stay z TO i1 i2 s.heap g1 := .zz e1.extBut
  have fin : ∀ {g2 : Heap} {e : Addr}, IsZip g2 z TI TO .ellipsis → Stay z TO i1 i2 s.heap g2 → (∃ o, g2.get? e = some o ∧ o.cls = .type "StopIteration") → ∀ g3, Heap.SameBut z g2 g3 → E (.ref e) { s with heap := g3 } := fun z2 t2 ⟨o, h1, h2⟩ g3 e3 =>
    k _ _ (t2.tr (.zz e3.extBut)) ⟨o, e3.extBut _ _ (fun n => by subst n; rw [z2] at h1; cases h1; simp at h2) h1, h2⟩
  simp only [List.forIn_cons, List.forIn_nil, List.zipIdx_cons, List.zipIdx_nil]
  refine wpAny_bind (wpAny_bind (wpAny_bind (wpAny_onRaise ?_)))
  show wpAny (model prog w) _ (Builtin.SmallTypes.nextOf (.ref i1) >>= _) _ _ _
  by_cases hx : xs[k1]? = none
  · refine wpAny_bind (S1.over hh q1.j1 q1.c1 hx fun g2 e e2 so => ?_)
    have z2 := e2 _ _ D.i1z.symm q1.oz
    exact wpAny_setField_rec z2 (by simp) fun g3 _ e3 => fin z2 (t1.tr (.i e2)) so g3 e3
  · obtain ⟨x, hx1⟩ := Option.ne_none_iff_exists'.mp hx
    have hy := he.resolve_left hx
    refine wpAny_bind (S1.more q1.j1 q1.c1 hx1 fun g2 n2 e2 => wpAny_pure ?_)
    have q2 := q1.at1 D S1 S2 e2.extBut n2
    refine wpAny_bind (wpAny_seqItems q2.tt rfl (wpAny_bind (wpAny_updateSeq_pair q2.tt fun g3 n3 e3 => ?_)))
    have q3 := q2.atO D S1 S2 e3.extBut (a' := x) (b' := b) n3
    refine wpAny_bind (wpAny_letGo (wpAny_pure (wpAny_bind (wpAny_bind (wpAny_onRaise ?_)))))
    show wpAny (model prog w) _ (Builtin.SmallTypes.nextOf (.ref i2) >>= _) _ _ _
    refine wpAny_bind (S2.over hh q3.j2 q3.c2 hy fun g4 e e4 so => ?_)
    have z4 := e4 _ _ D.i2z.symm q3.oz
    exact wpAny_setField_rec z4 (by simp) fun g5 _ e5 => fin z4 (((t1.tr (.i e2.extBut)).tr (.o e3.extBut)).tr (.j e4)) so g5 e5
theorem zm_next {x y : Value} {Q : Option Value → Shared → Prop} (D : ZipApart z TI TO i1 i2 l1 l2) (S1 : Src prog w i1 l1 I1 C1) (S2 : Src prog w i2 l2 I2 C2) (q0 : ZS z TI TO i1 i2 I1 I2 C1 C2 xs ys s.heap .none a b k1 k2) (hx : xs[k1]? = some x) (hy : ys[k2]? = some y)
    (k : ∀ g, ZS z TI TO i1 i2 I1 I2 C1 C2 xs ys g (rawInt s.heap.objs.size) x y (k1 + 1) (k2 + 1) → IsPair g s.heap.objs.size x y → g.objs.size = s.heap.objs.size + 1 → Stay z TO i1 i2 s.heap g → Q (some (.ref s.heap.objs.size)) { s with heap := g }) : wpAny (model prog w) A (pyNext (.ref z)) Q E s := by
  have ty : s.TypeIs (.ref z) "zip" := ⟨_, q0.oz, rfl⟩
  unfold pyNext
  exact wpAny_bind (wpAny_attempt (wpAny_callSpecial?_slot (name := Str.ofString "__next__") ty F.slot_zip_next (wpAny_call_entry F.slot_zip_next ty F.entry_zip_next (zm_item D S1 S2 q0 hx hy fun g p1 p2 p3 p4 => wpAny_pure (k g p1 p2 p3 p4)) (F.args_zip_next_1 _))))
theorem zm_stop {Q : Option Value → Shared → Prop} (hh : A.handled = none) (D : ZipApart z TI TO i1 i2 l1 l2) (S1 : Src prog w i1 l1 I1 C1) (S2 : Src prog w i2 l2 I2 C2) (q0 : ZS z TI TO i1 i2 I1 I2 C1 C2 xs ys s.heap .none a b k1 k2) (he : xs[k1]? = none ∨ ys[k2]? = none)
    (k : ∀ g, Stay z TO i1 i2 s.heap g → Q none { s with heap := g }) : wpAny (model prog w) A (pyNext (.ref z)) Q E s := by
  have ty : s.TypeIs (.ref z) "zip" := ⟨_, q0.oz, rfl⟩
  unfold pyNext
  refine wpAny_bind (wpAny_attempt (wpAny_callSpecial?_slot (name := Str.ofString "__next__") ty F.slot_zip_next (wpAny_call_entry F.slot_zip_next ty F.entry_zip_next (zm_end hh D S1 S2 q0 he fun g e st so => ?_) (F.args_zip_next_1 _))))
  obtain ⟨o, h1, h2⟩ := so
  exact wpAny_bind (wpAny_isInstance (T := "StopIteration") (b := true) ⟨o, h1, h2⟩ isSubtype_stop (wpAny_pure (k _ st)))
end
/-- the five new objects of zip(tuple, list) -/
def zp1 (h : Heap) (l1 : Addr) : Heap := h.push { cls := .type "tuple_iterator", data := .fields #[.ref l1, .int 0 0] }
def zp2 (h : Heap) (l1 l2 : Addr) : Heap := (zp1 h l1).push { cls := .type "list_iterator", data := .fields #[.ref l2, .int 0 0] }
def zp3 (h : Heap) (l1 l2 : Addr) : Heap := (zp2 h l1 l2).push { cls := .type "tuple", data := .seq #[.ref h.objs.size, .ref (zp1 h l1).objs.size] }
def zp4 (h : Heap) (l1 l2 : Addr) : Heap := (zp3 h l1 l2).push { cls := .type "tuple", data := .seq #[.none, .none] }
def zp5 (h : Heap) (l1 l2 : Addr) : Heap := (zp4 h l1 l2).push { cls := .type "zip", data := .fields #[.none, .bool false, .bool false, .ref (zp2 h l1 l2).objs.size, .ref (zp3 h l1 l2).objs.size] }
theorem zp_new (l1 l2 : Addr) (xs ys : Array Value) : Meets (Builtin.«zip.__new__» ⟨[.type "zip", .ref l1, .ref l2], []⟩) fun _ R s => s.heap.IsTuple l1 xs ∧ s.heap.IsList l2 ys ∧ R (.ok (.ret (.ref (zp4 s.heap l1 l2).objs.size))) { s with heap := zp5 s.heap l1 l2 } :=
  .of_wp fun pr wd ar R s h => by
    obtain ⟨hp, gl, dd, tk, os⟩ := s
    obtain ⟨h1, h2, h⟩ := h
    have hsub := sub_zip
    have t1 : Heap.IsTuple (Shared.heap ⟨hp, gl, dd, tk, os⟩) l1 xs := h1
    have t2 : Heap.IsList (Shared.heap ⟨hp.push { cls := .type "tuple_iterator", data := .fields #[.ref l1, .int 0 0] }, gl, dd, tk, os⟩) l2 ys := Heap.IsList.push h2 _
    wp_walk using wpAny_pyIter_tuple t1, wpAny_pyIter_list t2
    exact ⟨_, rfl, h⟩
section
variable {prog : Program} {w : World} {s : Shared} {A : Around} {E : Value → Shared → Prop}
theorem call_zipM {l1 l2 : Addr} {xs ys : Array Value} {Q : Value → Shared → Prop} (h1 : s.heap.IsTuple l1 xs) (h2 : s.heap.IsList l2 ys)
    (k : ∀ g, IsZip g (s.heap.objs.size + 4) (s.heap.objs.size + 2) (s.heap.objs.size + 3) .none → IsPair g (s.heap.objs.size + 2) (.ref s.heap.objs.size) (.ref (s.heap.objs.size + 1)) → IsPair g (s.heap.objs.size + 3) .none .none →
      g.IsTupleIter s.heap.objs.size l1 0 → g.IsListIter (s.heap.objs.size + 1) l2 0 → (∀ c o, s.heap.get? c = some o → g.get? c = some o) → Q (.ref (s.heap.objs.size + 4)) { s with heap := g }) : wpAny (model prog w) A (call (.type "zip") [.ref l1, .ref l2]) Q E s := by
  refine callType_new F.called_zip (by decide) (F.typeCall_zip_2 _ _) (F.newCall_zip_2 _ _) (fun obj => F.args_object_init_3 obj _ _) F.entry_zip_new (zp_new l1 l2 xs ys) ⟨h1, h2, ?_⟩
  have n1 : (zp1 s.heap l1).objs.size = s.heap.objs.size + 1 := Heap.size_push _ _
  have n2 : (zp2 s.heap l1 l2).objs.size = s.heap.objs.size + 2 := (Heap.size_push _ _).trans (by rw [n1])
  have n3 : (zp3 s.heap l1 l2).objs.size = s.heap.objs.size + 3 := (Heap.size_push _ _).trans (by rw [n2])
  have n4 : (zp4 s.heap l1 l2).objs.size = s.heap.objs.size + 4 := (Heap.size_push _ _).trans (by rw [n3])
  have m5 : IsZip (zp5 s.heap l1 l2) (zp4 s.heap l1 l2).objs.size (zp2 s.heap l1 l2).objs.size (zp3 s.heap l1 l2).objs.size .none := Heap.get?_push_size _ rfl
  have m4 : IsPair (zp5 s.heap l1 l2) (zp3 s.heap l1 l2).objs.size .none .none := Heap.get?_push_of_some _ (Heap.get?_push_size _ rfl)
  have m3 : IsPair (zp5 s.heap l1 l2) (zp2 s.heap l1 l2).objs.size (.ref s.heap.objs.size) (.ref (zp1 s.heap l1).objs.size) := Heap.get?_push_of_some _ (Heap.get?_push_of_some _ (Heap.get?_push_size _ rfl))
  have m2 : (zp5 s.heap l1 l2).IsListIter (zp1 s.heap l1).objs.size l2 0 := ⟨_, Heap.get?_push_of_some _ (Heap.get?_push_of_some _ (Heap.get?_push_of_some _ (Heap.get?_push_size _ rfl))), rfl, rfl⟩
  have m1 : (zp5 s.heap l1 l2).IsTupleIter s.heap.objs.size l1 0 := ⟨_, Heap.get?_push_of_some _ (Heap.get?_push_of_some _ (Heap.get?_push_of_some _ (Heap.get?_push_of_some _ (Heap.get?_push_size _ rfl)))), rfl, rfl⟩
  have m0 : ∀ c o, s.heap.get? c = some o → (zp5 s.heap l1 l2).get? c = some o := fun c o e => Heap.get?_push_of_some _ (Heap.get?_push_of_some _ (Heap.get?_push_of_some _ (Heap.get?_push_of_some _ (Heap.get?_push_of_some _ e))))
  rw [n2, n3, n4] at m5
  rw [n3] at m4
  rw [n2, n1] at m3
  rw [n1] at m2
  show _ ∧ _
  rw [n4]
  exact ⟨⟨_, m5, rfl⟩, k _ m5 m3 m4 m1 m2 m0⟩
end
def ItzM (K : PySem.W.Frag) (a b : Addr) : It where
  go := fun i H => ∃ (xs ys : List V) (x y : V), SqT K H a xs ∧ SqL K H b ys ∧ xs[i]? = some x ∧ ys[i]? = some y
  yld := fun i H v H' => ∃ T x y, v = .ref T ∧ H T = none ∧ H' = L2.upd H T (.tup [x, y]) ∧ (∀ xs, SqT K H a xs → xs[i]? = some x) ∧ ∀ ys, SqL K H b ys → ys[i]? = some y
  stop := fun i H => ∃ xs ys : List V, SqT K H a xs ∧ SqL K H b ys ∧ (xs.length ≤ i ∨ ys.length ≤ i)
def tnM (z TI TO i1 i2 a b : Addr) (i : Nat) (h : Heap) : Prop := ∃ x y, IsZip h z TI TO .none ∧ IsPair h TI (.ref i1) (.ref i2) ∧ IsPair h TO x y ∧ h.IsTupleIter i1 a i ∧ h.IsListIter i2 b i
theorem turn_zipM {P : Program} {w : World} {K : PySem.W.Frag} {elts : List Expr} {kk : Nat} {tpos : Pos} {a b z TI TO i1 i2 : Addr} (D : ZipApart z TI TO i1 i2 a b) : Turn P w K (.Tuple elts kk tpos) (ItzM K a b) [z, TI, TO, i1, i2] z (tnM z TI TO i1 i2 a b) where
  mem := List.mem_cons_self
  obj := fun i h ⟨x, y, h1, h2, h3, h4, h5⟩ c hc => by
    obtain ⟨o4, f4, e4, d4⟩ := (src_tup P w i1 a).fld h4
    obtain ⟨o5, f5, e5, d5⟩ := (src_lst P w i2 b).fld h5
    simp only [List.mem_cons, List.not_mem_nil, or_false] at hc
    rcases hc with rfl | rfl | rfl | rfl | rfl
    · exact ⟨_, h1, fun v q => nomatch q⟩
    · exact ⟨_, h2, fun v q => nomatch q⟩
    · exact ⟨_, h3, fun v q => nomatch q⟩
    · exact ⟨o4, e4, fun v q => by rw [d4] at q; cases q⟩
    · exact ⟨o5, e5, fun v q => by rw [d5] at q; cases q⟩
  keep := fun i h g ⟨x, y, h1, h2, h3, h4, h5⟩ k => ⟨x, y, k z (by simp) _ h1, k TI (by simp) _ h2, k TO (by simp) _ h3, (src_tup P w i1 a).mvI h4 fun o => k i1 (by simp) o, (src_lst P w i2 b).mvI h5 fun o => k i2 (by simp) o⟩
  item := by
    rintro X rfl rfl rfl hc i pins s σ H E I hf ⟨x0, y0, h1, h2, h3, h4, h5⟩ ⟨xs, ys, x, y, qx, qy, ex, ey⟩
    obtain ⟨its, rv, p, _⟩ := I.tuple qx
    obtain ⟨jts, rw', p', _⟩ := I.list qy
    obtain ⟨u, eu, ru⟩ := rv.get ex
    obtain ⟨v, ev, rvv⟩ := rw'.get ey
    refine zm_next D (src_tup X.prog X.w i1 a) (src_lst X.prog X.w i2 b) ⟨h1, h2, h3, h4, h5, (show s.heap.IsTuple a its.toArray from p), p'.isList⟩ (x := u) (y := v) (by simpa using eu) (by simpa using ev) fun g q pp sz st => ⟨_, rfl, wpAny_letOwnedTupleGo_zip (s := { s with heap := g }) q.oz fun g2 z2 e2 => ?_⟩
    have q2 := q.atZ D (src_tup X.prog X.w i1 a) (src_lst X.prog X.w i2 b) e2.extBut z2
    have nz : s.heap.objs.size ≠ z := Nat.ne_of_gt (Heap.lt_size h1)
    have pp2 : IsPair g2 s.heap.objs.size u v := e2.extBut _ _ nz pp
    have ok : ObjOk X.prog X.w (L2.upd H s.heap.objs.size (.tup [x, y])) g2 s.heap.objs.size (.tup [x, y]) := ⟨by show 2 ≤ sizeLine; decide, [u, v], .cons ru (.cons rvv .nil), ⟨_, pp2, rfl, _, rfl⟩⟩
    have st2 : Stay z TO i1 i2 s.heap g2 := st.tr (.zz e2.extBut)
    have I2 : Inv X pins σ (L2.upd H s.heap.objs.size (.tup [x, y])) { s with heap := g2 } := I.turnedNew (t' := s.toks) (ch := [z, TI, TO, i1, i2]) (fun c o hb e => st2 c o (fun n => hb (by simp [n])) (fun n => hb (by simp [n])) (fun n => hb (by simp [n])) (fun n => hb (by simp [n])) e) hf (Nat.le_refl _) ok
    refine ⟨.ref s.heap.objs.size, _, I2, rfl, ⟨_, x, y, rfl, I.hok.fresh (Nat.le_refl _), rfl, fun l hl => by rw [I.tuple_inj hl qx]; exact ex, fun l hl => by rw [I.list_inj hl qy]; exact ey⟩, ⟨u, v, q2.oz, q2.ti, q2.tt, q2.j1, q2.j2⟩, fun c hcm => ?_⟩
    have lt : c < s.heap.objs.size := by
      obtain ⟨o4, _, e4, _⟩ := (src_tup X.prog X.w i1 a).fld h4
      obtain ⟨o5, _, e5, _⟩ := (src_lst X.prog X.w i2 b).fld h5
      have m := hcm
      simp only [List.mem_cons, List.not_mem_nil, or_false] at m
      rcases m with rfl | rfl | rfl | rfl | rfl
      · exact Heap.lt_size h1
      · exact Heap.lt_size h2
      · exact Heap.lt_size h3
      · exact Heap.lt_size e4
      · exact Heap.lt_size e5
    rw [upd_ne (Nat.ne_of_lt lt)]
    exact (hf c hcm).1
  done := by
    rintro X rfl rfl rfl hc i pins s σ H E I hf ⟨x0, y0, h1, h2, h3, h4, h5⟩ ⟨xs, ys, qx, qy, he⟩
    obtain ⟨its, rv, p, _⟩ := I.tuple qx
    obtain ⟨jts, rw', p', _⟩ := I.list qy
    have l1 := rv.length
    have l2 := rw'.length
    refine zm_stop (I.ok.hd hc) D (src_tup X.prog X.w i1 a) (src_lst X.prog X.w i2 b) ⟨h1, h2, h3, h4, h5, (show s.heap.IsTuple a its.toArray from p), p'.isList⟩ (he.imp (fun l => by simp; omega) fun l => by simp; omega) fun g st => ⟨rfl, I.turnedL (t' := s.toks) (ch := [z, TI, TO, i1, i2]) (fun c o hb e => st c o (fun n => hb (by simp [n])) (fun n => hb (by simp [n])) (fun n => hb (by simp [n])) (fun n => hb (by simp [n])) e) hf⟩
  self := fun A i s Q E ⟨_, _, h1, _⟩ k => wpAny_pyIter_zip h1 k
def iZipM (K : PySem.W.Frag) (ta : TA) : TI := fun σ H R => ta σ H fun vs H1 => ∃ a b xs ys, vs = [.ref a, .ref b] ∧ SqT K H1 a xs ∧ SqL K H1 b ys ∧ R (ItzM K a b) H1
theorem pi_zipM {X : Cx} {e e2 : Expr} {ta : TA} {p pos tpos : Pos} {elts : List Expr} {kk : Nat} (hg : Gl X "zip") (hm : X.mg "zip" = none) (ha : PA X [e, e2] ta) (hs : starEach [e, e2] X.env = (false, eval e X.env) :: starEach [e2] X.env := by rfl) (hpl : (backTo pos (starEach [e2] X.env)).any (·.1) = false := by rfl) :
    PI X (.Tuple elts kk tpos) (.Call (.Name "zip" p) [e, e2] [] pos) (iZipM X.K ta) := by
  refine ⟨fun pins s σ H R I h => Call_ (ld_blt I hg hm PyProof.Rows.boot_zip (PyProof.Rows.callWith_type1 (thn (ha.run pos pins s σ H _ I h) fun us s1 ⟨vs, H1, I1, r1, a, b, xs, ys, ex, qx, qy, q⟩ => ?_) hs hpl))⟩
  subst ex
  obtain _ | ⟨r, r'⟩ := r1
  obtain _ | ⟨r2, r''⟩ := r'
  cases r''
  cases r
  cases r2
  obtain ⟨its, rv, p1, _⟩ := I1.tuple qx
  obtain ⟨jts, rw', p2, _⟩ := I1.list qy
  obtain ⟨o1, ho1, _⟩ := id p1
  refine call_zipM (show s1.heap.IsTuple a its.toArray from p1) p2.isList fun g z1 z2 z3 z4 z5 k => wpAny_pyIter_zip z1 ?_
  have I2 : Inv X pins σ H1 { s1 with heap := g } := I1.kept (t' := s1.toks) k
  refine ⟨s1.heap.objs.size + 4, [s1.heap.objs.size + 4, s1.heap.objs.size + 2, s1.heap.objs.size + 3, s1.heap.objs.size, s1.heap.objs.size + 1], _, _, H1, rfl, I2, turn_zipM (PySem.W.ktu_apart s1.heap.objs.size a b (Heap.lt_size ho1) p2.lt), ⟨_, _, z1, z2, z3, z4, z5⟩, fun c hc => ?_, q⟩
  have le : s1.heap.objs.size ≤ c := by
    simp only [List.mem_cons, List.not_mem_nil, or_false] at hc
    rcases hc with rfl | rfl | rfl | rfl | rfl
    · exact Nat.le_add_right _ _
    · exact Nat.le_add_right _ _
    · exact Nat.le_add_right _ _
    · exact Nat.le_refl _
    · exact Nat.le_add_right _ _
  exact I1.fpOk le (I1.hok.fresh le)
theorem walk_zipM {K : PySem.W.Frag} {a b : Addr} {xs ys : List V} {n : Nat} (hx : xs.length = n) (hy : ys.length = n) : Walk (ItzM K a b) n (fun H => SqT K H a xs ∧ SqL K H b ys) (YPair (fun i => xs[i]?) fun i => ys[i]?) where
  goes := fun i _ hi q => ⟨xs, ys, xs[i]'(by omega), ys[i]'(by omega), q.1, q.2, List.getElem?_eq_getElem _, List.getElem?_eq_getElem _⟩
  stops := fun _ q => ⟨xs, ys, q.1, q.2, .inl (by omega)⟩
  yields := fun i H v H' _ q ⟨T, x, y, h1, h2, h3, h4, h5⟩ => ⟨T, x, y, h1, h2, h3, h4 xs q.1, h5 ys q.2⟩
end LK

set_option Elab.async false
set_option linter.all false
set_option maxRecDepth 100000
namespace LK
open PySem PySem.Spec PyProof.Rows L2
/-! ### rules with K in the place of X.K -/
section
variable {X : Cx} {K : PySem.W.Frag}
/-- of a list or a tuple -/
def rIxLT (K : PySem.W.Frag) : R2 := fun x y H Q => ∃ p xs i z, x = .ref p ∧ y = .int i ∧ (SqL K H p xs ∨ SqT K H p xs) ∧ atI xs i = some z ∧ Q z H
theorem ix_lt : IxR X (rIxLT X.K) := by
  intro value slice pins s σ H x y v u Q I rx ry h hs
  obtain ⟨p, xs, i, z, e1, e2, hq | hq, he, q⟩ := h
  · exact ix_list value slice pins s σ H x y v u Q I rx ry ⟨p, xs, i, z, e1, e2, hq, he, q⟩ hs
  · exact ix_tup value slice pins s σ H x y v u Q I rx ry ⟨p, xs, i, z, e1, e2, hq, he, q⟩ hs
theorem ix_ltK (hK : X.K = K) : IxR X (rIxLT K) := by subst hK; exact ix_lt
theorem ix_listK (hK : X.K = K) : IxR X (rIxL K) := by subst hK; exact ix_list
theorem ix_tupK (hK : X.K = K) : IxR X (rIxT K) := by subst hK; exact ix_tup
theorem sl_tupUK (hK : X.K = K) : SlR X (rSlU K) := by subst hK; exact sl_tupU
theorem sl_listUK (hK : X.K = K) : SlR X (rSlLU K) := by subst hK; exact sl_listU
theorem op_catUK (hK : X.K = K) : OpR X (binaryOp .Add) (rCatU K) := by subst hK; exact op_catU
theorem op_eqDK (hK : X.K = K) (hu : X.A.units + 64 < cLine) : OpR X (compareOp .Eq) (rEqD K) := by subst hK; exact op_eqD hu
theorem op_neDK (hK : X.K = K) (hu : X.A.units + 64 < cLine) : OpR X (compareOp .NotEq) (rNeD K) := by subst hK; exact op_neD hu
theorem call_tupleNK (hK : X.K = K) : CallR X (.type "tuple") (fun xs H Q => ∃ p ys, xs = [.ref p] ∧ SqL K H p ys ∧ ∀ q H', Same H H' → H q = none → H' q = some (.tup ys) → Q (.ref q) H') := by subst hK; exact call_tupleN
theorem call_tupleUK (hK : X.K = K) : CallR X (.type "tuple") (fun xs H Q => ∃ p ys, xs = [.ref p] ∧ (SqL K H p ys ∨ SqT K H p ys) ∧ ∀ q H', Same H H' → SqT K H' q ys → Q (.ref q) H') := by subst hK; exact call_tupleU
theorem call_listUK (hK : X.K = K) : CallR X (.type "list") (fun xs H Q => ∃ p ys, xs = [.ref p] ∧ (SqL K H p ys ∨ SqT K H p ys) ∧ ∀ l H2, Same H H2 → H l = none → H2 l = some (.lst ys) → Q (.ref l) H2) := by subst hK; exact call_listU
theorem call_len_seqK (hK : X.K = K) : CallR X (.builtin "len") (fun xs H Q => ∃ p ys, xs = [.ref p] ∧ (SqL K H p ys ∨ SqT K H p ys) ∧ Q (.int ys.length) H) := by subst hK; exact call_len_seq
theorem cr_sumK (hK : X.K = K) (hc : X.calm = true) : CallR X (.builtin "sum") (rSum K) := by subst hK; exact cr_sum hc
theorem cr_maxK (hK : X.K = K) (hc : X.calm = true) : CallR X (.builtin "max") (rMax K) := by subst hK; exact cr_max hc
theorem cr_allK (hK : X.K = K) (hc : X.calm = true) : CallR X (.builtin "all") (rAll K) := by subst hK; exact cr_all hc
theorem pi_listK (hK : X.K = K) {tg l : Expr} {tl : TE} (hl : PE X l tl) : PI X tg l (iList K tl) := by subst hK; exact pi_list hl
theorem pi_tupK (hK : X.K = K) {tg l : Expr} {tl : TE} (hl : PE X l tl) : PI X tg l (iTup K tl) := by subst hK; exact pi_tup hl
def iLT (K : PySem.W.Frag) (tl : TE) : TI := fun σ H R => iList K tl σ H R ∨ iTup K tl σ H R
theorem pi_lt {tg l : Expr} {tl : TE} (hl : PE X l tl) : PI X tg l (iLT X.K tl) :=
  ⟨fun pins s σ H R I h => h.elim ((pi_list hl).run pins s σ H R I) ((pi_tup hl).run pins s σ H R I)⟩
theorem pi_ltK (hK : X.K = K) {tg l : Expr} {tl : TE} (hl : PE X l tl) : PI X tg l (iLT K tl) := by subst hK; exact pi_lt hl
end
end LK

set_option Elab.async false
set_option linter.all false
set_option maxRecDepth 100000
namespace LK
open PySem PySem.Spec PyProof.Rows L2
def top (i : Nat) : Stmt := PySem.Challenge.pw_lookingnets_k18_whole_scores_and_looks.main.body.getD i (.Pass ⟨0, 0, 0, 0⟩)
local macro_rules | `(tactic| walk_at "rs") => `(tactic| simp only [cxK, cxNK, tCallZ, tAsg, tOp, rI0, rS0, rB0, rI, rU, tUn, rEq, rNe, rIxL, rIxT, rIxS, rSetL, rSlLU, rSlS, rSlU, rCatL, rCatU, rRepL, rIn, tVar, tC, gName, gSub, tIfS, tTest, tB, tAnd, tOr, tNot, tNotV, tAndV, tOrV, tIf, tCall, tCons, tNil, tCB, tDrop, tRet, tRetN, tNext, tLstU, tTupU, tM0, tM1, tPar, tPar3, tAug, ipI, tBM, tBM0, rAppend, rPop, tBreak, tCont, tChain, tSl, tPart, tNoPart, L2.start, List.map, List.length_cons, List.length_nil, List.replicate, List.cons_append, List.nil_append, List.append_nil, List.getElem?_cons_zero, List.getElem?_cons_succ, List.set_cons_zero, List.set_cons_succ, Option.some.injEq, V.int.injEq, V.ref.injEq, V.str.injEq, V.bl.injEq, exists_eq_left', exists_eq_left, exists_and_left, decide_eq_true_eq, List.cons.injEq, and_true, true_and, scal, Bool.not_eq_true', decide_eq_false_iff_not, Nat.zero_add, Nat.reduceAdd, Nat.reduceSub, reduceCtorEq, false_and, exists_false, false_or, or_false, CPow, CPowW, CMul, CDiv, Int.reduceToNat, ↓reduceIte, wipe, sw, List.nil_append, List.singleton_append])
local macro_rules | `(tactic| walk_at "st") => `(tactic| (refine seq_op fun N hN => ?_; walk_at "rs"))
local macro_rules | `(tactic| walk_at "sd") => `(tactic| first | assumption | decide | omega)
local macro_rules | `(tactic| walk_at "rd") => `(tactic| repeat (first
  | refine ⟨_, SqL.of (by assumption), ?_⟩ | refine ⟨_, SqL.of upd_same, ?_⟩ | refine ⟨_, .inl (SqL.of (by assumption)), ?_⟩ | refine ⟨_, (by assumption : _ = some (HO.lst _)), ?_⟩ | refine ⟨_, upd_same, ?_⟩
  | refine ⟨_, rfl, ?_⟩ | refine And.intro (by walk_at "sd") ?_))

abbrev s_BadValue : Stmt := inClass (top 3) 0
abbrev N_BadValue : List Str := ["self", "value"]
theorem sc_BadValue : FnScope N_BadValue ["self", "value"] (defScope s_BadValue) := ⟨rfl, rfl, rfl, by decide +kernel, rfl, by decide +kernel, by decide +kernel⟩
abbrev s_is_number : Stmt := top 6
abbrev N_is_number : List Str := ["value"]
theorem sc_is_number : FnScope N_is_number ["value"] (defScope s_is_number) := ⟨rfl, rfl, rfl, by decide +kernel, rfl, by decide +kernel, by decide +kernel⟩

abbrev s_is_fraction : Stmt := top 7
abbrev N_is_fraction : List Str := ["value", "p", "q"]
theorem sc_is_fraction : FnScope N_is_fraction ["value"] (defScope s_is_fraction) := ⟨rfl, rfl, rfl, by decide +kernel, rfl, by decide +kernel, by decide +kernel⟩

abbrev s_fraction : Stmt := top 8
abbrev N_fraction : List Str := ["p", "q", "divisor"]
theorem sc_fraction : FnScope N_fraction ["p", "q"] (defScope s_fraction) := ⟨rfl, rfl, rfl, by decide +kernel, rfl, by decide +kernel, by decide +kernel⟩

abbrev s_plus : Stmt := top 9
abbrev N_plus : List Str := ["a", "b"]
theorem sc_plus : FnScope N_plus ["a", "b"] (defScope s_plus) := ⟨rfl, rfl, rfl, by decide +kernel, rfl, by decide +kernel, by decide +kernel⟩

abbrev s_times : Stmt := top 10
abbrev N_times : List Str := ["a", "b"]
theorem sc_times : FnScope N_times ["a", "b"] (defScope s_times) := ⟨rfl, rfl, rfl, by decide +kernel, rfl, by decide +kernel, by decide +kernel⟩

abbrev s_quotient : Stmt := top 11
abbrev N_quotient : List Str := ["a", "b"]
theorem sc_quotient : FnScope N_quotient ["a", "b"] (defScope s_quotient) := ⟨rfl, rfl, rfl, by decide +kernel, rfl, by decide +kernel, by decide +kernel⟩

abbrev s_below : Stmt := top 12
abbrev N_below : List Str := ["a", "b"]
theorem sc_below : FnScope N_below ["a", "b"] (defScope s_below) := ⟨rfl, rfl, rfl, by decide +kernel, rfl, by decide +kernel, by decide +kernel⟩

abbrev s_mean_of : Stmt := top 13
abbrev N_mean_of : List Str := ["values", "total", "value"]
theorem sc_mean_of : FnScope N_mean_of ["values"] (defScope s_mean_of) := ⟨rfl, rfl, rfl, by decide +kernel, rfl, by decide +kernel, by decide +kernel⟩

abbrev s_row_with : Stmt := top 15
abbrev N_row_with : List Str := ["row", "gifts", "out", "column", "gift"]
theorem sc_row_with : FnScope N_row_with ["row", "gifts"] (defScope s_row_with) := ⟨rfl, rfl, rfl, by decide +kernel, rfl, by decide +kernel, by decide +kernel⟩

abbrev s_sum_of : Stmt := top 16
abbrev N_sum_of : List Str := ["row", "entries", "total", "column", "factor"]
theorem sc_sum_of : FnScope N_sum_of ["row", "entries"] (defScope s_sum_of) := ⟨rfl, rfl, rfl, by decide +kernel, rfl, by decide +kernel, by decide +kernel⟩

abbrev s_scores : Stmt := top 17
abbrev N_scores : List Str := ["rows", "head", "at", "looking", "asked", "here", "there", "factor", "row"]
theorem sc_scores : FnScope N_scores ["rows", "head", "at"] (defScope s_scores) := ⟨rfl, rfl, rfl, by decide +kernel, rfl, by decide +kernel, by decide +kernel⟩

abbrev s_looked_at : Stmt := top 18
abbrev N_looked_at : List Str := ["rows", "head", "at", "found", "greatest", "score", "index"]
theorem sc_looked_at : FnScope N_looked_at ["rows", "head", "at"] (defScope s_looked_at) := ⟨rfl, rfl, rfl, by decide +kernel, rfl, by decide +kernel, by decide +kernel⟩

abbrev s_head_gifts : Stmt := top 19
abbrev N_head_gifts : List Str := ["rows", "head", "at", "looked", "gifts", "to", "source", "factor", "index", "row"]
theorem sc_head_gifts : FnScope N_head_gifts ["rows", "head", "at"] (defScope s_head_gifts) := ⟨rfl, rfl, rfl, by decide +kernel, rfl, by decide +kernel, by decide +kernel⟩

abbrev s_heads_done : Stmt := top 20
abbrev N_heads_done : List Str := ["rows", "heads", "out", "at", "row", "gifts", "head", "gift"]
theorem sc_heads_done : FnScope N_heads_done ["rows", "heads"] (defScope s_heads_done) := ⟨rfl, rfl, rfl, by decide +kernel, rfl, by decide +kernel, by decide +kernel⟩

abbrev s__law_bag : Stmt := top 22
abbrev N__law_bag : List Str := ["script", "mixed", "cell"]
theorem sc__law_bag : FnScope N__law_bag ["script"] (defScope s__law_bag) := ⟨rfl, rfl, rfl, by decide +kernel, rfl, by decide +kernel, by decide +kernel⟩

abbrev s__law_draw : Stmt := top 23
abbrev N__law_draw : List Str := ["bag", "many", "cell", "digit"]
theorem sc__law_draw : FnScope N__law_draw ["bag", "many"] (defScope s__law_draw) := ⟨rfl, rfl, rfl, by decide +kernel, rfl, by decide +kernel, by decide +kernel⟩

abbrev s__law_of : Stmt := top 24
abbrev N__law_of : List Str := ["bag", "things"]
theorem sc__law_of : FnScope N__law_of ["bag", "things"] (defScope s__law_of) := ⟨rfl, rfl, rfl, by decide +kernel, rfl, by decide +kernel, by decide +kernel⟩

abbrev s__law_like : Stmt := top 25
abbrev N__law_like : List Str := ["found", "due", "one", "two"]
theorem sc__law_like : FnScope N__law_like ["found", "due"] (defScope s__law_like) := ⟨rfl, rfl, rfl, by decide +kernel, rfl, by decide +kernel, by decide +kernel⟩

abbrev s__law_gcd : Stmt := top 26
abbrev N__law_gcd : List Str := ["a", "b"]
theorem sc__law_gcd : FnScope N__law_gcd ["a", "b"] (defScope s__law_gcd) := ⟨rfl, rfl, rfl, by decide +kernel, rfl, by decide +kernel, by decide +kernel⟩

abbrev s__law_low : Stmt := top 27
abbrev N__law_low : List Str := ["p", "q", "g"]
theorem sc__law_low : FnScope N__law_low ["p", "q"] (defScope s__law_low) := ⟨rfl, rfl, rfl, by decide +kernel, rfl, by decide +kernel, by decide +kernel⟩

abbrev s__law_great : Stmt := top 28
abbrev N__law_great : List Str := ["bag"]
theorem sc__law_great : FnScope N__law_great ["bag"] (defScope s__law_great) := ⟨rfl, rfl, rfl, by decide +kernel, rfl, by decide +kernel, by decide +kernel⟩

abbrev s__law_factor : Stmt := top 29
abbrev N__law_factor : List Str := ["bag", "way", "sign"]
theorem sc__law_factor : FnScope N__law_factor ["bag"] (defScope s__law_factor) := ⟨rfl, rfl, rfl, by decide +kernel, rfl, by decide +kernel, by decide +kernel⟩

abbrev s__law_number : Stmt := top 30
abbrev N__law_number : List Str := ["x"]
theorem sc__law_number : FnScope N__law_number ["x"] (defScope s__law_number) := ⟨rfl, rfl, rfl, by decide +kernel, rfl, by decide +kernel, by decide +kernel⟩

abbrev s__law_is_fraction : Stmt := top 31
abbrev N__law_is_fraction : List Str := ["x"]
theorem sc__law_is_fraction : FnScope N__law_is_fraction ["x"] (defScope s__law_is_fraction) := ⟨rfl, rfl, rfl, by decide +kernel, rfl, by decide +kernel, by decide +kernel⟩

abbrev s__law_common : Stmt := top 32
abbrev N__law_common : List Str := ["parts", "found", "one"]
theorem sc__law_common : FnScope N__law_common ["parts"] (defScope s__law_common) := ⟨rfl, rfl, rfl, by decide +kernel, rfl, by decide +kernel, by decide +kernel⟩

abbrev s__law_state : Stmt := top 33
abbrev N__law_state : List Str := ["rows_y", "lower", "row", "one"]
theorem sc__law_state : FnScope N__law_state ["rows_y"] (defScope s__law_state) := ⟨rfl, rfl, rfl, by decide +kernel, rfl, by decide +kernel, by decide +kernel⟩

abbrev s__law_scored : Stmt := top 34
abbrev N__law_scored : List Str := ["state", "head_z", "at_z", "lower", "rows_y", "more", "found", "one", "here", "old", "row"]
theorem sc__law_scored : FnScope N__law_scored ["state", "head_z", "at_z"] (defScope s__law_scored) := ⟨rfl, rfl, rfl, by decide +kernel, rfl, by decide +kernel, by decide +kernel⟩

abbrev s__law_seen : Stmt := top 35
abbrev N__law_seen : List Str := ["state", "head_z", "at_z", "found", "best", "k"]
theorem sc__law_seen : FnScope N__law_seen ["state", "head_z", "at_z"] (defScope s__law_seen) := ⟨rfl, rfl, rfl, by decide +kernel, rfl, by decide +kernel, by decide +kernel⟩

abbrev s__law_after_heads : Stmt := top 36
abbrev N__law_after_heads : List Str := ["state", "heads_y", "lower", "rows_y", "more", "head_z", "made", "at_z", "spots", "one", "total", "row", "k"]
theorem sc__law_after_heads : FnScope N__law_after_heads ["state", "heads_y"] (defScope s__law_after_heads) := ⟨rfl, rfl, rfl, by decide +kernel, rfl, by decide +kernel, by decide +kernel⟩

abbrev s__law_same : Stmt := top 37
abbrev N__law_same : List Str := ["told", "upper", "lower"]
theorem sc__law_same : FnScope N__law_same ["told", "upper", "lower"] (defScope s__law_same) := ⟨rfl, rfl, rfl, by decide +kernel, rfl, by decide +kernel, by decide +kernel⟩

abbrev s__law_row_same : Stmt := top 38
abbrev N__law_row_same : List Str := ["told", "row", "lower", "one", "two"]
theorem sc__law_row_same : FnScope N__law_row_same ["told", "row", "lower"] (defScope s__law_row_same) := ⟨rfl, rfl, rfl, by decide +kernel, rfl, by decide +kernel, by decide +kernel⟩

abbrev s__law_rows_same : Stmt := top 39
abbrev N__law_rows_same : List Str := ["told", "state", "one", "two"]
theorem sc__law_rows_same : FnScope N__law_rows_same ["told", "state"] (defScope s__law_rows_same) := ⟨rfl, rfl, rfl, by decide +kernel, rfl, by decide +kernel, by decide +kernel⟩

abbrev s__law_light : Stmt := top 40
abbrev N__law_light : List Str := ["bag"]
theorem sc__law_light : FnScope N__law_light ["bag"] (defScope s__law_light) := ⟨rfl, rfl, rfl, by decide +kernel, rfl, by decide +kernel, by decide +kernel⟩

abbrev s__law_lights : Stmt := top 41
abbrev N__law_lights : List Str := ["bag", "many", "width", "most", "found", "k", "j"]
theorem sc__law_lights : FnScope N__law_lights ["bag", "many", "width", "most"] (defScope s__law_lights) := ⟨rfl, rfl, rfl, by decide +kernel, rfl, by decide +kernel, by decide +kernel⟩

abbrev s__law_rows : Stmt := top 42
abbrev N__law_rows : List Str := ["bag", "many", "width", "found", "k", "way", "row", "j"]
theorem sc__law_rows : FnScope N__law_rows ["bag", "many", "width"] (defScope s__law_rows) := ⟨rfl, rfl, rfl, by decide +kernel, rfl, by decide +kernel, by decide +kernel⟩

abbrev s__law_head : Stmt := top 43
abbrev N__law_head : List Str := ["bag", "width"]
theorem sc__law_head : FnScope N__law_head ["bag", "width"] (defScope s__law_head) := ⟨rfl, rfl, rfl, by decide +kernel, rfl, by decide +kernel, by decide +kernel⟩

abbrev s__law_look_fits : Stmt := top 44
abbrev N__law_look_fits : List Str := ["bag", "rows_y", "state", "head_z", "at_z", "due", "lower", "told", "k", "seen", "best"]
theorem sc__law_look_fits : FnScope N__law_look_fits ["bag", "rows_y", "state", "head_z", "at_z"] (defScope s__law_look_fits) := ⟨rfl, rfl, rfl, by decide +kernel, rfl, by decide +kernel, by decide +kernel⟩

abbrev s__law_raised : Stmt := top 45
abbrev N__law_raised : List Str := ["items", "factor", "one"]
theorem sc__law_raised : FnScope N__law_raised ["items", "factor"] (defScope s__law_raised) := ⟨rfl, rfl, rfl, by decide +kernel, rfl, by decide +kernel, by decide +kernel⟩

abbrev s_law : Stmt := top 46
abbrev N_law : List Str := ["script", "bag", "width", "rows_y", "k", "j", "heads_y", "state", "head_z", "at_z", "due", "handed", "told", "kept", "parted", "one", "factor", "minus_y", "found"]
theorem sc_law : FnScope N_law ["script"] (defScope s_law) := ⟨rfl, rfl, rfl, by decide +kernel, rfl, by decide +kernel, by decide +kernel⟩

mutual
def okD : PyData → Bool
  | .none => true | .bool _ => true | .int _ => true
  | .str z => decide (z.length ≤ 100000)
  | .list ds => decide (ds.length ≤ 100000) && okAll ds
  | .tuple ds => decide (ds.length ≤ 100000) && okAll ds
  | .dict _ => false
def okAll : List PyData → Bool
  | [] => true
  | d :: ds => okD d && okAll ds
end
theorem okD_tup {ds : List PyData} : okD (.tuple ds) = true ↔ ds.length ≤ 100000 ∧ okAll ds = true := by
  show (decide (ds.length ≤ 100000) && okAll ds) = true ↔ _
  rw [Bool.and_eq_true, decide_eq_true_iff]
theorem okD_lst {ds : List PyData} : okD (.list ds) = true ↔ ds.length ≤ 100000 ∧ okAll ds = true := by
  show (decide (ds.length ≤ 100000) && okAll ds) = true ↔ _
  rw [Bool.and_eq_true, decide_eq_true_iff]
mutual
def dep : PyData → Nat
  | .none => 0 | .bool _ => 0 | .int _ => 0 | .str _ => 0
  | .list ds => depAll ds + 1
  | .tuple ds => depAll ds + 1
  | .dict _ => 0
def depAll : List PyData → Nat
  | [] => 0
  | d :: ds => max (dep d) (depAll ds)
end
def spP (K : PySem.W.Frag) (F : PyData → V) : Sp := fun vs H Q _ => ∃ v d, vs = [v] ∧ Dp K H v d ∧ okD d = true ∧ ∀ H', Same H H' → Q (F d) H'
def SeqV (K : PySem.W.Frag) (G : Hp) (x : V) (ys : List V) : Prop := (∃ p, x = .ref p ∧ SqL K G p ys) ∨ (∃ p, x = .ref p ∧ SqT K G p ys) ∨ ∃ z, x = .str z ∧ z.length ≤ 100000 ∧ ys = z.cps.toList.map fun c => V.str ⟨#[c]⟩
def sp__law_bag (K : PySem.W.Frag) : Sp := fun vs H Q _ => ∃ (a : Addr) (ns : List Int), vs = [.ref a] ∧ SqL K H a (ns.map V.int) ∧ ns.length ≤ 63 ∧ ∀ b c H', Same H H' → Bag 1099511627776 H' b c → H b = none → Q (.ref b) H'
def sp__law_draw : Sp := fun vs H Q _ => ∃ (b c : Addr) (n : Int) (N : Nat), vs = [.ref b, .int n] ∧ Bag (N + 1) H b c ∧ 0 < n ∧ n < 1073741824 ∧ ∀ (r : Int) H', 0 ≤ r → r < n → Bag N H' b c → Kp b H H' → Q (.int r) H'
def sp__law_of (K : PySem.W.Frag) : Sp := fun vs H Q _ => ∃ (b c : Addr) (x : V) (ys : List V) (N : Nat), vs = [.ref b, x] ∧ Bag (N + 1) H b c ∧ SeqV K H x ys ∧ SeqV K (hb H b) x ys ∧ ys ≠ [] ∧ ys.length ≤ 1000000 ∧ ∀ y H', y ∈ ys → Bag N H' b c → Kp b H H' → Q y H'
def sp__law_like (K : PySem.W.Frag) (n : Nat) : Sp := fun vs H Q _ => ∃ v u d, vs = [v, u] ∧ Dp K H v d ∧ Dp K H u d ∧ okD d = true ∧ dep d ≤ n ∧ ∀ H', Same H H' → Q (.bl true) H'
def sw {α : Type} : List α → List α
  | [x, y] => [y, x]
  | l => l
theorem sw_rel : ∀ {zs : List V} {ws : List Value}, Vals zs ws → Vals (sw zs) (sw ws)
  | _, _, .nil => .nil
  | _, _, .cons a .nil => .cons a .nil
  | _, _, .cons a (.cons b .nil) => .cons b (.cons a .nil)
  | _, _, .cons a (.cons b (.cons c r)) => .cons a (.cons b (.cons c r))
/-! ### wide whole numbers -/
def CDivF (_ j : Int) : Prop := j ≠ 0 ∧ j.natAbs.log2 < 9000
theorem op_fdivF {X : Cx} : OpR X (binaryOp .FloorDiv) (rI CDivF fun i j => .int (i.fdiv j)) := opI fun _ _ _ _ _ _ _ hc q => floordiv_int hc.1 q (.inl (PyProof.noPylong_of_log2 hc.2))
/-- powers of wide numbers -/
def CPowW (i j : Int) : Prop := 0 ≤ j ∧ j ≤ 100 ∧ i.natAbs < 2 ^ 100
theorem op_powW {X : Cx} : OpR X (binaryOp .Pow) (rI CPowW fun i j => .int (i ^ j.toNat)) := opI fun i j _ _ _ _ _ hc q => by
  obtain ⟨h0, h1, h2⟩ := hc
  refine pow_int h0 ?_ q
  have hb : Builtin.Int.intBits i ≤ 100 := by
    unfold Builtin.Int.intBits
    split
    · exact Nat.zero_le _
    · have := PySem.Flt.log2_lt_of (n := i.natAbs) (by decide : 0 < 100) h2
      omega
  have : (Builtin.Int.intBits i : Int) * j ≤ 100 * 100 := Int.mul_le_mul (by omega) h1 h0 (by decide)
  exact Int.le_trans this (by decide)
theorem op_fdivU {X : Cx} : OpR X (binaryOp .FloorDiv) (rI CDivW fun i j => .int (i / j)) := op_fdivW
structure Txt (w : World) (K : PySem.W.Frag) (mg : Str → Option Value) where
  n_len : mg "len" = none
  n_int : mg "int" = none
  n_list : mg "list" = none
  n_tuple : mg "tuple" = none
  n_bool : mg "bool" = none
  n_str : mg "str" = none
  n_dict : mg "dict" = none
  n_isinstance : mg "isinstance" = none
  n_all : mg "all" = none
  n_range : mg "range" = none
  n_zip : mg "zip" = none
  n_abs : mg "abs" = none
  n_enumerate : mg "enumerate" = none
  n_max : mg "max" = none
  n_sum : mg "sum" = none
  m_gcd : mg "gcd" = some (.builtin "math.gcd")
  a_ZERO : Addr
  m_ZERO : mg "ZERO" = some (.ref a_ZERO)
  s_ZERO : ∀ H, SqT K H a_ZERO [.int 0, .int 1]
  C_BadValue : Addr
  f_BadValue : Addr
  d_BadValue : FuncData
  m_BadValue : mg "BadValue" = some (.ref C_BadValue)
  X_BadValue : OexC K C_BadValue
  i_BadValue : PySem.W.findIn K (.ref C_BadValue) "__init__" = some (some (.ref f_BadValue))
  t_BadValue : PySem.W.typeIn K (.ref f_BadValue) = some (.type "function")
  F_BadValue : Fun K "__init__" "BadValue.__init__" s_BadValue f_BadValue d_BadValue
  B_BadValue__init : Binds K d_BadValue ["self", "value"] []
  v_BadValue : PySem.W.findIn K (.ref C_BadValue) "value" = some none
  c_BadValue : PySem.W.findIn K (.ref C_BadValue) "code" = some none
  a_is_number : Addr
  d_is_number : FuncData
  F_is_number : Fun K "is_number" "is_number" s_is_number a_is_number d_is_number
  m_is_number : mg "is_number" = some (.ref a_is_number)
  B_is_number : Binds K d_is_number ["value"] []
  a_is_fraction : Addr
  d_is_fraction : FuncData
  F_is_fraction : Fun K "is_fraction" "is_fraction" s_is_fraction a_is_fraction d_is_fraction
  m_is_fraction : mg "is_fraction" = some (.ref a_is_fraction)
  B_is_fraction : Binds K d_is_fraction ["value"] []
  a_fraction : Addr
  d_fraction : FuncData
  F_fraction : FunD K "fraction" "fraction" (defArgs s_fraction) (defBody s_fraction) (defScope s_fraction) [.int 1] [] a_fraction d_fraction
  m_fraction : mg "fraction" = some (.ref a_fraction)
  B_fraction : Binds K d_fraction ["p", "q"] []
  a_plus : Addr
  d_plus : FuncData
  F_plus : Fun K "plus" "plus" s_plus a_plus d_plus
  m_plus : mg "plus" = some (.ref a_plus)
  B_plus : Binds K d_plus ["a", "b"] []
  a_times : Addr
  d_times : FuncData
  F_times : Fun K "times" "times" s_times a_times d_times
  m_times : mg "times" = some (.ref a_times)
  B_times : Binds K d_times ["a", "b"] []
  a_quotient : Addr
  d_quotient : FuncData
  F_quotient : Fun K "quotient" "quotient" s_quotient a_quotient d_quotient
  m_quotient : mg "quotient" = some (.ref a_quotient)
  B_quotient : Binds K d_quotient ["a", "b"] []
  a_below : Addr
  d_below : FuncData
  F_below : Fun K "below" "below" s_below a_below d_below
  m_below : mg "below" = some (.ref a_below)
  B_below : Binds K d_below ["a", "b"] []
  a_mean_of : Addr
  d_mean_of : FuncData
  F_mean_of : Fun K "mean_of" "mean_of" s_mean_of a_mean_of d_mean_of
  m_mean_of : mg "mean_of" = some (.ref a_mean_of)
  B_mean_of : Binds K d_mean_of ["values"] []
  a_row_with : Addr
  d_row_with : FuncData
  F_row_with : Fun K "row_with" "row_with" s_row_with a_row_with d_row_with
  m_row_with : mg "row_with" = some (.ref a_row_with)
  B_row_with : Binds K d_row_with ["row", "gifts"] []
  a_sum_of : Addr
  d_sum_of : FuncData
  F_sum_of : Fun K "sum_of" "sum_of" s_sum_of a_sum_of d_sum_of
  m_sum_of : mg "sum_of" = some (.ref a_sum_of)
  B_sum_of : Binds K d_sum_of ["row", "entries"] []
  a_scores : Addr
  d_scores : FuncData
  F_scores : Fun K "scores" "scores" s_scores a_scores d_scores
  m_scores : mg "scores" = some (.ref a_scores)
  B_scores : Binds K d_scores ["rows", "head", "at"] []
  a_looked_at : Addr
  d_looked_at : FuncData
  F_looked_at : Fun K "looked_at" "looked_at" s_looked_at a_looked_at d_looked_at
  m_looked_at : mg "looked_at" = some (.ref a_looked_at)
  B_looked_at : Binds K d_looked_at ["rows", "head", "at"] []
  a_head_gifts : Addr
  d_head_gifts : FuncData
  F_head_gifts : Fun K "head_gifts" "head_gifts" s_head_gifts a_head_gifts d_head_gifts
  m_head_gifts : mg "head_gifts" = some (.ref a_head_gifts)
  B_head_gifts : Binds K d_head_gifts ["rows", "head", "at"] []
  a_heads_done : Addr
  d_heads_done : FuncData
  F_heads_done : Fun K "heads_done" "heads_done" s_heads_done a_heads_done d_heads_done
  m_heads_done : mg "heads_done" = some (.ref a_heads_done)
  B_heads_done : Binds K d_heads_done ["rows", "heads"] []
  a__law_bag : Addr
  d__law_bag : FuncData
  F__law_bag : Fun K "_law_bag" "_law_bag" s__law_bag a__law_bag d__law_bag
  m__law_bag : mg "_law_bag" = some (.ref a__law_bag)
  B__law_bag : Binds K d__law_bag ["script"] []
  a__law_draw : Addr
  d__law_draw : FuncData
  F__law_draw : Fun K "_law_draw" "_law_draw" s__law_draw a__law_draw d__law_draw
  m__law_draw : mg "_law_draw" = some (.ref a__law_draw)
  B__law_draw : Binds K d__law_draw ["bag", "many"] []
  a__law_of : Addr
  d__law_of : FuncData
  F__law_of : Fun K "_law_of" "_law_of" s__law_of a__law_of d__law_of
  m__law_of : mg "_law_of" = some (.ref a__law_of)
  B__law_of : Binds K d__law_of ["bag", "things"] []
  a__law_like : Addr
  d__law_like : FuncData
  F__law_like : Fun K "_law_like" "_law_like" s__law_like a__law_like d__law_like
  m__law_like : mg "_law_like" = some (.ref a__law_like)
  B__law_like : Binds K d__law_like ["found", "due"] []
  a__law_gcd : Addr
  d__law_gcd : FuncData
  F__law_gcd : Fun K "_law_gcd" "_law_gcd" s__law_gcd a__law_gcd d__law_gcd
  m__law_gcd : mg "_law_gcd" = some (.ref a__law_gcd)
  B__law_gcd : Binds K d__law_gcd ["a", "b"] []
  a__law_low : Addr
  d__law_low : FuncData
  F__law_low : Fun K "_law_low" "_law_low" s__law_low a__law_low d__law_low
  m__law_low : mg "_law_low" = some (.ref a__law_low)
  B__law_low : Binds K d__law_low ["p", "q"] []
  a__law_great : Addr
  d__law_great : FuncData
  F__law_great : Fun K "_law_great" "_law_great" s__law_great a__law_great d__law_great
  m__law_great : mg "_law_great" = some (.ref a__law_great)
  B__law_great : Binds K d__law_great ["bag"] []
  a__law_factor : Addr
  d__law_factor : FuncData
  F__law_factor : Fun K "_law_factor" "_law_factor" s__law_factor a__law_factor d__law_factor
  m__law_factor : mg "_law_factor" = some (.ref a__law_factor)
  B__law_factor : Binds K d__law_factor ["bag"] []
  a__law_number : Addr
  d__law_number : FuncData
  F__law_number : Fun K "_law_number" "_law_number" s__law_number a__law_number d__law_number
  m__law_number : mg "_law_number" = some (.ref a__law_number)
  B__law_number : Binds K d__law_number ["x"] []
  a__law_is_fraction : Addr
  d__law_is_fraction : FuncData
  F__law_is_fraction : Fun K "_law_is_fraction" "_law_is_fraction" s__law_is_fraction a__law_is_fraction d__law_is_fraction
  m__law_is_fraction : mg "_law_is_fraction" = some (.ref a__law_is_fraction)
  B__law_is_fraction : Binds K d__law_is_fraction ["x"] []
  a__law_common : Addr
  d__law_common : FuncData
  F__law_common : Fun K "_law_common" "_law_common" s__law_common a__law_common d__law_common
  m__law_common : mg "_law_common" = some (.ref a__law_common)
  B__law_common : Binds K d__law_common ["parts"] []
  a__law_state : Addr
  d__law_state : FuncData
  F__law_state : Fun K "_law_state" "_law_state" s__law_state a__law_state d__law_state
  m__law_state : mg "_law_state" = some (.ref a__law_state)
  B__law_state : Binds K d__law_state ["rows_y"] []
  a__law_scored : Addr
  d__law_scored : FuncData
  F__law_scored : Fun K "_law_scored" "_law_scored" s__law_scored a__law_scored d__law_scored
  m__law_scored : mg "_law_scored" = some (.ref a__law_scored)
  B__law_scored : Binds K d__law_scored ["state", "head_z", "at_z"] []
  a__law_seen : Addr
  d__law_seen : FuncData
  F__law_seen : Fun K "_law_seen" "_law_seen" s__law_seen a__law_seen d__law_seen
  m__law_seen : mg "_law_seen" = some (.ref a__law_seen)
  B__law_seen : Binds K d__law_seen ["state", "head_z", "at_z"] []
  a__law_after_heads : Addr
  d__law_after_heads : FuncData
  F__law_after_heads : Fun K "_law_after_heads" "_law_after_heads" s__law_after_heads a__law_after_heads d__law_after_heads
  m__law_after_heads : mg "_law_after_heads" = some (.ref a__law_after_heads)
  B__law_after_heads : Binds K d__law_after_heads ["state", "heads_y"] []
  a__law_same : Addr
  d__law_same : FuncData
  F__law_same : Fun K "_law_same" "_law_same" s__law_same a__law_same d__law_same
  m__law_same : mg "_law_same" = some (.ref a__law_same)
  B__law_same : Binds K d__law_same ["told", "upper", "lower"] []
  a__law_row_same : Addr
  d__law_row_same : FuncData
  F__law_row_same : Fun K "_law_row_same" "_law_row_same" s__law_row_same a__law_row_same d__law_row_same
  m__law_row_same : mg "_law_row_same" = some (.ref a__law_row_same)
  B__law_row_same : Binds K d__law_row_same ["told", "row", "lower"] []
  a__law_rows_same : Addr
  d__law_rows_same : FuncData
  F__law_rows_same : Fun K "_law_rows_same" "_law_rows_same" s__law_rows_same a__law_rows_same d__law_rows_same
  m__law_rows_same : mg "_law_rows_same" = some (.ref a__law_rows_same)
  B__law_rows_same : Binds K d__law_rows_same ["told", "state"] []
  a__law_light : Addr
  d__law_light : FuncData
  F__law_light : Fun K "_law_light" "_law_light" s__law_light a__law_light d__law_light
  m__law_light : mg "_law_light" = some (.ref a__law_light)
  B__law_light : Binds K d__law_light ["bag"] []
  a__law_lights : Addr
  d__law_lights : FuncData
  F__law_lights : Fun K "_law_lights" "_law_lights" s__law_lights a__law_lights d__law_lights
  m__law_lights : mg "_law_lights" = some (.ref a__law_lights)
  B__law_lights : Binds K d__law_lights ["bag", "many", "width", "most"] []
  a__law_rows : Addr
  d__law_rows : FuncData
  F__law_rows : Fun K "_law_rows" "_law_rows" s__law_rows a__law_rows d__law_rows
  m__law_rows : mg "_law_rows" = some (.ref a__law_rows)
  B__law_rows : Binds K d__law_rows ["bag", "many", "width"] []
  a__law_head : Addr
  d__law_head : FuncData
  F__law_head : Fun K "_law_head" "_law_head" s__law_head a__law_head d__law_head
  m__law_head : mg "_law_head" = some (.ref a__law_head)
  B__law_head : Binds K d__law_head ["bag", "width"] []
  a__law_look_fits : Addr
  d__law_look_fits : FuncData
  F__law_look_fits : Fun K "_law_look_fits" "_law_look_fits" s__law_look_fits a__law_look_fits d__law_look_fits
  m__law_look_fits : mg "_law_look_fits" = some (.ref a__law_look_fits)
  B__law_look_fits : Binds K d__law_look_fits ["bag", "rows_y", "state", "head_z", "at_z"] []
  a__law_raised : Addr
  d__law_raised : FuncData
  F__law_raised : Fun K "_law_raised" "_law_raised" s__law_raised a__law_raised d__law_raised
  m__law_raised : mg "_law_raised" = some (.ref a__law_raised)
  B__law_raised : Binds K d__law_raised ["items", "factor"] []
  a_law : Addr
  d_law : FuncData
  F_law : Fun K "law" "law" s_law a_law d_law
  m_law : mg "law" = some (.ref a_law)
  B_law : Binds K d_law ["script"] []
  Z_scores : KBn K d_scores ["rows", "head", "at"] 0 ["rows", "head", "at"] (fun _ ws => ws) (fun _ zs => zs)
  Z_looked_at : KBn K d_looked_at ["rows", "head", "at"] 0 ["rows", "head", "at"] (fun _ ws => ws) (fun _ zs => zs)
  Z_heads_done : KBn K d_heads_done ["rows", "heads"] 0 ["rows", "heads"] (fun _ ws => ws) (fun _ zs => zs)

end LK

set_option Elab.async false
set_option linter.all false
set_option maxRecDepth 100000
namespace LK
open PySem PySem.Spec PyProof.Rows L2
local macro_rules | `(tactic| walk_at "rs") => `(tactic| simp only [cxK, cxNK, tCallZ, tAsg, tOp, rI0, rS0, rB0, rI, rU, tUn, rEq, rNe, rIxL, rIxT, rIxS, rSetL, rSlLU, rSlS, rSlU, rCatL, rCatU, rRepL, rIn, tVar, tC, gName, gSub, tIfS, tTest, tB, tAnd, tOr, tNot, tNotV, tAndV, tOrV, tIf, tCall, tCons, tNil, tCB, tDrop, tRet, tRetN, tNext, tLstU, tTupU, tM0, tM1, tPar, tPar3, tAug, ipI, tBM, tBM0, rAppend, rPop, tBreak, tCont, tChain, tSl, tPart, tNoPart, L2.start, List.map, List.length_cons, List.length_nil, List.replicate, List.cons_append, List.nil_append, List.append_nil, List.getElem?_cons_zero, List.getElem?_cons_succ, List.set_cons_zero, List.set_cons_succ, Option.some.injEq, V.int.injEq, V.ref.injEq, V.str.injEq, V.bl.injEq, exists_eq_left', exists_eq_left, exists_and_left, decide_eq_true_eq, List.cons.injEq, and_true, true_and, scal, Bool.not_eq_true', decide_eq_false_iff_not, Nat.zero_add, Nat.reduceAdd, Nat.reduceSub, reduceCtorEq, false_and, exists_false, false_or, or_false, CPow, CPowW, CMul, CDiv, Int.reduceToNat, ↓reduceIte, wipe, sw, List.nil_append, List.singleton_append])
local macro_rules | `(tactic| walk_at "st") => `(tactic| (refine seq_op fun N hN => ?_; walk_at "rs"))
local macro_rules | `(tactic| walk_at "sd") => `(tactic| first | assumption | decide | omega)
local macro_rules | `(tactic| walk_at "rd") => `(tactic| repeat (first
  | refine ⟨_, SqL.of (by assumption), ?_⟩ | refine ⟨_, SqL.of upd_same, ?_⟩ | refine ⟨_, .inl (SqL.of (by assumption)), ?_⟩ | refine ⟨_, (by assumption : _ = some (HO.lst _)), ?_⟩ | refine ⟨_, upd_same, ?_⟩
  | refine ⟨_, rfl, ?_⟩ | refine And.intro (by walk_at "sd") ?_))

def spV (sp : List V → Hp → VK → Prop) : Sp := fun vs H Q _ => sp vs H Q
/-- the two fields of a BadValue -/
def badF (v : V) : List (Str × V) := [("code", .str "BadValue"), ("value", v)]
def sp_BadValue (C : Addr) : Sp := fun vs H Q _ => ∃ (a : Addr) (v : V), vs = [.ref a, v] ∧ H a = some (exo a C none) ∧
  ∀ dx, H dx = none → dx ≠ a → Q .non (L2.upd (L2.upd (L2.upd H dx (exd dx [("value", v)])) a (exo a C (some dx))) dx (exd dx (badF v)))
def isNum : PyData → Bool
  | .int _ => true
  | _ => false
def spP1 (K : PySem.W.Frag) (F : PyData → V) : Sp := fun vs H Q _ => ∃ v d, vs = [v] ∧ Dp K H v d ∧ ∀ H', Same H H' → Q (F d) H'
section
variable {P : Program} {w : World} {K : PySem.W.Frag} {mg : Str → Option Value} {base : Heap}
theorem ok_BadValue (T : Txt w K mg) : FnOk P w K mg base CX0 1 T.f_BadValue T.d_BadValue ["self", "value"] (sp_BadValue T.C_BadValue) := by
  refine T.F_BadValue.ok sc_BadValue (fun vs H Q E h => ?_) (fun cdv A outer s H vs Q E hr h => ?_)
  · obtain ⟨a, v, rfl, _⟩ := h
    rfl
  · obtain ⟨a, v, rfl, ha, k⟩ := h
    refine ⟨_, pss_cons (ps_ost (pv 0) (pv 1)) (pss_one (ps_ost (pv 0) pe_str)), ?_⟩
    refine seq_op fun N hN => ?_
    unfold tOst
    walk_at "rs"
    refine ⟨T.C_BadValue, T.X_BadValue, T.v_BadValue, .inl ⟨ha, fun dx hdx ne => hN _ _ ?_⟩⟩
    clear hN N
    unfold tOst
    walk_at "rs"
    refine ⟨T.C_BadValue, T.X_BadValue, T.c_BadValue, .inr ⟨dx, upd_same, [("value", v)], by rw [upd_ne ne]; exact upd_same, by simp, k dx hdx ne⟩⟩
theorem ok_is_number (T : Txt w K mg) : FnOk P w K mg base CX0 1 T.a_is_number T.d_is_number ["value"] (spP1 K fun d => .bl (isNum d)) := by
  refine T.F_is_number.ok sc_is_number (fun vs H Q E h => ?_) (fun cdv A outer s H vs Q E hr h => ?_)
  · obtain ⟨v, d, rfl, _⟩ := h
    rfl
  · obtain ⟨v, d, rfl, hD, k⟩ := h
    refine ⟨_, (pss_one (ps_ret (pe_and (pe_callB (call_isiDK (K := K) rfl) (by rfl) T.n_isinstance (by decide +kernel) (pa_cons (pv 0) (pa_cons (pe_bltn (v := .ty "int") (u := .type "int") (by rfl) T.n_int (by decide +kernel) rfl) pa_nil))) (pe_one (pe_not (pe_callB (call_isiDK (K := K) rfl) (by rfl) T.n_isinstance (by decide +kernel) (pa_cons (pv 0) (pa_cons (pe_bltn (v := .ty "bool") (u := .type "bool") (by rfl) T.n_bool (by decide +kernel) rfl) pa_nil)))))))), ?_⟩
    walk_at "rs"
    refine ⟨v, "int", ⟨rfl, rfl⟩, d, hD, by decide, ite2 (fun h => ⟨v, "bool", ⟨rfl, rfl⟩, d, hD, by decide, ?_⟩) (fun h => ?_)⟩
    · have e : isNum d = !isTy "bool" d := by cases d <;> first | rfl | cases h
      rw [← e]; exact k H (Same.refl _)
    · have e : isNum d = false := by cases d <;> first | rfl | (exact absurd rfl h)
      have q : Q (.bl (isNum d)) H := k H (Same.refl _)
      rw [e] at q; exact q
/-! ### lowest terms -/
def frG (p q : Int) : Int := if q < 0 then -((Nat.gcd p.natAbs q.natAbs : Nat) : Int) else ((Nat.gcd p.natAbs q.natAbs : Nat) : Int)
def frP (p q : Int) : Int := p.fdiv (frG p q)
def frQ (p q : Int) : Int := q.fdiv (frG p q)
def sp_fraction (C : Addr) : Sp := fun vs H Q E => ∃ p q : Int, vs = [.int p, .int q] ∧ p.natAbs.log2 < 9000 ∧ q.natAbs.log2 < 9000 ∧
  (q ≠ 0 → ∀ t H', Same H H' → H t = none → H' t = some (.tup [.int (frP p q), .int (frQ p q)]) → Q (.ref t) H') ∧
  (q = 0 → ∀ d H', Same H H' → H d = none → H' d = some (.xd (badF (.int q))) → E (.ref C) (some d) H')
theorem gcd_log {p q : Int} (h : q ≠ 0) : (Nat.gcd p.natAbs q.natAbs).log2 ≤ q.natAbs.log2 := by
  have h0 : q.natAbs ≠ 0 := by omega
  have le : Nat.gcd p.natAbs q.natAbs ≤ q.natAbs := Nat.le_of_dvd (by omega) (Nat.gcd_dvd_right _ _)
  have g0 : Nat.gcd p.natAbs q.natAbs ≠ 0 := fun e => h0 (Nat.eq_zero_of_gcd_eq_zero_right e)
  exact (Nat.le_log2 h0).mpr (Nat.le_trans (Nat.log2_self_le g0) le)
theorem mk_bad {C : Addr} {H1 : Hp} {v : V} {Qx : XK} (k : ∀ d H', Same H1 H' → H1 d = none → H' d = some (.xd (badF v)) → Qx (.ref C) (some d) H') : ∀ a, H1 a = none → sp_BadValue C (.ref a :: ([v] ++ [])) (L2.upd H1 a (exo a C none)) (fun v2 H2 => v2 = .non ∧ ∃ (d : Addr) (fs : List (Str × V)), H2 a = some (exo a C (some d)) ∧ H2 d = some (exd d fs) ∧ H1 d = none ∧ Qx (.ref C) (some d) (L2.upd (del H2 a) d (.xd fs))) E0 := by
  intro a ha
  refine ⟨a, v, rfl, upd_same, fun dx hdx ne => ⟨rfl, dx, badF v, ?_, upd_same, ?_, k dx _ ?_ ?_ upd_same⟩⟩
  · rw [upd_ne (Ne.symm ne), upd_same]
  · rw [upd_ne ne] at hdx; exact hdx
  · intro b o e
    rw [upd_ne ne] at hdx
    have n1 : b ≠ a := fun z => by rw [z, ha] at e; cases e
    have n2 : b ≠ dx := fun z => by rw [z, hdx] at e; cases e
    rw [upd_ne n2, del_ne n1, upd_ne n2, upd_ne n1, upd_ne n2, upd_ne n1]
    exact e
  · rw [upd_ne ne] at hdx; exact hdx
theorem mk_badT {C : Addr} {ta : TA} {σ : L2.St} {H0 H1 : Hp} {v : V} {Qx : XK} (ht : ∀ K : List V → Hp → Prop, K [v] H1 → ta σ H0 K) (k : ∀ d H', Same H1 H' → H1 d = none → H' d = some (.xd (badF v)) → Qx (.ref C) (some d) H') : tMkO C (sp_BadValue C) [] ta σ H0 Qx :=
  ht _ ⟨by simp, mk_bad k⟩
theorem ok_fraction (T : Txt w K mg) : FnOk P w K mg base (L2.CX P w) 3 T.a_fraction T.d_fraction ["p", "q"] (sp_fraction T.C_BadValue) := by
  refine T.F_fraction.ok sc_fraction (fun vs H Q E h => ?_) (fun cdv A outer s H vs Q E hr h => ?_)
  · obtain ⟨p, q, rfl, _⟩ := h
    rfl
  · obtain ⟨p, q, rfl, lp, lq, k, kE⟩ := h
    have hr_is_number : Room 1 _ := hr.mono (by decide)
    have G_is_number := ok_is_number (P := P) (base := base) T
    have hr_BadValue : Room 2 _ := hr.mono (by decide)
    have G_BadValue := ok_BadValue (P := P) (base := base) T
    refine ⟨_, (pss_cons (ps_if (PW.pt (pw_or (pt_not (pt_val (pe_call G_is_number hr_is_number (by rfl) T.m_is_number T.F_is_number.kp T.B_is_number .nil pass0 (pa_cons (pv 1) pa_nil)))) (pw_or1 (pt_cmpR op_eqI (pv 1) pe_int (nomark _))))) (pss_one (ps_raise rfl (takes_of rfl rfl rfl rfl) (pmk_oex T.X_BadValue T.i_BadValue T.t_BadValue G_BadValue hr_BadValue T.B_BadValue__init .nil pass0 (by rfl) T.m_BadValue (pa_cons (pv 1) pa_nil)))) pss_nil)
      (pss_cons (ps_set (i := 2) sc_fraction.nd rfl (Or.inl rfl) (pe_callBfun cr_gcd (by rfl) T.m_gcd (pa_cons (pv 0) (pa_cons (pv 1) pa_nil))))
      (pss_cons (ps_if (pt_cmpR op_lt (pv 1) pe_int (nomark _)) (pss_one (ps_set (i := 2) sc_fraction.nd rfl (Or.inl rfl) (pe_un un_neg (pv 2)))) pss_nil)
      (pss_one (ps_ret (pe_tupU (pa_cons (pe_op op_fdivF (pv 0) (pv 2)) (pa_cons (pe_op op_fdivF (pv 1) (pv 2)) pa_nil)))))))), ?_⟩
    refine seq_op fun N hN => ?_
    walk_at "rs"
    refine ⟨_, .int q, rfl, .int q, fun H1 s1 => ⟨true, rfl, iteFF (by decide) (ite2 (fun e => ?_) (fun e => hN _ _ ?_))⟩⟩
    · subst e
      exact mk_badT (fun K h => by walk_at "rs"; exact h) fun d H2 s2 hd h2 => kE rfl d H2 (Same.trans s1 s2) (Same.dom s1 d hd) h2
    clear hN N
    replace k := k e
    clear kE
    have g0 : (Nat.gcd p.natAbs q.natAbs : Nat) ≠ 0 := fun z => e (by have := Nat.eq_zero_of_gcd_eq_zero_right z; omega)
    have gl := gcd_log (p := p) e
    refine seq_op fun N hN => ?_
    walk_at "rs"
    refine ⟨p, q, rfl, hN _ _ ?_⟩
    clear hN N
    refine cut_seq (fun σ H2 => σ = [some (.int p), some (.int q), some (.int (frG p q))] ∧ H2 = H1) (fun N hN => ?_) ?_
    · walk_at "rs"
      unfold frG at hN
      refine ite2 (fun c => ?_) (fun c => ?_)
      · rw [if_pos c] at hN; exact hN _ _ ⟨rfl, rfl⟩
      · rw [if_neg c] at hN; exact hN _ _ ⟨rfl, rfl⟩
    · rintro σ H2 ⟨rfl, rfl⟩
      have n0 : frG p q ≠ 0 := by unfold frG; split <;> omega
      have nl : (frG p q).natAbs.log2 < 9000 := by
        have : (frG p q).natAbs = Nat.gcd p.natAbs q.natAbs := by unfold frG; split <;> omega
        rw [this]; omega
      walk_at "rs"
      exact ⟨⟨n0, nl⟩, ⟨n0, nl⟩, by decide, fun t H3 s3 h03 h3 => k t H3 (Same.trans s1 s3) (Same.dom s1 t h03) h3⟩
/-! ### the reckoning -/
def FrT (p q : Int) : V × V := (.int (frP p q), .int (frQ p q))
/-- a pair of whole numbers at a -/
def Pr (K : PySem.W.Frag) (H : Hp) (a : Addr) (p q : Int) : Prop := SqT K H a [.int p, .int q]
def sp_two (K : PySem.W.Frag) (f g : Int → Int → Int → Int → Int) : Sp := fun vs H Q _ => ∃ (a b : Addr) (p q r s : Int), vs = [.ref a, .ref b] ∧ Pr K H a p q ∧ Pr K H b r s ∧ p.natAbs < 2 ^ 4000 ∧ q.natAbs < 2 ^ 4000 ∧ r.natAbs < 2 ^ 4000 ∧ s.natAbs < 2 ^ 4000 ∧ g p q r s ≠ 0 ∧
  ∀ t H', Same H H' → H t = none → H' t = some (.tup [.int (frP (f p q r s) (g p q r s)), .int (frQ (f p q r s) (g p q r s))]) → Q (.ref t) H'
theorem two_add {i j : Int} {a : Nat} (hi : i.natAbs < 2 ^ a) (hj : j.natAbs < 2 ^ a) : (i + j).natAbs < 2 ^ (a + 1) := by
  have e : 2 ^ (a + 1) = 2 * 2 ^ a := Nat.pow_succ'
  omega
theorem two_sub {i j : Int} {a : Nat} (hi : i.natAbs < 2 ^ a) (hj : j.natAbs < 2 ^ a) : (i - j).natAbs < 2 ^ (a + 1) := by
  have e : 2 ^ (a + 1) = 2 * 2 ^ a := Nat.pow_succ'
  omega
theorem mulW {i j : Int} (hi : i.natAbs < 2 ^ 4000) (hj : j.natAbs < 2 ^ 4000) : CMulW i j := wide_mul hi hj (by decide) (by decide) (by decide)
theorem mulL {i j : Int} (hi : i.natAbs < 2 ^ 4000) (hj : j.natAbs < 2 ^ 4000) : (i * j).natAbs < 2 ^ 8000 := wide_lt (a := 4000) (b := 4000) hi hj
theorem logL {i : Int} {a : Nat} (h : i.natAbs < 2 ^ a) (h0 : 0 < a) (h9 : a ≤ 9000) : i.natAbs.log2 < 9000 := Nat.lt_of_lt_of_le (PySem.Flt.log2_lt_of h0 h) h9
theorem ok_plus (T : Txt w K mg) : FnOk P w K mg base CX0 4 T.a_plus T.d_plus ["a", "b"] (sp_two K (fun p q r s => p * s + r * q) fun _ q _ s => q * s) := by
  refine T.F_plus.ok sc_plus (fun vs H Q E h => ?_) (fun cdv A outer s H vs Q E hr h => ?_)
  · obtain ⟨a, b, p, q, r, s', rfl, _⟩ := h
    rfl
  · obtain ⟨a, b, p, q, r, s', rfl, ha, hb, lp, lq, lr, ls, n0, k⟩ := h
    have hr_fraction : Room 3 _ := hr.mono (by decide)
    have G_fraction := ok_fraction (P := P) (base := base) T
    refine ⟨_, (pss_one (ps_ret (pe_call G_fraction hr_fraction (by rfl) T.m_fraction T.F_fraction.kp T.B_fraction .nil passL (pa_cons (pe_op op_add (pe_op op_mulW (pe_ix ix_tup (pv 0) pe_int (fun _ _ => rfl)) (pe_ix ix_tup (pv 1) pe_int (fun _ _ => rfl))) (pe_op op_mulW (pe_ix ix_tup (pv 1) pe_int (fun _ _ => rfl)) (pe_ix ix_tup (pv 0) pe_int (fun _ _ => rfl)))) (pa_cons (pe_op op_mulW (pe_ix ix_tup (pv 0) pe_int (fun _ _ => rfl)) (pe_ix ix_tup (pv 1) pe_int (fun _ _ => rfl))) pa_nil))))), ?_⟩
    walk_at "rs"
    refine ⟨_, ha, _, rfl, _, hb, _, rfl, _, rfl, _, rfl, mulW lp ls, _, hb, _, rfl, _, ha, _, rfl, _, rfl, _, rfl, mulW lr lq, _, ha, _, rfl, _, hb, _, rfl, _, rfl, _, rfl, mulW lq ls, ?_⟩
    exact ⟨_, _, rfl, logL (two_add (mulL lp ls) (mulL lr lq)) (by decide) (by decide), logL (mulL lq ls) (by decide) (by decide), fun _ => k, fun e => absurd e n0⟩
theorem ok_times (T : Txt w K mg) : FnOk P w K mg base CX0 4 T.a_times T.d_times ["a", "b"] (sp_two K (fun p _ r _ => p * r) (fun _ q _ s => q * s)) := by
  refine T.F_times.ok sc_times (fun vs H Q E h => ?_) (fun cdv A outer s H vs Q E hr h => ?_)
  · obtain ⟨a, b, p, q, r, s', rfl, _⟩ := h
    rfl
  · obtain ⟨a, b, p, q, r, s', rfl, ha, hb, lp, lq, lr, ls, n0, k⟩ := h
    have hr_fraction : Room 3 _ := hr.mono (by decide)
    have G_fraction := ok_fraction (P := P) (base := base) T
    refine ⟨_, (pss_one (ps_ret (pe_call G_fraction hr_fraction (by rfl) T.m_fraction T.F_fraction.kp T.B_fraction .nil passL (pa_cons (pe_op op_mulW (pe_ix ix_tup (pv 0) pe_int (fun _ _ => rfl)) (pe_ix ix_tup (pv 1) pe_int (fun _ _ => rfl))) (pa_cons (pe_op op_mulW (pe_ix ix_tup (pv 0) pe_int (fun _ _ => rfl)) (pe_ix ix_tup (pv 1) pe_int (fun _ _ => rfl))) pa_nil))))), ?_⟩
    walk_at "rs"
    refine ⟨_, ha, _, rfl, _, hb, _, rfl, _, rfl, _, rfl, mulW lp lr, _, ha, _, rfl, _, hb, _, rfl, _, rfl, _, rfl, mulW lq ls, ?_⟩
    exact ⟨_, _, rfl, logL (mulL lp lr) (by decide) (by decide), logL (mulL lq ls) (by decide) (by decide), fun _ => k, fun e => absurd e n0⟩
theorem ok_below (T : Txt w K mg) : FnOk P w K mg base CX0 1 T.a_below T.d_below ["a", "b"] (fun vs H Q _ => ∃ (a b : Addr) (p q r s : Int), vs = [.ref a, .ref b] ∧ Pr K H a p q ∧ Pr K H b r s ∧ p.natAbs < 2 ^ 4000 ∧ q.natAbs < 2 ^ 4000 ∧ r.natAbs < 2 ^ 4000 ∧ s.natAbs < 2 ^ 4000 ∧ Q (.bl (decide (p * s < r * q))) H) := by
  refine T.F_below.ok sc_below (fun vs H Q E h => ?_) (fun cdv A outer s H vs Q E hr h => ?_)
  · obtain ⟨a, b, p, q, r, s', rfl, _⟩ := h
    rfl
  · obtain ⟨a, b, p, q, r, s', rfl, ha, hb, lp, lq, lr, ls, k⟩ := h
    refine ⟨_, (pss_one (ps_ret (pe_cmpR op_lt (pe_op op_mulW (pe_ix ix_tup (pv 0) pe_int (fun _ _ => rfl)) (pe_ix ix_tup (pv 1) pe_int (fun _ _ => rfl))) (pe_op op_mulW (pe_ix ix_tup (pv 1) pe_int (fun _ _ => rfl)) (pe_ix ix_tup (pv 0) pe_int (fun _ _ => rfl))) (nomark _)))), ?_⟩
    walk_at "rs"
    exact ⟨_, ha, _, rfl, _, hb, _, rfl, _, rfl, _, rfl, mulW lp ls, _, hb, _, rfl, _, ha, _, rfl, _, rfl, _, rfl, mulW lr lq, k⟩
end
end LK

set_option Elab.async false
set_option linter.all false
set_option maxRecDepth 100000
namespace LK
open PySem PySem.Spec PyProof.Rows L2
local macro_rules | `(tactic| walk_at "rs") => `(tactic| simp only [cxK, cxNK, tCallZ, tAsg, tOp, rI0, rS0, rB0, rI, rU, tUn, rEq, rNe, rIxL, rIxT, rIxS, rSetL, rSlLU, rSlS, rSlU, rCatL, rCatU, rRepL, rIn, tVar, tC, gName, gSub, tIfS, tTest, tB, tAnd, tOr, tNot, tNotV, tAndV, tOrV, tIf, tCall, tCons, tNil, tCB, tDrop, tRet, tRetN, tNext, tLstU, tTupU, tM0, tM1, tPar, tPar3, tAug, ipI, tBM, tBM0, rAppend, rPop, tBreak, tCont, tChain, tSl, tPart, tNoPart, L2.start, List.map, List.length_cons, List.length_nil, List.replicate, List.cons_append, List.nil_append, List.append_nil, List.getElem?_cons_zero, List.getElem?_cons_succ, List.set_cons_zero, List.set_cons_succ, Option.some.injEq, V.int.injEq, V.ref.injEq, V.str.injEq, V.bl.injEq, exists_eq_left', exists_eq_left, exists_and_left, decide_eq_true_eq, List.cons.injEq, and_true, true_and, scal, Bool.not_eq_true', decide_eq_false_iff_not, Nat.zero_add, Nat.reduceAdd, Nat.reduceSub, reduceCtorEq, false_and, exists_false, false_or, or_false, CPow, CPowW, CMul, CDiv, Int.reduceToNat, ↓reduceIte, wipe, sw, List.nil_append, List.singleton_append])
local macro_rules | `(tactic| walk_at "st") => `(tactic| (refine seq_op fun N hN => ?_; walk_at "rs"))
local macro_rules | `(tactic| walk_at "sd") => `(tactic| first | assumption | decide | omega)
local macro_rules | `(tactic| walk_at "rd") => `(tactic| repeat (first
  | refine ⟨_, SqL.of (by assumption), ?_⟩ | refine ⟨_, SqL.of upd_same, ?_⟩ | refine ⟨_, .inl (SqL.of (by assumption)), ?_⟩ | refine ⟨_, (by assumption : _ = some (HO.lst _)), ?_⟩ | refine ⟨_, upd_same, ?_⟩
  | refine ⟨_, rfl, ?_⟩ | refine And.intro (by walk_at "sd") ?_))

theorem eqv_zero (r s : Int) : PyData.eqv (.tuple [.int r, .int s]) (.tuple [.int 0, .int 1]) = (decide (r = 0) && decide (s = 1)) := by
  simp [PyData.eqv, PyData.eqvAll]
  rfl
theorem shaped2 (r s : Int) : SeqAt.shaped (.tuple [.int r, .int s]) = true := by rfl
theorem dp_pair {K : PySem.W.Frag} {H : Hp} {a : Addr} {p q : Int} (h : Pr K H a p q) : Dp K H (.ref a) (.tuple [.int p, .int q]) := .tup h (.cons (.int p) (.cons (.int q) .nil))
theorem abs_if (p : Int) : (if p < 0 then -p else p) = ((p.natAbs : Nat) : Int) := by split <;> omega
theorem fr_spec (p : Int) {q : Int} (h : q ≠ 0) : frP p q * frG p q = p ∧ frQ p q * frG p q = q ∧ 1 ≤ frQ p q ∧ Nat.gcd (frP p q).natAbs (frQ p q).natAbs = 1 ∧ (frP p q).natAbs ≤ p.natAbs ∧ (frQ p q).natAbs ≤ q.natAbs ∧ frG p q ≠ 0 := by
  have g0 : Nat.gcd p.natAbs q.natAbs ≠ 0 := fun z => h (by have := Nat.eq_zero_of_gcd_eq_zero_right z; omega)
  have ga : (frG p q).natAbs = Nat.gcd p.natAbs q.natAbs := by unfold frG; split <;> omega
  have gs : (0 < q ∧ 0 < frG p q) ∨ (q < 0 ∧ frG p q < 0) := by unfold frG; split <;> omega
  have gn : frG p q ≠ 0 := by omega
  have d1 : frG p q ∣ p := Int.natAbs_dvd_natAbs.mp (by rw [ga]; exact Nat.gcd_dvd_left _ _)
  have d2 : frG p q ∣ q := Int.natAbs_dvd_natAbs.mp (by rw [ga]; exact Nat.gcd_dvd_right _ _)
  obtain ⟨a, ea⟩ := d1
  obtain ⟨b, eb⟩ := d2
  have pa : frP p q = a := by
    unfold frP
    generalize frG p q = G at ea gn
    rw [ea, Int.mul_comm]
    exact Int.mul_fdiv_cancel _ gn
  have qb : frQ p q = b := by
    unfold frQ
    generalize frG p q = G at eb gn
    rw [eb, Int.mul_comm]
    exact Int.mul_fdiv_cancel _ gn
  rw [pa, qb]
  have na : p.natAbs = a.natAbs * Nat.gcd p.natAbs q.natAbs := by
    rw [← ga, ← Int.natAbs_mul, Int.mul_comm]; exact congrArg Int.natAbs ea
  have nb : q.natAbs = b.natAbs * Nat.gcd p.natAbs q.natAbs := by
    rw [← ga, ← Int.natAbs_mul, Int.mul_comm]; exact congrArg Int.natAbs eb
  have hg : Nat.gcd a.natAbs b.natAbs = 1 := by
    have e : Nat.gcd (a.natAbs * Nat.gcd p.natAbs q.natAbs) (b.natAbs * Nat.gcd p.natAbs q.natAbs) = Nat.gcd p.natAbs q.natAbs := by rw [← na, ← nb]
    rw [Nat.gcd_mul_right] at e
    exact Nat.eq_of_mul_eq_mul_right (Nat.pos_of_ne_zero g0) (by rw [e, Nat.one_mul])
  refine ⟨by rw [Int.mul_comm]; exact ea.symm, by rw [Int.mul_comm]; exact eb.symm, ?_, hg, ?_, ?_, gn⟩
  · generalize frG p q = G at eb gs
    rcases Int.lt_trichotomy b 0 with c | c | c
    · rcases gs with ⟨h1, h2⟩ | ⟨h1, h2⟩
      · have := Int.mul_neg_of_pos_of_neg h2 c; omega
      · have := Int.mul_pos_of_neg_of_neg h2 c; omega
    · rw [c, Int.mul_zero] at eb; omega
    · omega
  · rw [na]; exact Nat.le_mul_of_pos_right _ (Nat.pos_of_ne_zero g0)
  · rw [nb]; exact Nat.le_mul_of_pos_right _ (Nat.pos_of_ne_zero g0)
theorem pow_le {n a b : Nat} (h : n < 2 ^ a) (hab : a ≤ b) : n < 2 ^ b := Nat.lt_of_lt_of_le h (Nat.pow_le_pow_right (by decide) hab)
theorem abs_div (p : Int) {q : Int} (h : 1 ≤ q) : (p.fdiv q).natAbs ≤ p.natAbs := by
  rw [Int.fdiv_eq_ediv_of_nonneg p (by omega)]
  exact Int.natAbs_ediv_le_natAbs p q
theorem eqv_pair (p q r s : Int) : PyData.eqv (.tuple [.int p, .int q]) (.tuple [.int r, .int s]) = (decide (p = r) && decide (q = s)) := by
  simp [PyData.eqv, PyData.eqvAll]
  rfl
theorem fr_low {p q : Int} (h : 1 ≤ q) (hg : Nat.gcd p.natAbs q.natAbs = 1) : frP p q = p ∧ frQ p q = q := by
  have e : frG p q = 1 := by unfold frG; rw [hg, if_neg (by omega)]; rfl
  obtain ⟨h1, h2, _⟩ := fr_spec p (q := q) (by omega)
  rw [e, Int.mul_one] at h1 h2
  exact ⟨h1, h2⟩
theorem fr_unique {P Q p q : Int} (hQ : Q ≠ 0) (h : P * q = p * Q) (hq : 1 ≤ q) (hg : Nat.gcd p.natAbs q.natAbs = 1) : frP P Q = p ∧ frQ P Q = q := by
  obtain ⟨e1, e2, e3, e4, _, _, g0⟩ := fr_spec P hQ
  have h2 : frP P Q * q = p * frQ P Q := by
    have e : (frP P Q * q) * frG P Q = (p * frQ P Q) * frG P Q := by
      have a : (frP P Q * q) * frG P Q = (frP P Q * frG P Q) * q := by
        rw [Int.mul_assoc, Int.mul_comm q, ← Int.mul_assoc]
      have b : (p * frQ P Q) * frG P Q = p * (frQ P Q * frG P Q) := Int.mul_assoc _ _ _
      rw [a, b, e1, e2, h]
    exact Int.eq_of_mul_eq_mul_right g0 e
  have hn : (frP P Q).natAbs * q.natAbs = p.natAbs * (frQ P Q).natAbs := by rw [← Int.natAbs_mul, ← Int.natAbs_mul, h2]
  have d1 : q.natAbs ∣ (frQ P Q).natAbs := by
    have d : q.natAbs ∣ p.natAbs * (frQ P Q).natAbs := ⟨(frP P Q).natAbs, by rw [← hn, Nat.mul_comm]⟩
    exact Nat.Coprime.dvd_of_dvd_mul_left (Nat.Coprime.symm hg) d
  have d2 : (frQ P Q).natAbs ∣ q.natAbs := by
    have d : (frQ P Q).natAbs ∣ (frP P Q).natAbs * q.natAbs := ⟨p.natAbs, by rw [hn, Nat.mul_comm]⟩
    exact Nat.Coprime.dvd_of_dvd_mul_left (Nat.Coprime.symm e4) d
  have en := Nat.dvd_antisymm d1 d2
  have eq : frQ P Q = q := by omega
  refine ⟨?_, eq⟩
  rw [eq] at h2
  exact Int.eq_of_mul_eq_mul_right (by omega) h2
/-- what a fraction of P and Q is worth -/
theorem fr_worth (P : Int) {Q : Int} (hQ : Q ≠ 0) : frP P Q * Q = P * frQ P Q := by
  obtain ⟨e1, e2, _⟩ := fr_spec P hQ
  have : frP P Q * Q = frP P Q * (frQ P Q * frG P Q) := by rw [e2]
  rw [this, Int.mul_comm (frQ P Q), ← Int.mul_assoc, e1]
end LK

set_option Elab.async false
set_option linter.all false
set_option maxRecDepth 100000
namespace LK
open PySem PySem.Spec PyProof.Rows L2
local macro_rules | `(tactic| walk_at "rs") => `(tactic| simp only [cxK, cxNK, tCallZ, tAsg, tOp, rI0, rS0, rB0, rI, rU, tUn, rEq, rNe, rIxL, rIxT, rIxS, rSetL, rSlLU, rSlS, rSlU, rCatL, rCatU, rRepL, rIn, tVar, tC, gName, gSub, tIfS, tTest, tB, tAnd, tOr, tNot, tNotV, tAndV, tOrV, tIf, tCall, tCons, tNil, tCB, tDrop, tRet, tRetN, tNext, tLstU, tTupU, tM0, tM1, tPar, tPar3, tAug, ipI, tBM, tBM0, rAppend, rPop, tBreak, tCont, tChain, tSl, tPart, tNoPart, L2.start, List.map, List.length_cons, List.length_nil, List.replicate, List.cons_append, List.nil_append, List.append_nil, List.getElem?_cons_zero, List.getElem?_cons_succ, List.set_cons_zero, List.set_cons_succ, Option.some.injEq, V.int.injEq, V.ref.injEq, V.str.injEq, V.bl.injEq, exists_eq_left', exists_eq_left, exists_and_left, decide_eq_true_eq, List.cons.injEq, and_true, true_and, scal, Bool.not_eq_true', decide_eq_false_iff_not, Nat.zero_add, Nat.reduceAdd, Nat.reduceSub, reduceCtorEq, false_and, exists_false, false_or, or_false, CPow, CPowW, CMul, CDiv, Int.reduceToNat, ↓reduceIte, wipe, sw, List.nil_append, List.singleton_append])
local macro_rules | `(tactic| walk_at "st") => `(tactic| (refine seq_op fun N hN => ?_; walk_at "rs"))
local macro_rules | `(tactic| walk_at "sd") => `(tactic| first | assumption | decide | omega)
local macro_rules | `(tactic| walk_at "rd") => `(tactic| repeat (first
  | refine ⟨_, SqL.of (by assumption), ?_⟩ | refine ⟨_, SqL.of upd_same, ?_⟩ | refine ⟨_, .inl (SqL.of (by assumption)), ?_⟩ | refine ⟨_, (by assumption : _ = some (HO.lst _)), ?_⟩ | refine ⟨_, upd_same, ?_⟩
  | refine ⟨_, rfl, ?_⟩ | refine And.intro (by walk_at "sd") ?_))

abbrev Fr := Int × Int
/-- the fraction f, in lowest terms, is X parts of L -/
def Va (L X : Int) (f : Fr) : Prop := 1 ≤ f.2 ∧ Nat.gcd f.1.natAbs f.2.natAbs = 1 ∧ f.1 * L = X * f.2
theorem Va.dvd {L X : Int} {f : Fr} (h : Va L X f) : f.2 ∣ L := by
  obtain ⟨h1, h2, h3⟩ := h
  have d : f.2.natAbs ∣ f.1.natAbs * L.natAbs := ⟨X.natAbs, by rw [← Int.natAbs_mul, h3, Int.natAbs_mul, Nat.mul_comm]⟩
  exact Int.natAbs_dvd_natAbs.mp (Nat.Coprime.dvd_of_dvd_mul_left (Nat.Coprime.symm h2) d)
theorem Va.den {L X : Int} {f : Fr} (h : Va L X f) (hL : 0 < L) : f.2.natAbs ≤ L.natAbs := Nat.le_of_dvd (by omega) (Int.natAbs_dvd_natAbs.mpr h.dvd)
theorem Va.num {L X : Int} {f : Fr} (h : Va L X f) (hL : 0 < L) : f.1.natAbs ≤ X.natAbs := by
  have hd := h.den hL
  have e : f.1.natAbs * L.natAbs = X.natAbs * f.2.natAbs := by rw [← Int.natAbs_mul, ← Int.natAbs_mul, h.2.2]
  have : f.1.natAbs * L.natAbs ≤ X.natAbs * L.natAbs := by rw [e]; exact Nat.mul_le_mul_left _ hd
  exact Nat.le_of_mul_le_mul_right this (by omega)
theorem Va.zero (L : Int) : Va L 0 (0, 1) := ⟨by decide, by decide, by simp⟩
theorem Va.scale {L X : Int} {f : Fr} (h : Va L X f) (k : Int) : Va (L * k) (X * k) f := ⟨h.1, h.2.1, by rw [← Int.mul_assoc, h.2.2, Int.mul_assoc, Int.mul_assoc, Int.mul_comm k]⟩
theorem Va.plus {L X Y : Int} {f g : Fr} (h : Va L X f) (h' : Va L Y g) : Va L (X + Y) (frP (f.1 * g.2 + g.1 * f.2) (f.2 * g.2), frQ (f.1 * g.2 + g.1 * f.2) (f.2 * g.2)) ∧ f.2 * g.2 ≠ 0 := by
  have q0 : f.2 * g.2 ≠ 0 := Int.mul_ne_zero (by have := h.1; omega) (by have := h'.1; omega)
  have wo := fr_worth (f.1 * g.2 + g.1 * f.2) q0
  obtain ⟨_, _, e3, e4, _⟩ := fr_spec (f.1 * g.2 + g.1 * f.2) q0
  refine ⟨⟨e3, e4, ?_⟩, q0⟩
  dsimp only
  generalize frP (f.1 * g.2 + g.1 * f.2) (f.2 * g.2) = P at wo
  generalize frQ (f.1 * g.2 + g.1 * f.2) (f.2 * g.2) = Q at wo
  refine Int.eq_of_mul_eq_mul_right q0 ?_
  have e1 := h.2.2
  have e2 := h'.2.2
  have a1 : P * L * (f.2 * g.2) = (P * (f.2 * g.2)) * L := by simp only [Int.mul_assoc, Int.mul_comm, Int.mul_left_comm]
  have a2 : (f.1 * g.2 + g.1 * f.2) * Q * L = ((f.1 * L) * g.2 + (g.1 * L) * f.2) * Q := by simp only [Int.add_mul, Int.mul_add, Int.mul_assoc, Int.mul_comm, Int.mul_left_comm]
  rw [a1, wo, a2, e1, e2]
  simp only [Int.add_mul, Int.mul_add, Int.mul_assoc, Int.mul_comm, Int.mul_left_comm]
theorem Va.times {L M X Y : Int} {f g : Fr} (h : Va L X f) (h' : Va M Y g) : Va (L * M) (X * Y) (frP (f.1 * g.1) (f.2 * g.2), frQ (f.1 * g.1) (f.2 * g.2)) ∧ f.2 * g.2 ≠ 0 := by
  have q0 : f.2 * g.2 ≠ 0 := Int.mul_ne_zero (by have := h.1; omega) (by have := h'.1; omega)
  have wo := fr_worth (f.1 * g.1) q0
  obtain ⟨_, _, e3, e4, _⟩ := fr_spec (f.1 * g.1) q0
  refine ⟨⟨e3, e4, ?_⟩, q0⟩
  dsimp only
  generalize frP (f.1 * g.1) (f.2 * g.2) = P at wo
  generalize frQ (f.1 * g.1) (f.2 * g.2) = Q at wo
  refine Int.eq_of_mul_eq_mul_right q0 ?_
  have e1 := h.2.2
  have e2 := h'.2.2
  have a1 : P * (L * M) * (f.2 * g.2) = (P * (f.2 * g.2)) * (L * M) := by simp only [Int.mul_assoc, Int.mul_comm, Int.mul_left_comm]
  have a2 : f.1 * g.1 * Q * (L * M) = (f.1 * L) * (g.1 * M) * Q := by simp only [Int.mul_assoc, Int.mul_comm, Int.mul_left_comm]
  rw [a1, wo, a2, e1, e2]
  simp only [Int.mul_assoc, Int.mul_comm, Int.mul_left_comm]
theorem low_eq {f g : Fr} (hf : 1 ≤ f.2) (gf : Nat.gcd f.1.natAbs f.2.natAbs = 1) (hg : 1 ≤ g.2) (gg : Nat.gcd g.1.natAbs g.2.natAbs = 1) (e : f.1 * g.2 = g.1 * f.2) : f = g := by
  obtain ⟨a, b⟩ := fr_unique (P := f.1) (Q := f.2) (p := g.1) (q := g.2) (by omega) e hg gg
  obtain ⟨c, d⟩ := fr_low hf gf
  exact Prod.ext (by rw [← a, c]) (by rw [← b, d])
theorem Va.uniq {L X : Int} {f g : Fr} (hL : 0 < L) (h : Va L X f) (h' : Va L X g) : f = g := by
  refine low_eq h.1 h.2.1 h'.1 h'.2.1 ?_
  refine Int.eq_of_mul_eq_mul_right (show L ≠ 0 by omega) ?_
  have e1 := h.2.2
  have e2 := h'.2.2
  have a1 : f.1 * g.2 * L = (f.1 * L) * g.2 := by simp only [Int.mul_assoc, Int.mul_comm, Int.mul_left_comm]
  have a2 : g.1 * f.2 * L = (g.1 * L) * f.2 := by simp only [Int.mul_assoc, Int.mul_comm, Int.mul_left_comm]
  rw [a1, a2, e1, e2]
  simp only [Int.mul_assoc, Int.mul_comm, Int.mul_left_comm]
theorem Va.pos {L X : Int} {f : Fr} (hL : 0 < L) (h : Va L X f) : 0 < f.1 ↔ 0 < X := by
  have e := h.2.2
  have q1 := h.1
  constructor
  · intro p
    have := Int.mul_pos p hL
    rw [e] at this
    exact Int.pos_of_mul_pos_left this (by omega)
  · intro p
    have := Int.mul_pos p (show 0 < f.2 by omega)
    rw [← e] at this
    exact Int.pos_of_mul_pos_left this hL
/-- the parts of M that f has -/
def num (M : Int) (f : Fr) : Int := f.1 * (M / f.2)
theorem num_va {M : Int} {f : Fr} (h1 : 1 ≤ f.2) (hg : Nat.gcd f.1.natAbs f.2.natAbs = 1) (hd : f.2 ∣ M) : Va M (num M f) f := by
  refine ⟨h1, hg, ?_⟩
  unfold num
  rw [Int.mul_assoc, Int.ediv_mul_cancel hd]
end LK

set_option Elab.async false
set_option linter.all false
set_option maxRecDepth 100000
namespace LK
open PySem PySem.Spec PyProof.Rows L2
local macro_rules | `(tactic| walk_at "rs") => `(tactic| simp only [cxK, cxNK, tCallZ, tAsg, tOp, rI0, rS0, rB0, rI, rU, tUn, rEq, rNe, rIxL, rIxT, rIxS, rSetL, rSlLU, rSlS, rSlU, rCatL, rCatU, rRepL, rIn, tVar, tC, gName, gSub, tIfS, tTest, tB, tAnd, tOr, tNot, tNotV, tAndV, tOrV, tIf, tCall, tCons, tNil, tCB, tDrop, tRet, tRetN, tNext, tLstU, tTupU, tM0, tM1, tPar, tPar3, tAug, ipI, tBM, tBM0, rAppend, rPop, tBreak, tCont, tChain, tSl, tPart, tNoPart, L2.start, List.map, List.length_cons, List.length_nil, List.replicate, List.cons_append, List.nil_append, List.append_nil, List.getElem?_cons_zero, List.getElem?_cons_succ, List.set_cons_zero, List.set_cons_succ, Option.some.injEq, V.int.injEq, V.ref.injEq, V.str.injEq, V.bl.injEq, exists_eq_left', exists_eq_left, exists_and_left, decide_eq_true_eq, List.cons.injEq, and_true, true_and, scal, Bool.not_eq_true', decide_eq_false_iff_not, Nat.zero_add, Nat.reduceAdd, Nat.reduceSub, reduceCtorEq, false_and, exists_false, false_or, or_false, CPow, CPowW, CMul, CDiv, Int.reduceToNat, ↓reduceIte, wipe, sw, List.nil_append, List.singleton_append])
local macro_rules | `(tactic| walk_at "st") => `(tactic| (refine seq_op fun N hN => ?_; walk_at "rs"))
local macro_rules | `(tactic| walk_at "sd") => `(tactic| first | assumption | decide | omega)
local macro_rules | `(tactic| walk_at "rd") => `(tactic| repeat (first
  | refine ⟨_, SqL.of (by assumption), ?_⟩ | refine ⟨_, SqL.of upd_same, ?_⟩ | refine ⟨_, .inl (SqL.of (by assumption)), ?_⟩ | refine ⟨_, (by assumption : _ = some (HO.lst _)), ?_⟩ | refine ⟨_, upd_same, ?_⟩
  | refine ⟨_, rfl, ?_⟩ | refine And.intro (by walk_at "sd") ?_))

section
variable {P : Program} {w : World} {K : PySem.W.Frag} {mg : Str → Option Value} {base : Heap}
theorem ok__law_draw (T : Txt w K mg) : FnOk P w K mg base CX0 1 T.a__law_draw T.d__law_draw ["bag", "many"] sp__law_draw := by
  refine T.F__law_draw.ok sc__law_draw (fun vs H Q E h => ?_) (fun cdv A outer s H vs Q E hr h => ?_)
  · obtain ⟨b, c, n, N0, rfl, _⟩ := h
    rfl
  · obtain ⟨b, c, n, N0, rfl, ⟨cells, i, g, m, d, hB, hC, ncb, hi, hm, hm2, hd, hd2⟩, n0, n1, k⟩ := h
    refine ⟨_, (pss_cons (ps_asg (pe_op op_add (pe_ix ix_list (pv 0) pe_int (fun _ _ => rfl)) pe_int) (pg_sub (pv 0) pe_int set_list))
      (pss_cons (ps_if (PW.pt (pw_and (pt_cmpR op_eqI (pe_ix ix_list (pv 0) pe_int (fun _ _ => rfl)) pe_int (nomark _)) (pw_and1 (pt_cmpR op_lt (pe_ix ix_list (pv 0) pe_int (fun _ _ => rfl)) (pe_callB call_len_seq (by rfl) T.n_len (by decide +kernel) (pa_cons (pe_ix ix_list (pv 0) pe_int (fun _ _ => rfl)) pa_nil)) (nomark _))))) (pss_cons (ps_set (i := 2) sc__law_draw.nd rfl (Or.inl rfl) (pe_callTy call_intI (by rfl) T.n_int (by decide +kernel) (pa_cons (pe_ix ix_list (pe_ix ix_list (pv 0) pe_int (fun _ _ => rfl)) (pe_ix ix_list (pv 0) pe_int (fun _ _ => rfl)) (fun _ _ => rfl)) pa_nil)))
      (pss_cons (ps_asg (pe_op op_add (pe_ix ix_list (pv 0) pe_int (fun _ _ => rfl)) pe_int) (pg_sub (pv 0) pe_int set_list))
      (pss_one (ps_if (pt_cmpR op_ge (pv 2) (pe_op op_powW pe_int pe_int) (nomark _)) (pss_one (ps_asg (pv 2) (pg_sub (pv 0) pe_int set_list))) (pss_one (ps_asg (pe_op op_mod (pe_callTy call_intI (by rfl) T.n_int (by decide +kernel) (pa_cons (pe_op op_powW (pe_op op_add (pe_op op_add (pe_ix ix_list (pv 0) pe_int (fun _ _ => rfl)) (pe_op op_mul (pe_op op_mod (pe_callTy call_intI (by rfl) T.n_int (by decide +kernel) (pa_cons (pv 2) pa_nil)) pe_int) pe_int)) pe_int) pe_int) pa_nil)) pe_int) (pg_sub (pv 0) pe_int set_list))))))) pss_nil)
      (pss_cons (ps_if (pt_cmpR op_gt (pe_ix ix_list (pv 0) pe_int (fun _ _ => rfl)) pe_int (nomark _)) (pss_cons (ps_set (i := 3) sc__law_draw.nd rfl (Or.inl rfl) (pe_op op_mod (pe_callTy call_intI (by rfl) T.n_int (by decide +kernel) (pa_cons (pe_ix ix_list (pv 0) pe_int (fun _ _ => rfl)) pa_nil)) (pv 1)))
      (pss_cons (ps_asg (pe_op op_fdivW (pe_callTy call_intI (by rfl) T.n_int (by decide +kernel) (pa_cons (pe_ix ix_list (pv 0) pe_int (fun _ _ => rfl)) pa_nil)) (pv 1)) (pg_sub (pv 0) pe_int set_list))
      (pss_one (ps_ret (pv 3))))) pss_nil)
      (pss_cons (ps_asg (pe_op op_mod (pe_callTy call_intI (by rfl) T.n_int (by decide +kernel) (pa_cons (pe_op op_powW (pe_op op_add (pe_op op_add (pe_ix ix_list (pv 0) pe_int (fun _ _ => rfl)) (pe_op op_mul (pe_ix ix_list (pv 0) pe_int (fun _ _ => rfl)) pe_int)) pe_int) pe_int) pa_nil)) pe_int) (pg_sub (pv 0) pe_int set_list))
      (pss_one (ps_ret (pe_op op_mod (pe_callTy call_intI (by rfl) T.n_int (by decide +kernel) (pa_cons (pe_op op_fdivW (pe_ix ix_list (pv 0) pe_int (fun _ _ => rfl)) pe_int) pa_nil)) (pv 1)))))))), ?_⟩
    -- bag[4] = bag[4] + 1
    refine seq_op fun N hN => ?_
    walk_at "rs"
    refine ⟨_, SqL.of hB, _, rfl, _, rfl, _, hB, _, rfl, ?_⟩
    refine hN _ _ ?_
    clear hN N
    -- if bag[2] == 0 and bag[1] < len(bag[0]): ..
    have B1 : Bag N0 (upd H b (.lst [.ref c, .int i, .int g, .int m, .int (d + 1)])) b c := ⟨cells, i, g, m, d + 1, upd_same, by rw [upd_ne ncb]; exact hC, ncb, hi, hm, hm2, by omega, by omega⟩
    have K1 : Kp b H (upd H b (.lst [.ref c, .int i, .int g, .int m, .int (d + 1)])) := Kp.upd
    show tSeq _ _ _ _ (upd H b (.lst [.ref c, .int i, .int g, .int m, .int (d + 1)]))
    generalize upd H b (.lst [.ref c, .int i, .int g, .int m, .int (d + 1)]) = H1 at B1 K1 ⊢
    clear hB hC ncb hi hm hm2 hd hd2 i g m d cells
    refine cut_seq (fun σ H2 => ∃ x, σ = [some (.ref b), some (.int n), x, none] ∧ Bag N0 H2 b c ∧ Kp b H H2) (fun N hN => ?_) ?_
    · obtain ⟨cells, i, g, m, d, hB, hC, ncb, hi, hm, hm2, hd, hd2⟩ := id B1
      walk_at "rs"
      refine ⟨_, SqL.of hB, _, rfl, _, rfl, ite2 (fun z => ?_) (fun _ => hN _ _ ⟨_, rfl, B1, K1⟩)⟩
      refine ⟨_, SqL.of hB, _, rfl, _, SqL.of hB, _, rfl, _, rfl, _, .inl (SqL.of hC), _, rfl, ite2 (fun zl => ?_) (fun _ => hN _ _ ⟨_, rfl, B1, K1⟩)⟩
      -- cell = bag[0][bag[1]]
      rw [List.length_map] at zl
      obtain ⟨cl, hcl⟩ : ∃ cl, cells[i.toNat]? = some cl := ⟨cells[i.toNat]'(by omega), List.getElem?_eq_getElem _⟩
      refine seq_op fun N2 hN2 => ?_
      walk_at "rs"
      walk_at "rd"
      refine ⟨_, _, rfl, SqL.of hC, _, at_of (j := i.toNat) (v := .int cl) (by omega) (by rw [List.getElem?_map, hcl] <;> rfl), cl, rfl, hN2 _ _ ?_⟩
      clear hN2 N2
      -- bag[1] = bag[1] + 1
      refine seq_op fun N2 hN2 => ?_
      walk_at "rs"
      walk_at "rd"
      refine hN2 _ _ ?_
      clear hN2 N2
      -- if cell >= 10 ** 18: bag[2] = cell else: ..
      walk_at "rs"
      refine ⟨by decide, ite2 (fun _ => ?_) (fun _ => ?_)⟩
      · refine ⟨_, upd_same, _, rfl, hN _ _ ⟨_, rfl, ?_, ?_⟩⟩
        · exact ⟨cells, i + 1, cl, m, d, upd_same, by rw [upd_ne ncb, upd_ne ncb]; exact hC, ncb, by omega, hm, hm2, hd, hd2⟩
        · exact K1.trans (Kp.upd.trans Kp.upd)
      · walk_at "rd"
        refine hN _ _ ⟨_, rfl, ?_, ?_⟩
        · exact ⟨cells, i + 1, g, _, d, upd_same, by rw [upd_ne ncb, upd_ne ncb]; exact hC, ncb, by omega, Int.emod_nonneg _ (by decide), Int.emod_lt_of_pos _ (by decide), hd, hd2⟩
        · exact K1.trans (Kp.upd.trans Kp.upd)
    · rintro σ H2 ⟨x, rfl, B2, K2⟩
      obtain ⟨cells, i, g, m, d, hB, hC, ncb, hi, hm, hm2, hd, hd2⟩ := id B2
      -- if bag[2] > 0: ..
      refine seq_op fun N hN => ?_
      walk_at "rs"
      refine ⟨_, SqL.of hB, _, rfl, _, rfl, ite2 (fun _ => ?_) (fun _ => hN _ _ ?_)⟩
      · refine seq_op fun N2 hN2 => ?_
        walk_at "rs"
        walk_at "rd"
        refine hN2 _ _ ?_
        clear hN2 N2
        refine seq_op fun N2 hN2 => ?_
        walk_at "rs"
        refine ⟨_, SqL.of hB, _, rfl, _, rfl, ⟨n0, Nat.lt_trans (PySem.Flt.log2_lt_of (by decide : 0 < 30) (show n.natAbs < 2 ^ 30 by omega)) (by decide)⟩, ?_⟩
        walk_at "rd"
        refine hN2 _ _ ?_
        walk_at "rs"
        exact k _ _ (Int.emod_nonneg _ (by omega)) (Int.emod_lt_of_pos _ n0) ⟨cells, i, _, m, d, upd_same, by rw [upd_ne ncb]; exact hC, ncb, hi, hm, hm2, hd, hd2⟩ (K2.trans Kp.upd)
      · clear hN N
        refine seq_op fun N hN => ?_
        walk_at "rs"
        refine ⟨_, SqL.of hB, _, rfl, _, SqL.of hB, _, rfl, _, rfl, .inr (by decide), m, rfl, ⟨by decide, by decide, by omega⟩, by decide, ?_⟩
        walk_at "rd"
        refine hN _ _ ?_
        clear hN N
        walk_at "rs"
        walk_at "rd"
        exact ⟨⟨by decide, Nat.lt_trans (PySem.Flt.log2_lt_of (by decide : 0 < 31) (by decide)) (by decide)⟩, n0, k _ _ (Int.emod_nonneg _ (by omega)) (Int.emod_lt_of_pos _ n0) ⟨cells, i, g, _, d, upd_same, by rw [upd_ne ncb]; exact hC, ncb, hi, Int.emod_nonneg _ (by decide), Int.emod_lt_of_pos _ (by decide), hd, hd2⟩ (K2.trans Kp.upd)⟩

theorem ok__law_of (T : Txt w K mg) : FnOk P w K mg base CX0 2 T.a__law_of T.d__law_of ["bag", "things"] (sp__law_of K) := by
  refine T.F__law_of.ok sc__law_of (fun vs H Q E h => ?_) (fun cdv A outer s H vs Q E hr h => ?_)
  · obtain ⟨b, c, x, ys, N0, rfl, _⟩ := h
    rfl
  · obtain ⟨b, c, x, ys, N0, rfl, B, sq, sqb, ne, hl, k⟩ := h
    have hr__law_draw : Room 1 _ := hr.mono (by decide)
    have G__law_draw := ok__law_draw (P := P) (base := base) T
    refine ⟨_, (pss_one (ps_ret (pe_ix ix_seq (pv 1) (pe_call G__law_draw hr__law_draw (by rfl) T.m__law_draw T.F__law_draw.kp T.B__law_draw .nil pass0 (pa_cons (pv 0) (pa_cons (pe_callB call_len (by rfl) T.n_len (by decide +kernel) (pa_cons (pv 1) pa_nil)) pa_nil))) (fun _ _ => rfl)))), ?_⟩
    walk_at "rs"
    have ln : 0 < ys.length := by cases ys with | nil => exact absurd rfl ne | cons => exact Nat.succ_pos _
    have pick : ∀ (r : Int), 0 ≤ r → r < (ys.length : Int) → ∃ y, atI ys r = some y ∧ y ∈ ys := fun r r0 r1 => by
      have h1 : r.toNat < ys.length := by omega
      exact ⟨ys[r.toNat], at_of (j := r.toNat) (by omega) (List.getElem?_eq_getElem h1), List.getElem_mem h1⟩
    refine ⟨ys.length, ?_, b, c, _, N0, rfl, B, by omega, by omega, fun r H' r0 r1 B' K' => ?_⟩
    · rcases sq with ⟨p, rfl, h⟩ | ⟨p, rfl, h⟩ | ⟨z, rfl, hz, rfl⟩
      · exact .inl ⟨_, h, rfl⟩
      · exact .inr ⟨_, h, rfl⟩
      · refine ⟨Nat.le_trans hz (by decide), ?_⟩
        rw [List.length_map, Array.length_toList] <;> rfl
    · obtain ⟨y, e, hy⟩ := pick r r0 r1
      rcases sqb with ⟨p, rfl, h⟩ | ⟨p, rfl, h⟩ | ⟨z, rfl, hz, rfl⟩
      · exact .inl ⟨p, ys, r, y, rfl, rfl, Same.seq (hb_le _ _) (Same.seq K' h), e, k y H' hy B' K'⟩
      · exact .inr (.inl ⟨p, ys, r, y, rfl, rfl, Same.seqT (hb_le _ _) (Same.seqT K' h), e, k y H' hy B' K'⟩)
      · refine .inr (.inr ?_)
        have h1 : r.toNat < z.cps.toList.length := by rw [List.length_map] at r1; omega
        have e2 : atI z.cps.toList r = some z.cps.toList[r.toNat] := at_ofN (j := r.toNat) (by omega) (List.getElem?_eq_getElem h1)
        refine ⟨z, r, _, rfl, rfl, Nat.le_trans hz (by decide), e2, k _ H' ?_ B' K'⟩
        exact List.mem_map.mpr ⟨_, List.getElem_mem h1, rfl⟩
theorem ok__law_bag (T : Txt w K mg) : FnOk P w K mg base CX0 1 T.a__law_bag T.d__law_bag ["script"] (sp__law_bag K) := by
  refine T.F__law_bag.ok sc__law_bag (fun vs H Q E h => ?_) (fun cdv A outer s H vs Q E hr h => ?_)
  · obtain ⟨a, ns, rfl, _⟩ := h
    rfl
  · obtain ⟨a, ns, rfl, hS, hl, k⟩ := h
    refine ⟨_, (pss_cons (ps_set (i := 1) sc__law_bag.nd rfl (Or.inl rfl) pe_int)
      (pss_cons (ps_for PassesOwn.never rfl (pi_list (pe_slice sl_listU (pv 0) po_none (po_some pe_int))) (pg_name (i := 2) sc__law_bag.nd rfl (Or.inl rfl)) (pss_one (ps_set (i := 1) sc__law_bag.nd rfl (Or.inl rfl) (pe_op op_mod (pe_callTy call_intI (by rfl) T.n_int (by decide +kernel) (pa_cons (pe_op op_powW (pe_op op_add (pe_op op_add (pv 1) (pe_op op_mod (pe_callTy call_intI (by rfl) T.n_int (by decide +kernel) (pa_cons (pv 2) pa_nil)) pe_int)) pe_int) pe_int) pa_nil)) pe_int))))
      (pss_one (ps_ret (pe_lstU (pa_cons (pe_callTy call_listU (by rfl) T.n_list (by decide +kernel) (pa_cons (pe_slice sl_listU (pv 0) po_none (po_some pe_int)) pa_nil)) (pa_cons pe_int (pa_cons pe_int (pa_cons (pv 1) (pa_cons pe_int pa_nil)))))))))), ?_⟩
    refine seq_op fun N hN => ?_
    walk_at "rs"
    refine hN _ _ ?_
    clear hN N
    refine cut_seq (fun σ H2 => ∃ m x, σ = [some (.ref a), some (.int m), x] ∧ 0 ≤ m ∧ m < 2305843009213693951 ∧ Same H H2) (fun N hN => ?_) ?_
    · refine ⟨_, rfl, _, rfl, a, _, rfl, hS, fun p H1 s1 h0 h1 => ?_⟩
      refine ⟨p, rfl, ⟨_, SqL.of h1⟩, for_list (K := K) (a := p) (xs := cutV (ns.map V.int) none (some 63)) (fun i σ H2 => ∃ m x, σ = [some (.ref a), some (.int m), x] ∧ 0 ≤ m ∧ m < 2305843009213693951 ∧ Same H1 H2) ⟨_, _, rfl, by decide, by decide, Same.refl _⟩ (fun i σ H2 _ ⟨_, _, _, _, _, s2⟩ => SqL.of (s2 _ _ h1)) ?_ ?_⟩
      · rintro i y σ H2 hi ⟨m, x, rfl, m0, m1, s2⟩
        obtain ⟨u, rfl⟩ : ∃ u, y = V.int u := by
          have q := List.mem_of_getElem? hi
          have q2 : y ∈ (ns.map V.int).take 63 := (cutV_take (ns.map V.int) 63) ▸ q
          obtain ⟨u, _, rfl⟩ := List.mem_map.mp (List.mem_of_mem_take q2)
          exact ⟨u, rfl⟩
        walk_at "rs"
        have u0 := Int.emod_nonneg u (show (2305843009213693921 : Int) ≠ 0 by decide)
        have u1 := Int.emod_lt_of_pos u (show (0 : Int) < 2305843009213693921 by decide)
        refine ⟨by decide, ⟨by decide, by decide, by omega⟩, by decide, ?_⟩
        exact ⟨_, _, ⟨rfl, rfl⟩, Int.emod_nonneg _ (by decide), Int.emod_lt_of_pos _ (by decide), s2⟩
      · rintro σ H2 ⟨m, x, rfl, m0, m1, s2⟩
        exact hN _ _ ⟨m, x, rfl, m0, m1, Same.trans s1 s2⟩
    · rintro σ H2 ⟨m, x, rfl, m0, m1, s2⟩
      walk_at "rs"
      refine ⟨_, Same.seq s2 hS, fun p H3 s3 h30 h3 => ⟨_, .inl (SqL.of h3), fun l H4 s4 h40 h4 => ⟨by decide, fun q H5 s5 h50 h5 => ?_⟩⟩⟩
      have e : cutV (ns.map V.int) none (some 63) = ns.map V.int := by
        refine (cutV_take (ns.map V.int) 63).trans ?_
        rw [List.take_of_length_le (by simpa using hl)]
      rw [e] at h4
      have s25 : Same H2 H5 := Same.trans s3 (Same.trans s4 s5)
      refine k q l H5 (Same.trans s2 s25) ⟨ns, 0, 0, m, 0, h5, s5 _ _ h4, fun z => ?_, Int.le_refl _, m0, m1, Int.le_refl _, by decide⟩ ?_
      · rw [z, h50] at h4; cases h4
      · exact Same.dom s2 q (Same.dom s3 q (Same.dom s4 q h50))
end
end LK

set_option Elab.async false
set_option linter.all false
set_option maxRecDepth 100000
namespace LK
open PySem PySem.Spec PyProof.Rows L2
local macro_rules | `(tactic| walk_at "rs") => `(tactic| simp only [cxK, cxNK, tCallZ, tAsg, tOp, rI0, rS0, rB0, rI, rU, tUn, rEq, rNe, rIxL, rIxT, rIxS, rSetL, rSlLU, rSlS, rSlU, rCatL, rCatU, rRepL, rIn, tVar, tC, gName, gSub, tIfS, tTest, tB, tAnd, tOr, tNot, tNotV, tAndV, tOrV, tIf, tCall, tCons, tNil, tCB, tDrop, tRet, tRetN, tNext, tLstU, tTupU, tM0, tM1, tPar, tPar3, tAug, ipI, tBM, tBM0, rAppend, rPop, tBreak, tCont, tChain, tSl, tPart, tNoPart, L2.start, List.map, List.length_cons, List.length_nil, List.replicate, List.cons_append, List.nil_append, List.append_nil, List.getElem?_cons_zero, List.getElem?_cons_succ, List.set_cons_zero, List.set_cons_succ, Option.some.injEq, V.int.injEq, V.ref.injEq, V.str.injEq, V.bl.injEq, exists_eq_left', exists_eq_left, exists_and_left, decide_eq_true_eq, List.cons.injEq, and_true, true_and, scal, Bool.not_eq_true', decide_eq_false_iff_not, Nat.zero_add, Nat.reduceAdd, Nat.reduceSub, reduceCtorEq, false_and, exists_false, false_or, or_false, CPow, CPowW, CMul, CDiv, Int.reduceToNat, ↓reduceIte, wipe, sw, List.nil_append, List.singleton_append])
local macro_rules | `(tactic| walk_at "st") => `(tactic| (refine seq_op fun N hN => ?_; walk_at "rs"))
local macro_rules | `(tactic| walk_at "sd") => `(tactic| first | assumption | decide | omega)
local macro_rules | `(tactic| walk_at "rd") => `(tactic| repeat (first
  | refine ⟨_, SqL.of (by assumption), ?_⟩ | refine ⟨_, SqL.of upd_same, ?_⟩ | refine ⟨_, .inl (SqL.of (by assumption)), ?_⟩ | refine ⟨_, (by assumption : _ = some (HO.lst _)), ?_⟩ | refine ⟨_, upd_same, ?_⟩
  | refine ⟨_, rfl, ?_⟩ | refine And.intro (by walk_at "sd") ?_))

theorem Kp.bn {b : Addr} {H H' : Hp} (k : Kp b H H') {o : HO} (h : H' b = some o) {p : Addr} (h0 : H' p = none) : H p = none := k.dom h p h0
theorem sqT_hb {N : Nat} {K : PySem.W.Frag} {H : Hp} {b c q : Addr} {xs : List V} (B : Bag N H b c) (h : SqT K H q xs) : SqT K (hb H b) q xs := by
  obtain ⟨yb, eb⟩ := B.at
  rcases h with (h | ⟨o, h⟩) | h
  · refine .inl (.inl ?_)
    rw [hb_ne]; exact h
    intro e; rw [e, eb] at h; cases h
  · refine .inl (.inr ⟨o, ?_⟩)
    rw [hb_ne]; exact h
    intro e; rw [e, eb] at h; cases h
  · exact .inr h
theorem seqT_kp {N : Nat} {K : PySem.W.Frag} {H H' : Hp} {b c q : Addr} {xs : List V} (B : Bag N H b c) (k : Kp b H H') (h : SqT K H q xs) : SqT K H' q xs := Same.seqT (hb_le H' b) (Same.seqT k (sqT_hb B h))
theorem new_ne {N : Nat} {b c p : Addr} {H : Hp} (B : Bag N H b c) (h0 : H p = none) : p ≠ b := fun e => by
  obtain ⟨xb, eb⟩ := B.at
  rw [e, eb] at h0; cases h0
theorem of_lst {N : Nat} {K : PySem.W.Frag} {H : Hp} {b c p : Addr} (B : Bag (N + 1) H b c) {ys : List V} (h : H p = some (.lst ys)) (n : p ≠ b) (ne : ys ≠ []) (hl : ys.length ≤ 1000000) {Q : VK} {E : XK} (k : ∀ y H', y ∈ ys → Bag N H' b c → Kp b H H' → Q y H') : sp__law_of K [.ref b, .ref p] H Q E :=
  ⟨b, c, .ref p, ys, N, rfl, B, .inl ⟨p, rfl, SqL.of h⟩, .inl ⟨p, rfl, SqL.of (by rw [hb_ne n]; exact h)⟩, ne, hl, k⟩
end LK

set_option Elab.async false
set_option linter.all false
set_option maxRecDepth 100000
namespace LK
open PySem PySem.Spec PyProof.Rows L2
local macro_rules | `(tactic| walk_at "rs") => `(tactic| simp only [cxK, cxNK, tCallZ, tAsg, tOp, rI0, rS0, rB0, rI, rU, tUn, rEq, rNe, rIxL, rIxT, rIxS, rSetL, rSlLU, rSlS, rSlU, rCatL, rCatU, rRepL, rIn, tVar, tC, gName, gSub, tIfS, tTest, tB, tAnd, tOr, tNot, tNotV, tAndV, tOrV, tIf, tCall, tCons, tNil, tCB, tDrop, tRet, tRetN, tNext, tLstU, tTupU, tM0, tM1, tPar, tPar3, tAug, ipI, tBM, tBM0, rAppend, rPop, tBreak, tCont, tChain, tSl, tPart, tNoPart, L2.start, List.map, List.length_cons, List.length_nil, List.replicate, List.cons_append, List.nil_append, List.append_nil, List.getElem?_cons_zero, List.getElem?_cons_succ, List.set_cons_zero, List.set_cons_succ, Option.some.injEq, V.int.injEq, V.ref.injEq, V.str.injEq, V.bl.injEq, exists_eq_left', exists_eq_left, exists_and_left, decide_eq_true_eq, List.cons.injEq, and_true, true_and, scal, Bool.not_eq_true', decide_eq_false_iff_not, Nat.zero_add, Nat.reduceAdd, Nat.reduceSub, reduceCtorEq, false_and, exists_false, false_or, or_false, CPow, CPowW, CMul, CDiv, Int.reduceToNat, ↓reduceIte, wipe, sw, List.nil_append, List.singleton_append])
local macro_rules | `(tactic| walk_at "st") => `(tactic| (refine seq_op fun N hN => ?_; walk_at "rs"))
local macro_rules | `(tactic| walk_at "sd") => `(tactic| first | assumption | decide | omega)
local macro_rules | `(tactic| walk_at "rd") => `(tactic| repeat (first
  | refine ⟨_, SqL.of (by assumption), ?_⟩ | refine ⟨_, SqL.of upd_same, ?_⟩ | refine ⟨_, .inl (SqL.of (by assumption)), ?_⟩ | refine ⟨_, (by assumption : _ = some (HO.lst _)), ?_⟩ | refine ⟨_, upd_same, ?_⟩
  | refine ⟨_, rfl, ?_⟩ | refine And.intro (by walk_at "sd") ?_))

/-- at xs the fractions fs -/
inductive Frs (K : PySem.W.Frag) (H : Hp) : List V → List Fr → Prop
  | nil : Frs K H [] []
  | cons {a : Addr} {f : Fr} {xs : List V} {fs : List Fr} : Pr K H a f.1 f.2 → Frs K H xs fs → Frs K H (.ref a :: xs) (f :: fs)
section
variable {K : PySem.W.Frag} {H H' : Hp}
theorem Frs.same (s : Same H H') : ∀ {xs : List V} {fs : List Fr}, Frs K H xs fs → Frs K H' xs fs
  | _, _, .nil => .nil
  | _, _, .cons h q => .cons (Same.seqT s h) (q.same s)
theorem Frs.len : ∀ {xs : List V} {fs : List Fr}, Frs K H xs fs → xs.length = fs.length
  | _, _, .nil => rfl
  | _, _, .cons _ q => congrArg Nat.succ q.len
theorem Frs.app : ∀ {xs ys : List V} {fs gs : List Fr}, Frs K H xs fs → Frs K H ys gs → Frs K H (xs ++ ys) (fs ++ gs)
  | _, _, _, _, .nil, r => r
  | _, _, _, _, .cons h q, r => .cons h (q.app r)
theorem Frs.drop : ∀ {xs : List V} {fs : List Fr} (n : Nat), Frs K H xs fs → Frs K H (xs.drop n) (fs.drop n)
  | _, _, 0, h => h
  | _, _, _ + 1, .nil => .nil
  | _, _, n + 1, .cons _ q => q.drop n
theorem Frs.take : ∀ {xs : List V} {fs : List Fr} (n : Nat), Frs K H xs fs → Frs K H (xs.take n) (fs.take n)
  | _, _, 0, _ => .nil
  | _, _, _ + 1, .nil => .nil
  | _, _, n + 1, .cons h q => .cons h (q.take n)
theorem Frs.get : ∀ {xs : List V} {fs : List Fr} {n : Nat}, Frs K H xs fs → n < fs.length → ∃ a f, xs[n]? = some (.ref a) ∧ fs[n]? = some f ∧ Pr K H a f.1 f.2
  | _, _, _, .nil, h => absurd h (Nat.not_lt_zero _)
  | _, _, 0, .cons h _, _ => ⟨_, _, rfl, rfl, h⟩
  | _, _, n + 1, .cons _ q, h => by
    obtain ⟨a, f, h1, h2, h3⟩ := q.get (n := n) (Nat.lt_of_succ_lt_succ h)
    exact ⟨a, f, h1, h2, h3⟩
theorem Frs.one {a : Addr} {f : Fr} (h : Pr K H a f.1 f.2) : Frs K H [.ref a] [f] := .cons h .nil
end
theorem seqT_upd {K : PySem.W.Frag} {H : Hp} {a p : Addr} {xs ys : List V} {o : HO} (hp : H p = some (.lst ys)) (h : SqT K H a xs) : SqT K (L2.upd H p o) a xs := by
  rcases h with (h | ⟨u, h⟩) | h
  · refine .inl (.inl ?_)
    rw [upd_ne]; exact h
    intro e; rw [e, hp] at h; cases h
  · refine .inl (.inr ⟨u, ?_⟩)
    rw [upd_ne]; exact h
    intro e; rw [e, hp] at h; cases h
  · exact .inr h
theorem Frs.upd {K : PySem.W.Frag} {H : Hp} {p : Addr} {ys : List V} {o : HO} (hp : H p = some (.lst ys)) : ∀ {xs : List V} {fs : List Fr}, Frs K H xs fs → Frs K (L2.upd H p o) xs fs
  | _, _, .nil => .nil
  | _, _, .cons h q => .cons (seqT_upd hp h) (q.upd hp)
/-- pairs of a column and a fraction -/
inductive Ens (K : PySem.W.Frag) (H : Hp) : List V → List (Nat × Fr) → Prop
  | nil : Ens K H [] []
  | cons {a u : Addr} {c : Nat} {f : Fr} {xs : List V} {es : List (Nat × Fr)} : SqT K H a [.int (c : Int), .ref u] → Pr K H u f.1 f.2 → Ens K H xs es → Ens K H (.ref a :: xs) ((c, f) :: es)
theorem Ens.same {K : PySem.W.Frag} {H H' : Hp} (s : Same H H') : ∀ {xs : List V} {es : List (Nat × Fr)}, Ens K H xs es → Ens K H' xs es
  | _, _, .nil => .nil
  | _, _, .cons h h2 q => .cons (Same.seqT s h) (Same.seqT s h2) (q.same s)
theorem Ens.len {K : PySem.W.Frag} {H : Hp} : ∀ {xs : List V} {es : List (Nat × Fr)}, Ens K H xs es → xs.length = es.length
  | _, _, .nil => rfl
  | _, _, .cons _ _ q => congrArg Nat.succ q.len
theorem Ens.app {K : PySem.W.Frag} {H : Hp} : ∀ {xs ys : List V} {es gs : List (Nat × Fr)}, Ens K H xs es → Ens K H ys gs → Ens K H (xs ++ ys) (es ++ gs)
  | _, _, _, _, .nil, r => r
  | _, _, _, _, .cons h h2 q, r => .cons h h2 (q.app r)
theorem Ens.get {K : PySem.W.Frag} {H : Hp} : ∀ {xs : List V} {es : List (Nat × Fr)} {n : Nat}, Ens K H xs es → n < es.length → ∃ a u c f, xs[n]? = some (.ref a) ∧ es[n]? = some (c, f) ∧ SqT K H a [.int (c : Int), .ref u] ∧ Pr K H u f.1 f.2
  | _, _, _, .nil, h => absurd h (Nat.not_lt_zero _)
  | _, _, 0, .cons h h2 _, _ => ⟨_, _, _, _, rfl, rfl, h, h2⟩
  | _, _, n + 1, .cons _ _ q, h => by
    obtain ⟨a, u, c, f, h1, h2, h3⟩ := q.get (n := n) (Nat.lt_of_succ_lt_succ h)
    exact ⟨a, u, c, f, h1, h2, h3⟩
/-- a row: parts of L -/
def RowV (L : Int) (Xs : List Int) (fs : List Fr) : Prop := Xs.length = fs.length ∧ ∀ (i : Nat) (X : Int) (f : Fr), Xs[i]? = some X → fs[i]? = some f → Va L X f
def sumE (Xs : List Int) (M : Int) (es : List (Nat × Fr)) : Int := (es.map fun p => Xs.getD p.1 0 * num M p.2).sum
theorem sumE_next {Xs : List Int} {M : Int} {es : List (Nat × Fr)} {i : Nat} {p : Nat × Fr} (h : es[i]? = some p) : sumE Xs M (es.take (i + 1)) = sumE Xs M (es.take i) + Xs.getD p.1 0 * num M p.2 := by
  obtain ⟨hi, rfl⟩ := List.getElem?_eq_some_iff.mp h
  unfold sumE
  rw [← List.take_append_getElem hi, List.map_append, List.sum_append]
  simp
/-- terms or givings that fit M -/
def Fits (n : Nat) (M : Int) (es : List (Nat × Fr)) : Prop := es.length ≤ 100 ∧ ∀ p ∈ es, p.1 < n ∧ 1 ≤ p.2.2 ∧ Nat.gcd p.2.1.natAbs p.2.2.natAbs = 1 ∧ p.2.2 ∣ M ∧ (num M p.2).natAbs < 2 ^ 520
theorem sum_bound {A : Nat} {Xs : List Int} {M : Int} (hX : ∀ X ∈ Xs, X.natAbs < 2 ^ 1200) : ∀ {es : List (Nat × Fr)}, (∀ p ∈ es, (num M p.2).natAbs < 2 ^ 520) → (sumE Xs M es).natAbs < 2 ^ (1720 + es.length)
  | [], _ => by
    show (0 : Int).natAbs < _
    exact Nat.two_pow_pos _
  | p :: es, h => by
    have ih := sum_bound (A := A) hX (es := es) fun q hq => h q (List.mem_cons_of_mem _ hq)
    have hx : (Xs.getD p.1 0).natAbs < 2 ^ 1200 := by
      rw [List.getD_eq_getElem?_getD]
      cases e : Xs[p.1]? with
      | none => exact Nat.two_pow_pos _
      | some X => exact hX X (List.mem_of_getElem? e)
    have a : (Xs.getD p.1 0 * num M p.2).natAbs < 2 ^ (1200 + 520) := wide_lt hx (h p List.mem_cons_self)
    have b : (Xs.getD p.1 0 * num M p.2).natAbs < 2 ^ (1720 + es.length) := pow_le a (by omega)
    have c := two_add b ih
    exact pow_le c (by simp only [List.length_cons]; omega)
theorem take100 {α : Type} {cs : List α} (h : cs.length ≤ 100) (i : Nat) : 1720 + (cs.take i).length ≤ 1820 := by
  rw [List.length_take]; omega
def RowOk (K : PySem.W.Frag) (H : Hp) (a : Addr) (L : Int) (Xs : List Int) : Prop := ∃ xs fs, SqT K H a xs ∧ Frs K H xs fs ∧ RowV L Xs fs
def LimR (L : Int) (Xs : List Int) : Prop := 0 < L ∧ L.natAbs < 2 ^ 1000 ∧ ∀ X ∈ Xs, X.natAbs < 2 ^ 1200
def sp_sum (K : PySem.W.Frag) : Sp := fun vs H Q _ => ∃ (a e : Addr) (es : List V) (cs : List (Nat × Fr)) (L M : Int) (Xs : List Int), vs = [.ref a, .ref e] ∧ RowOk K H a L Xs ∧ LimR L Xs ∧ SqL K H e es ∧ Ens K H es cs ∧ Fits Xs.length M cs ∧ 0 < M ∧ M.natAbs < 2 ^ 520 ∧
  ∀ (t : Addr) (f : Fr) H', Same H H' → Pr K H' t f.1 f.2 → Va (L * M) (sumE Xs M cs) f → Q (.ref t) H'
section
variable {P : Program} {w : World} {K : PySem.W.Frag} {mg : Str → Option Value} {base : Heap}
theorem ok_sum_of (T : Txt w K mg) : FnOk P w K mg base CX0 5 T.a_sum_of T.d_sum_of ["row", "entries"] (sp_sum K) := by
  refine T.F_sum_of.ok sc_sum_of (fun vs H Q E h => ?_) (fun cdv A outer s H vs Q E hr h => ?_)
  · obtain ⟨a, e, es, cs, L, M, Xs, rfl, _⟩ := h
    rfl
  · obtain ⟨a, e, es, cs, L, M, Xs, rfl, ⟨xs, fs, ha, hf, lX, rv⟩, ⟨L0, L1, X1⟩, he, hc, ⟨c100, fit⟩, M0, M1, k⟩ := h
    have hr_plus : Room 4 _ := hr
    have G_plus := ok_plus (P := P) (base := base) T
    have hr_times : Room 4 _ := hr
    have G_times := ok_times (P := P) (base := base) T
    have le := hc.len
    have lf := hf.len
    have LM0 : 0 < L * M := Int.mul_pos L0 M0
    have LM1 : (L * M).natAbs < 2 ^ 1520 := wide_lt L1 M1
    refine ⟨_, (pss_cons (ps_set (i := 2) sc_sum_of.nd rfl (Or.inl rfl) (pe_glob (v := .ref T.a_ZERO) (by rfl) T.m_ZERO rfl))
      (pss_cons (ps_for PassesOwn.never rfl (pi_list (pv 1)) (pg_tup rfl (pgs_cons (pg_name (i := 3) sc_sum_of.nd rfl (Or.inl rfl)) (pgs_cons (pg_name (i := 4) sc_sum_of.nd rfl (Or.inl rfl)) pgs_nil))) (pss_one (ps_if (pt_cmpR (op_neD hr.units) (pe_ix ix_tup (pv 0) (pv 3) (fun _ _ => rfl)) (pe_glob (v := .ref T.a_ZERO) (by rfl) T.m_ZERO rfl) (nomark _)) (pss_one (ps_set (i := 2) sc_sum_of.nd rfl (Or.inl rfl) (pe_call G_plus hr_plus (by rfl) T.m_plus T.F_plus.kp T.B_plus .nil pass0 (pa_cons (pv 2) (pa_cons (pe_call G_times hr_times (by rfl) T.m_times T.F_times.kp T.B_times .nil pass0 (pa_cons (pe_ix ix_tup (pv 0) (pv 3) (fun _ _ => rfl)) (pa_cons (pv 4) pa_nil))) pa_nil))))) pss_nil)))
      (pss_one (ps_ret (pv 2))))), ?_⟩
    refine seq_op fun N hN => ?_
    walk_at "rs"
    refine hN _ _ ?_
    clear hN N
    refine cut_seq (fun σ H2 => ∃ (t : Addr) (f : Fr) (x3 x4 : Option V), σ = [some (.ref a), some (.ref e), some (.ref t), x3, x4] ∧ Same H H2 ∧ Pr K H2 t f.1 f.2 ∧ Va (L * M) (sumE Xs M cs) f) (fun N hN => ?_) ?_
    · refine ⟨_, rfl, e, rfl, ⟨es, he⟩, for_list (K := K) (a := e) (xs := es) (fun i σ H2 => ∃ (t : Addr) (f : Fr) (x3 x4 : Option V), σ = [some (.ref a), some (.ref e), some (.ref t), x3, x4] ∧ Same H H2 ∧ Pr K H2 t f.1 f.2 ∧ Va (L * M) (sumE Xs M (cs.take i)) f) ⟨_, (0, 1), _, _, rfl, Same.refl _, T.s_ZERO H, Va.zero _⟩ (fun i σ H2 _ ⟨_, _, _, _, _, s2, _⟩ => s2.seq he) ?_ ?_⟩
      · rintro i y σ H2 hi ⟨t, f, x3, x4, rfl, s2, ht, hv⟩
        obtain ⟨u, v, c, g, eu, ec, hu, hg⟩ := hc.get (n := i) (by have := (List.getElem?_eq_some_iff.mp hi).1; omega)
        obtain rfl : y = .ref u := by rw [eu] at hi; exact (Option.some.inj hi).symm
        obtain ⟨fc, f1, f2, f3, f4⟩ := fit _ (List.mem_of_getElem? ec)
        dsimp only at fc f1 f2 f3 f4
        have en := sumE_next (Xs := Xs) (M := M) ec
        obtain ⟨r, h, xr, hr2, hp⟩ := hf.get (n := c) (by omega)
        have eX : Xs[c]? = some (Xs.getD c 0) := by rw [List.getD_eq_getElem?_getD, List.getElem?_eq_getElem (by omega)]; rfl
        have va := rv c _ h eX hr2
        have vg := num_va f1 f2 f3
        have bX := X1 _ (List.mem_of_getElem? eX)
        refine ⟨u, _, rfl, Same.seqT s2 hu, rfl, ?_⟩
        unfold gCons gNil
        walk_at "rs"
        refine ⟨_, _, ⟨rfl, rfl⟩, _, _, rfl, rfl, _, (c : Int), rfl, Same.seqT s2 ha, _, at_ofN rfl xr, .tuple [.int h.1, .int h.2], .tuple [.int 0, .int 1], dp_pair (Same.seqT s2 hp), dp_pair (T.s_ZERO H2), by rfl, by decide +kernel, _, rfl, ?_⟩
        rw [eqv_zero, en]
        refine ite2 (fun nz => ?_) (fun z => ?_)
        · have lX' : (sumE Xs M (cs.take i)).natAbs < 2 ^ 1820 := pow_le (sum_bound (A := 0) X1 fun p hp => (fit p (List.mem_of_mem_take hp)).2.2.2.2) (take100 c100 i)
          obtain ⟨vm, m0⟩ := va.times vg
          obtain ⟨vp, p0⟩ := hv.plus vm
          have b1 : h.1.natAbs < 2 ^ 4000 := pow_le (Nat.lt_of_le_of_lt (va.num L0) bX) (by decide)
          have b2 : h.2.natAbs < 2 ^ 4000 := pow_le (Nat.lt_of_le_of_lt (va.den L0) L1) (by decide)
          have b3 : g.1.natAbs < 2 ^ 4000 := pow_le (Nat.lt_of_le_of_lt (vg.num M0) f4) (by decide)
          have b4 : g.2.natAbs < 2 ^ 4000 := pow_le (Nat.lt_of_le_of_lt (vg.den M0) M1) (by decide)
          have b5 : f.1.natAbs < 2 ^ 4000 := pow_le (Nat.lt_of_le_of_lt (hv.num LM0) lX') (by decide)
          have b6 : f.2.natAbs < 2 ^ 4000 := pow_le (Nat.lt_of_le_of_lt (hv.den LM0) LM1) (by decide)
          have bXY : (Xs.getD c 0 * num M g).natAbs < 2 ^ (1200 + 520) := wide_lt bX f4
          have b7 := pow_le (b := 4000) (Nat.lt_of_le_of_lt (vm.num LM0) bXY) (by decide)
          have b8 := pow_le (b := 4000) (Nat.lt_of_le_of_lt (vm.den LM0) LM1) (by decide)
          refine ⟨_, _, rfl, Same.seqT s2 ha, _, at_ofN rfl xr, r, v, h.1, h.2, g.1, g.2, rfl, Same.seqT s2 hp, Same.seqT s2 hg, b1, b2, b3, b4, m0, fun t2 H3 s3 _ h3 => ⟨t, t2, f.1, f.2, _, _, rfl, Same.seqT s3 ht, .inl (.inl h3), b5, b6, b7, b8, p0, fun t4 H4 s4 _ h4 => ⟨t4, _, _, _, ⟨rfl, rfl, rfl⟩, Same.trans s2 (Same.trans s3 s4), .inl (.inl h4), vp⟩⟩⟩
        · have hz : (decide (h.1 = 0) && decide (h.2 = 1)) = true := by
            cases e1 : (decide (h.1 = 0) && decide (h.2 = 1)) with
            | true => rfl
            | false => exact absurd (by rw [e1]; rfl) z
          rw [Bool.and_eq_true, decide_eq_true_iff, decide_eq_true_iff] at hz
          have e0 : Xs.getD c 0 = 0 := by
            have := va.2.2
            rw [hz.1, hz.2, Int.zero_mul, Int.mul_one] at this
            exact this.symm
          rw [e0, Int.zero_mul, Int.add_zero]
          exact ⟨t, f, _, _, ⟨rfl, rfl, rfl⟩, s2, ht, hv⟩
      · rintro σ H2 ⟨t, f, x3, x4, rfl, s2, ht, hv⟩
        rw [le, List.take_length] at hv
        exact hN _ _ ⟨_, _, _, _, rfl, s2, ht, hv⟩
    · rintro σ H2 ⟨t, f, x3, x4, rfl, s2, ht, hv⟩
      walk_at "rs"
      exact k t f H2 s2 ht hv
end
end LK

set_option Elab.async false
set_option linter.all false
set_option maxRecDepth 100000
namespace LK
open PySem PySem.Spec PyProof.Rows L2
local macro_rules | `(tactic| walk_at "rs") => `(tactic| simp only [cxK, cxNK, tCallZ, tAsg, tOp, rI0, rS0, rB0, rI, rU, tUn, rEq, rNe, rIxL, rIxT, rIxS, rSetL, rSlLU, rSlS, rSlU, rCatL, rCatU, rRepL, rIn, tVar, tC, gName, gSub, tIfS, tTest, tB, tAnd, tOr, tNot, tNotV, tAndV, tOrV, tIf, tCall, tCons, tNil, tCB, tDrop, tRet, tRetN, tNext, tLstU, tTupU, tM0, tM1, tPar, tPar3, tAug, ipI, tBM, tBM0, rAppend, rPop, tBreak, tCont, tChain, tSl, tPart, tNoPart, L2.start, List.map, List.length_cons, List.length_nil, List.replicate, List.cons_append, List.nil_append, List.append_nil, List.getElem?_cons_zero, List.getElem?_cons_succ, List.set_cons_zero, List.set_cons_succ, Option.some.injEq, V.int.injEq, V.ref.injEq, V.str.injEq, V.bl.injEq, exists_eq_left', exists_eq_left, exists_and_left, decide_eq_true_eq, List.cons.injEq, and_true, true_and, scal, Bool.not_eq_true', decide_eq_false_iff_not, Nat.zero_add, Nat.reduceAdd, Nat.reduceSub, reduceCtorEq, false_and, exists_false, false_or, or_false, CPow, CPowW, CMul, CDiv, Int.reduceToNat, ↓reduceIte, wipe, sw, List.nil_append, List.singleton_append])
local macro_rules | `(tactic| walk_at "st") => `(tactic| (refine seq_op fun N hN => ?_; walk_at "rs"))
local macro_rules | `(tactic| walk_at "sd") => `(tactic| first | assumption | decide | omega)
local macro_rules | `(tactic| walk_at "rd") => `(tactic| repeat (first
  | refine ⟨_, SqL.of (by assumption), ?_⟩ | refine ⟨_, SqL.of upd_same, ?_⟩ | refine ⟨_, .inl (SqL.of (by assumption)), ?_⟩ | refine ⟨_, (by assumption : _ = some (HO.lst _)), ?_⟩ | refine ⟨_, upd_same, ?_⟩
  | refine ⟨_, rfl, ?_⟩ | refine And.intro (by walk_at "sd") ?_))

theorem Ens.upd {K : PySem.W.Frag} {H : Hp} {p : Addr} {ys : List V} {o : HO} (hp : H p = some (.lst ys)) : ∀ {xs : List V} {es : List (Nat × Fr)}, Ens K H xs es → Ens K (L2.upd H p o) xs es
  | _, _, .nil => .nil
  | _, _, .cons h h2 q => .cons (seqT_upd hp h) (seqT_upd hp h2) (q.upd hp)
/-- a comprehension whose items are told by R -/
theorem lc_acc {J : It} {n : Nat} {G : Hp → Prop} {Y : Nat → Hp → V → Hp → Prop} (w : Walk J n G Y) {g : TG} {te : TE} {vs : List Nat} {σ : L2.St} {H1 : Hp} {D : Addr} {Qd : Hp → Prop} (R : Nat → Hp → List V → Prop) (hD : H1 D = none) (hn : n ≤ 1000000)
    (mono : ∀ i H H' ys, Same H H' → R i H ys → R i H' ys) (up : ∀ i H ys zs o, H D = some (.lst zs) → R i H ys → R i (L2.upd H D o) ys) (r0 : R 0 (L2.upd H1 D (.lst [])) []) (hG : ∀ H, Same H1 H → G H)
    (hs : ∀ i x H H', i < n → Same H1 H → Y i H x H' → g x (wipe σ vs) H' fun σ2 H2 => Same H H2 ∧ wipe σ2 vs = wipe σ vs ∧ ∀ Q2 : V → Hp → Prop, (∀ v H3, Same H2 H3 → (∀ ys, R i H3 ys → R (i + 1) H3 (ys ++ [v])) → Q2 v H3) → te σ2 H2 Q2)
    (gm : ∀ x σ0 H0 Q0 Q1, (∀ σ2 H2, Q0 σ2 H2 → Q1 σ2 H2) → g x σ0 H0 Q0 → g x σ0 H0 Q1)
    (hq : ∀ H' ys, Same H1 H' → H' D = some (.lst ys) → ys.length = n → R n H' ys → Qd H') :
    ∃ W : Nat → Nat → Hp → Prop, (∃ m, W 0 m (L2.upd H1 D (.lst []))) ∧ ∀ i m H, W i m H →
      (J.stop i H ∧ Qd H) ∨ (J.go i H ∧ ∃ Nx : Hp → Prop, (∀ H', Nx H' → ∃ m', m' < m ∧ W (i + 1) m' H') ∧ ∀ x H', J.yld i H x H' → g x (wipe σ vs) H' fun σ2 H2 => wipe σ2 vs = wipe σ vs ∧ tYes σ2 H2 fun b H3 =>
        if b = true then te σ2 H3 fun y H4 => ∃ acc, H4 D = some (.lst acc) ∧ acc.length < sizeLine ∧ Nx (L2.upd H4 D (.lst (acc ++ [y]))) else Nx H3) := by
  have keep : ∀ {H : Hp} {o : HO}, Same H1 H → Same H1 (L2.upd H D o) := fun s a u e => by
    rw [upd_ne (ne_of_none e hD)]; exact s _ _ e
  refine lc_it w (fun i H => Same H1 H ∧ ∃ ys, H D = some (.lst ys) ∧ ys.length = i ∧ R i H ys) ⟨keep (Same.refl _), [], upd_same, rfl, r0⟩ (fun i H _ h => hG H h.1) (fun i x H H' hi ⟨s1, ys, h1, hl, hr⟩ hY => ?_) (fun H ⟨s1, ys, h1, hl, hr⟩ => hq H ys s1 h1 hl hr)
  refine gm _ _ _ _ _ (fun σ2 H2 ⟨s2, e2, kq⟩ => ⟨e2, ?_⟩) (hs i x H H' hi s1 hY)
  simp only [tYes, eq_self, ite_true]
  refine kq _ fun v H3 s3 st => ?_
  have s13 := Same.trans s2 s3
  have hD3 := s13 _ _ h1
  refine ⟨ys, hD3, ?_, keep (Same.trans s1 s13), ys ++ [v], upd_same, by rw [List.length_append, hl]; rfl, up _ _ _ _ _ hD3 (st ys (mono _ _ _ _ s13 hr))⟩
  rw [hl]
  exact Nat.lt_of_lt_of_le (Nat.lt_of_lt_of_le hi hn) (by decide)
def low (f : Fr) : Prop := 1 ≤ f.2 ∧ Nat.gcd f.1.natAbs f.2.natAbs = 1
/-- gifts, in parts of L -/
inductive GV (L : Int) : List (Nat × Int) → List (Nat × Fr) → Prop
  | nil : GV L [] []
  | cons {c : Nat} {X : Int} {f : Fr} {gi : List (Nat × Int)} {gs : List (Nat × Fr)} : Va L X f → GV L gi gs → GV L ((c, X) :: gi) ((c, f) :: gs)
theorem GV.app {L : Int} : ∀ {gi gj : List (Nat × Int)} {gs hs : List (Nat × Fr)}, GV L gi gs → GV L gj hs → GV L (gi ++ gj) (gs ++ hs)
  | _, _, _, _, .nil, r => r
  | _, _, _, _, .cons h q, r => .cons h (q.app r)
theorem GV.len {L : Int} : ∀ {gi : List (Nat × Int)} {gs : List (Nat × Fr)}, GV L gi gs → gi.length = gs.length
  | _, _, .nil => rfl
  | _, _, .cons _ q => congrArg Nat.succ q.len
end LK

set_option Elab.async false
set_option linter.all false
set_option maxRecDepth 100000
namespace LK
open PySem PySem.Spec PyProof.Rows L2
local macro_rules | `(tactic| walk_at "rs") => `(tactic| simp only [cxK, cxNK, tCallZ, tAsg, tOp, rI0, rS0, rB0, rI, rU, tUn, rEq, rNe, rIxL, rIxT, rIxS, rSetL, rSlLU, rSlS, rSlU, rCatL, rCatU, rRepL, rIn, tVar, tC, gName, gSub, tIfS, tTest, tB, tAnd, tOr, tNot, tNotV, tAndV, tOrV, tIf, tCall, tCons, tNil, tCB, tDrop, tRet, tRetN, tNext, tLstU, tTupU, tM0, tM1, tPar, tPar3, tAug, ipI, tBM, tBM0, rAppend, rPop, tBreak, tCont, tChain, tSl, tPart, tNoPart, L2.start, List.map, List.length_cons, List.length_nil, List.replicate, List.cons_append, List.nil_append, List.append_nil, List.getElem?_cons_zero, List.getElem?_cons_succ, List.set_cons_zero, List.set_cons_succ, Option.some.injEq, V.int.injEq, V.ref.injEq, V.str.injEq, V.bl.injEq, exists_eq_left', exists_eq_left, exists_and_left, decide_eq_true_eq, List.cons.injEq, and_true, true_and, scal, Bool.not_eq_true', decide_eq_false_iff_not, Nat.zero_add, Nat.reduceAdd, Nat.reduceSub, reduceCtorEq, false_and, exists_false, false_or, or_false, CPow, CPowW, CMul, CDiv, Int.reduceToNat, ↓reduceIte, wipe, sw, List.nil_append, List.singleton_append])
local macro_rules | `(tactic| walk_at "st") => `(tactic| (refine seq_op fun N hN => ?_; walk_at "rs"))
local macro_rules | `(tactic| walk_at "sd") => `(tactic| first | assumption | decide | omega)
local macro_rules | `(tactic| walk_at "rd") => `(tactic| repeat (first
  | refine ⟨_, SqL.of (by assumption), ?_⟩ | refine ⟨_, SqL.of upd_same, ?_⟩ | refine ⟨_, .inl (SqL.of (by assumption)), ?_⟩ | refine ⟨_, (by assumption : _ = some (HO.lst _)), ?_⟩ | refine ⟨_, upd_same, ?_⟩
  | refine ⟨_, rfl, ?_⟩ | refine And.intro (by walk_at "sd") ?_))

theorem Frs.set {K : PySem.W.Frag} {H : Hp} {a : Addr} {f : Fr} (ha : Pr K H a f.1 f.2) : ∀ {xs : List V} {fs : List Fr} (c : Nat), Frs K H xs fs → Frs K H (xs.set c (.ref a)) (fs.set c f)
  | _, _, _, .nil => .nil
  | _, _, 0, .cons _ q => .cons ha q
  | _, _, c + 1, .cons h q => .cons h (Frs.set ha c q)
def addG (Xs : List Int) (p : Nat × Int) : List Int := Xs.set p.1 (Xs.getD p.1 0 + p.2)
theorem addG_len (Xs : List Int) (p : Nat × Int) : (addG Xs p).length = Xs.length := List.length_set
theorem foldG_len : ∀ (gi : List (Nat × Int)) (Xs : List Int), (gi.foldl addG Xs).length = Xs.length
  | [], _ => rfl
  | p :: gi, Xs => (foldG_len gi _).trans (addG_len Xs p)
theorem RowV.upd {L : Int} {Xs : List Int} {fs : List Fr} {c : Nat} {Y : Int} {f : Fr} (r : RowV L Xs fs) (h : Va L Y f) : RowV L (Xs.set c Y) (fs.set c f) := by
  refine ⟨by rw [List.length_set, List.length_set, r.1], fun i X g h1 h2 => ?_⟩
  rw [List.getElem?_set] at h1 h2
  by_cases e : c = i
  · rw [if_pos e] at h1 h2
    split at h1
    · split at h2
      · cases h1; cases h2; exact h
      · cases h2
    · cases h1
  · rw [if_neg e] at h1 h2
    exact r.2 i X g h1 h2
theorem GV.get {L : Int} : ∀ {gi : List (Nat × Int)} {gs : List (Nat × Fr)} {n : Nat} {c : Nat} {f : Fr}, GV L gi gs → gs[n]? = some (c, f) → ∃ X, gi[n]? = some (c, X) ∧ Va L X f
  | _, _, 0, _, _, .cons h _, e => by cases e; exact ⟨_, rfl, h⟩
  | _, _, n + 1, _, _, .cons _ q, e => q.get (n := n) e
theorem foldG_next {Xs : List Int} {gi : List (Nat × Int)} {i : Nat} {p : Nat × Int} (h : gi[i]? = some p) : (gi.take (i + 1)).foldl addG Xs = addG ((gi.take i).foldl addG Xs) p := by
  obtain ⟨hi, rfl⟩ := List.getElem?_eq_some_iff.mp h
  rw [← List.take_append_getElem hi, List.foldl_append]
  rfl
theorem addG_bound {Xs : List Int} {p : Nat × Int} {i k : Nat} (hk : k ≤ i) (hX : ∀ X ∈ Xs, X.natAbs < 2 ^ i) (hp : p.2.natAbs < 2 ^ k) : ∀ X ∈ addG Xs p, X.natAbs < 2 ^ (i + 1) := by
  intro X h
  have g : (Xs.getD p.1 0).natAbs < 2 ^ i := by
    rw [List.getD_eq_getElem?_getD]
    cases e : Xs[p.1]? with
    | none => exact Nat.two_pow_pos _
    | some X => exact hX X (List.mem_of_getElem? e)
  rcases List.mem_or_eq_of_mem_set h with h | rfl
  · exact pow_le (hX X h) (by omega)
  · exact two_add g (pow_le hp hk)
theorem foldG_bound {k : Nat} : ∀ {gi : List (Nat × Int)} {Xs : List Int} {i : Nat}, k ≤ i → (∀ X ∈ Xs, X.natAbs < 2 ^ i) → (∀ p ∈ gi, p.2.natAbs < 2 ^ k) → ∀ X ∈ gi.foldl addG Xs, X.natAbs < 2 ^ (i + gi.length)
  | [], _, _, _, hX, _ => hX
  | p :: gi, Xs, i, hk, hX, hp => by
    have ih := foldG_bound (gi := gi) (Xs := addG Xs p) (i := i + 1) (by omega) (addG_bound hk hX (hp p List.mem_cons_self)) (fun q hq => hp q (List.mem_cons_of_mem _ hq))
    intro X h
    exact pow_le (ih X h) (by simp only [List.length_cons]; omega)
def sp_roww (K : PySem.W.Frag) : Sp := fun vs H Q _ => ∃ (a g : Addr) (ps : List V) (gs : List (Nat × Fr)) (gi : List (Nat × Int)) (L : Int) (Ys : List Int), vs = [.ref a, .ref g] ∧ RowOk K H a L Ys ∧ H g = some (.lst ps) ∧ Ens K H ps gs ∧ GV L gi gs ∧ (∀ p ∈ gi, p.1 < Ys.length ∧ p.2.natAbs < 2 ^ 2500) ∧ gi.length ≤ 600 ∧ 0 < L ∧ L.natAbs < 2 ^ 1900 ∧ (∀ X ∈ Ys, X.natAbs < 2 ^ 2500) ∧
  ∀ (t : Addr) H', Same H H' → RowOk K H' t L (gi.foldl addG Ys) → Q (.ref t) H'
theorem ixN_nat {n c : Nat} (h : c < n) : ixN n (c : Int) = some c := by
  unfold ixN
  rw [if_pos (Int.natCast_nonneg c), if_pos (by omega)]
  rfl
section
variable {P : Program} {w : World} {K : PySem.W.Frag} {mg : Str → Option Value} {base : Heap}
theorem ok_row_with (T : Txt w K mg) : FnOk P w K mg base CX0 5 T.a_row_with T.d_row_with ["row", "gifts"] (sp_roww K) := by
  refine T.F_row_with.ok sc_row_with (fun vs H Q E h => ?_) (fun cdv A outer s H vs Q E hr h => ?_)
  · obtain ⟨a, g, ps, gs, gi, L, Ys, rfl, _⟩ := h
    rfl
  · obtain ⟨a, g, ps, gs, gi, L, Ys, rfl, ⟨xs, fs, ha, hf, rv⟩, hg, he, gv, cg, lg, L0, L1, bY, k⟩ := h
    have hr_plus : Room 4 _ := hr
    have G_plus := ok_plus (P := P) (base := base) T
    have le := he.len
    have lv := gv.len
    refine ⟨_, (pss_cons (ps_set (i := 2) sc_row_with.nd rfl (Or.inl rfl) (pe_callTy call_listU (by rfl) T.n_list (by decide +kernel) (pa_cons (pv 0) pa_nil)))
      (pss_cons (ps_for PassesOwn.never rfl (pi_list (pv 1)) (pg_tup rfl (pgs_cons (pg_name (i := 3) sc_row_with.nd rfl (Or.inl rfl)) (pgs_cons (pg_name (i := 4) sc_row_with.nd rfl (Or.inl rfl)) pgs_nil))) (pss_one (ps_asg (pe_call G_plus hr_plus (by rfl) T.m_plus T.F_plus.kp T.B_plus .nil pass0 (pa_cons (pe_ix ix_list (pv 2) (pv 3) (fun _ _ => rfl)) (pa_cons (pv 4) pa_nil))) (pg_sub (pv 2) (pv 3) set_list))))
      (pss_one (ps_ret (pe_callTy call_tupleN (by rfl) T.n_tuple (by decide +kernel) (pa_cons (pv 2) pa_nil)))))), ?_⟩
    refine seq_op fun N hN => ?_
    walk_at "rs"
    refine ⟨xs, .inr ha, fun o H1 s1 o0 o1 => hN _ _ ?_⟩
    clear hN N
    refine cut_seq (fun σ H2 => ∃ (ys : List V) (es : List Fr) (x3 x4 : Option V), σ = [some (.ref a), some (.ref g), some (.ref o), x3, x4] ∧ Same H H2 ∧ H2 o = some (.lst ys) ∧ Frs K H2 ys es ∧ RowV L (gi.foldl addG Ys) es) (fun N hN => ?_) ?_
    · walk_at "rs"
      refine ⟨_, rfl, g, rfl, ⟨ps, SqL.of (s1 _ _ hg)⟩, for_list (K := K) (a := g) (xs := ps) (fun i σ H2 => ∃ (ys : List V) (es : List Fr) (x3 x4 : Option V), σ = [some (.ref a), some (.ref g), some (.ref o), x3, x4] ∧ Same H H2 ∧ H2 o = some (.lst ys) ∧ Frs K H2 ys es ∧ RowV L ((gi.take i).foldl addG Ys) es) ⟨xs, fs, _, _, rfl, s1, o1, hf.same s1, rv⟩ (fun i σ H2 _ ⟨_, _, _, _, _, s2, _⟩ => SqL.of (s2 _ _ hg)) ?_ ?_⟩
      · rintro i y σ H2 hi ⟨ys, es, x3, x4, rfl, s2, o2, hy, rv2⟩
        obtain ⟨u, v, c, f, eu, ec, hu, hv⟩ := he.get (n := i) (by have := (List.getElem?_eq_some_iff.mp hi).1; omega)
        obtain rfl : y = .ref u := by rw [eu] at hi; exact (Option.some.inj hi).symm
        obtain ⟨X, eX, va⟩ := gv.get ec
        obtain ⟨cc, bX⟩ := cg _ (List.mem_of_getElem? eX)
        dsimp only at cc bX
        have fl := foldG_len (gi.take i) Ys
        have yl := hy.len
        have rl := rv2.1
        obtain ⟨r, h, xr, hr2, hp⟩ := hy.get (n := c) (by omega)
        have cl : c < ys.length := by omega
        have eY : ((gi.take i).foldl addG Ys)[c]? = some (((gi.take i).foldl addG Ys).getD c 0) := by rw [List.getD_eq_getElem?_getD, List.getElem?_eq_getElem (by omega)]; rfl
        have vb := rv2.2 c _ h eY hr2
        have bY2 : (((gi.take i).foldl addG Ys).getD c 0).natAbs < 2 ^ (2500 + (gi.take i).length) := foldG_bound (Nat.le_refl 2500) bY (fun p hp => (cg p (List.mem_of_mem_take hp)).2) _ (List.mem_of_getElem? eY)
        have bY3 : (((gi.take i).foldl addG Ys).getD c 0).natAbs < 2 ^ 3100 := pow_le bY2 (by rw [List.length_take]; omega)
        obtain ⟨vp, p0⟩ := vb.plus va
        have en := foldG_next (Xs := Ys) eX
        have b1 : h.1.natAbs < 2 ^ 4000 := pow_le (a := 3100) (Nat.lt_of_le_of_lt (vb.num L0) bY3) (by decide)
        have b2 : h.2.natAbs < 2 ^ 4000 := pow_le (a := 1900) (Nat.lt_of_le_of_lt (vb.den L0) L1) (by decide)
        have b3 : f.1.natAbs < 2 ^ 4000 := pow_le (a := 2500) (Nat.lt_of_le_of_lt (va.num L0) bX) (by decide)
        have b4 : f.2.natAbs < 2 ^ 4000 := pow_le (a := 1900) (Nat.lt_of_le_of_lt (va.den L0) L1) (by decide)
        refine ⟨u, _, rfl, Same.seqT s2 hu, rfl, ?_⟩
        unfold gCons gNil
        walk_at "rs"
        have ho3 : ∀ {H3 : Hp}, Same H2 H3 → H3 o = some (.lst ys) := fun s => s _ _ o2
        refine ⟨_, _, ⟨rfl, rfl⟩, _, _, rfl, rfl, _, (c : Int), rfl, SqL.of o2, _, at_ofN rfl xr, r, v, h.1, h.2, f.1, f.2, rfl, hp, Same.seqT s2 hv, b1, b2, b3, b4, p0, fun t H3 s3 t0 t1 => ⟨ys, (c : Int), rfl, ho3 s3, c, ixN_nat cl, _, _, _, _, ⟨rfl, rfl⟩, ?_, upd_same, Frs.set (f := (frP (h.1 * f.2 + f.1 * h.2) (h.2 * f.2), frQ (h.1 * f.2 + f.1 * h.2) (h.2 * f.2))) (.inl (.inl ?_)) c ((hy.same s3).upd (ho3 s3)), ?_⟩⟩
        · intro p q e
          have n : p ≠ o := fun z => by rw [z, o0] at e; cases e
          rw [upd_ne n]; exact s3 _ _ (s2 _ _ e)
        · have n : t ≠ o := fun z => by rw [z, o2] at t0; cases t0
          rw [upd_ne n]; exact t1
        · rw [en]
          exact rv2.upd vp
      · rintro σ H2 ⟨ys, es, x3, x4, rfl, s2, o2, hy, rv2⟩
        have e : gi.take ps.length = gi := by rw [le, ← lv, List.take_length]
        rw [e] at rv2
        exact hN _ _ ⟨ys, es, _, _, rfl, s2, o2, hy, rv2⟩
    · rintro σ H2 ⟨ys, es, x3, x4, rfl, s2, o2, hy, rv2⟩
      walk_at "rs"
      refine ⟨_, SqL.of o2, fun q H3 s3 q0 q1 => k q H3 (Same.trans s2 s3) ⟨_, _, .inl (.inl q1), hy.same s3, rv2⟩⟩
end
end LK

set_option Elab.async false
set_option linter.all false
set_option maxRecDepth 100000
namespace LK
open PySem PySem.Spec PyProof.Rows L2
local macro_rules | `(tactic| walk_at "rs") => `(tactic| simp only [cxK, cxNK, tCallZ, tAsg, tOp, rI0, rS0, rB0, rI, rU, tUn, rEq, rNe, rIxL, rIxT, rIxS, rSetL, rSlLU, rSlS, rSlU, rCatL, rCatU, rRepL, rIn, tVar, tC, gName, gSub, tIfS, tTest, tB, tAnd, tOr, tNot, tNotV, tAndV, tOrV, tIf, tCall, tCons, tNil, tCB, tDrop, tRet, tRetN, tNext, tLstU, tTupU, tM0, tM1, tPar, tPar3, tAug, ipI, tBM, tBM0, rAppend, rPop, tBreak, tCont, tChain, tSl, tPart, tNoPart, L2.start, List.map, List.length_cons, List.length_nil, List.replicate, List.cons_append, List.nil_append, List.append_nil, List.getElem?_cons_zero, List.getElem?_cons_succ, List.set_cons_zero, List.set_cons_succ, Option.some.injEq, V.int.injEq, V.ref.injEq, V.str.injEq, V.bl.injEq, exists_eq_left', exists_eq_left, exists_and_left, decide_eq_true_eq, List.cons.injEq, and_true, true_and, scal, Bool.not_eq_true', decide_eq_false_iff_not, Nat.zero_add, Nat.reduceAdd, Nat.reduceSub, reduceCtorEq, false_and, exists_false, false_or, or_false, CPow, CPowW, CMul, CDiv, Int.reduceToNat, ↓reduceIte, wipe, sw, List.nil_append, List.singleton_append])
local macro_rules | `(tactic| walk_at "st") => `(tactic| (refine seq_op fun N hN => ?_; walk_at "rs"))
local macro_rules | `(tactic| walk_at "sd") => `(tactic| first | assumption | decide | omega)
local macro_rules | `(tactic| walk_at "rd") => `(tactic| repeat (first
  | refine ⟨_, SqL.of (by assumption), ?_⟩ | refine ⟨_, SqL.of upd_same, ?_⟩ | refine ⟨_, .inl (SqL.of (by assumption)), ?_⟩ | refine ⟨_, (by assumption : _ = some (HO.lst _)), ?_⟩ | refine ⟨_, upd_same, ?_⟩
  | refine ⟨_, rfl, ?_⟩ | refine And.intro (by walk_at "sd") ?_))

/-- over a list or a tuple that the body leaves as it is -/
theorem for_lt {K : PySem.W.Frag} {a : Addr} {xs : List V} {g : TG} {tb : TS} {D : Ends} {σ : L2.St} {H : Hp} {tl : TE} (hv : ∀ Q : VK, Q (.ref a) H → tl σ H Q) {H0 : Hp} (h : SqL K H0 a xs ∨ SqT K H0 a xs) (Pv : Nat → L2.St → Hp → Prop) (h0 : Pv 0 σ H) (hl : ∀ i σ H', Pv i σ H' → Same H0 H')
    (hs : ∀ i x σ H, xs[i]? = some x → Pv i σ H → g x σ H fun σ2 H2 => tb { D with nx := Pv (i + 1), ct := Pv (i + 1), bk := D.nx } σ2 H2) (hd : ∀ σ H, Pv xs.length σ H → D.nx σ H) : tFor (iLT K tl) g tb D σ H := by
  rcases h with h | h
  · exact .inl (hv _ ⟨a, rfl, ⟨xs, (hl _ _ _ h0).seq h⟩, for_list (K := K) (a := a) (xs := xs) Pv h0 (fun i σ H2 _ p => (hl i σ H2 p).seq h) hs hd⟩)
  · exact .inr (hv _ ⟨a, rfl, ⟨xs, Same.seqT (hl _ _ _ h0) h⟩, for_tup (K := K) (a := a) (xs := xs) Pv h0 (fun i σ H2 _ p => Same.seqT (hl i σ H2 p) h) hs hd⟩)
section
variable {K : PySem.W.Frag} {a : Addr} {xs : List V} {i j : Nat} {te1 te : TE} {vs vs1 : List Nat} {σ : L2.St} {H1 : Hp} {D : Addr} {Qd : Hp → Prop}
/-- the turns of [y for x in xs for y in te1(x)] -/
theorem lc2_walk {J : It} {G : Hp → Prop} {Y : Nat → Hp → V → Hp → Prop} (w : Walk J xs.length G Y) (hY : ∀ k H x H', Y k H x H' → H' = H ∧ xs[k]? = some x) (hG : ∀ H, Same H1 H → G H) (R : Nat → Hp → List V → Prop) (hD : H1 D = none) (hn : xs.length ≤ 1000)
    (mono : ∀ k H H' ys, Same H H' → R k H ys → R k H' ys) (up : ∀ k H ys zs o, H D = some (.lst zs) → R k H ys → R k (L2.upd H D o) ys) (r0 : R 0 (L2.upd H1 D (.lst [])) [])
    (hw1 : ∀ x, wipe ((wipe σ vs).set i (some x)) vs = wipe σ vs) (hw2 : ∀ x y, wipe ((wipe ((wipe σ vs).set i (some x)) vs1).set j (some y)) vs1 = wipe ((wipe σ vs).set i (some x)) vs1)
    (hte : ∀ x y H (Q : VK), Q y H → te ((wipe ((wipe σ vs).set i (some x)) vs1).set j (some y)) H Q)
    (hs : ∀ k x H, xs[k]? = some x → Same H1 H → ∀ Q1 : VK, (∀ p ys H2, Same H H2 → H p = none → H2 p = some (.lst ys) → ys.length ≤ 100 → (∀ zs, R k H2 zs → R (k + 1) H2 (zs ++ ys)) → Q1 (.ref p) H2) → te1 ((wipe σ vs).set i (some x)) H Q1)
    (hq : ∀ H' ys, Same H1 H' → H' D = some (.lst ys) → R xs.length H' ys → Qd H') :
    ∃ W : Nat → Nat → Hp → Prop, (∃ m, W 0 m (L2.upd H1 D (.lst []))) ∧ ∀ k m H, W k m H →
  (J.stop k H ∧ Qd H) ∨ (J.go k H ∧ ∃ Nx : Hp → Prop, (∀ H', Nx H' → ∃ m', m' < m ∧ W (k + 1) m' H') ∧ ∀ x H', J.yld k H x H' → gName i x (wipe σ vs) H' fun σ2 H2 => wipe σ2 vs = wipe σ vs ∧ tYes σ2 H2 fun b H3 =>
    if b = true then iList K te1 σ2 H3 fun J1 H4 => ∃ W1 : Nat → Nat → Hp → Prop, (∃ m, W1 0 m H4) ∧ ∀ j' k H, W1 j' k H →
      (J1.stop j' H ∧ Nx H) ∨ (J1.go j' H ∧ ∃ Nx1 : Hp → Prop, (∀ H', Nx1 H' → ∃ k', k' < k ∧ W1 (j' + 1) k' H') ∧ ∀ x H', J1.yld j' H x H' → gName j x (wipe σ2 vs1) H' fun σ3 H5 => wipe σ3 vs1 = wipe σ2 vs1 ∧ tYes σ3 H5 fun b H6 =>
        if b = true then te σ3 H6 fun y H7 => ∃ acc, H7 D = some (.lst acc) ∧ acc.length < sizeLine ∧ Nx1 (L2.upd H7 D (.lst (acc ++ [y]))) else Nx1 H6)
    else Nx H3) := by
  have keep : ∀ {H : Hp} {o : HO}, Same H1 H → Same H1 (L2.upd H D o) := fun s a u e => by
    rw [upd_ne (ne_of_none e hD)]; exact s _ _ e
  let I : Nat → Hp → Prop := fun k H => Same H1 H ∧ ∃ zs, H D = some (.lst zs) ∧ zs.length ≤ 100 * k ∧ R k H zs
  refine ⟨fun k m H => m = xs.length - k ∧ k ≤ xs.length ∧ I k H, ⟨xs.length, by simp, Nat.zero_le _, keep (Same.refl _), [], upd_same, Nat.zero_le _, r0⟩, ?_⟩
  rintro k m H ⟨rfl, hk, s1, zs, h1, hl, hr⟩
  by_cases hlt : k < xs.length
  · refine .inr ⟨w.goes k H hlt (hG H s1), I (k + 1), fun H' p' => ⟨xs.length - (k + 1), by omega, rfl, hlt, p'⟩, fun x H' y => ?_⟩
    obtain ⟨rfl, hx⟩ := hY _ _ _ _ (w.yields k H x H' hlt (hG H s1) y)
    refine ⟨hw1 x, ?_⟩
    simp only [tYes, eq_self, ite_true]
    refine hs k x _ hx s1 _ fun p ys H2 s2 p0 p1 l1 st => ⟨p, rfl, ⟨ys, SqL.of p1⟩, ?_⟩
    have np : p ≠ D := fun e => by rw [e, h1] at p0; cases p0
    have hD2 := s2 _ _ h1
    have hR := st zs (mono _ _ _ _ s2 hr)
    refine ⟨fun j' n H => n = ys.length - j' ∧ j' ≤ ys.length ∧ Same H1 H ∧ H p = some (.lst ys) ∧ H D = some (.lst (zs ++ ys.take j')) ∧ R (k + 1) H (zs ++ ys), ⟨ys.length, by simp, Nat.zero_le _, Same.trans s1 s2, p1, by simpa using hD2, hR⟩, ?_⟩
    rintro j' n H3 ⟨rfl, hj, s3, q1, q2, q3⟩
    by_cases hlj : j' < ys.length
    · refine .inr ⟨⟨ys, ys[j'], SqL.of q1, by simp [hlj]⟩, fun H => j' + 1 ≤ ys.length ∧ Same H1 H ∧ H p = some (.lst ys) ∧ H D = some (.lst (zs ++ ys.take (j' + 1))) ∧ R (k + 1) H (zs ++ ys), fun H' p' => ⟨ys.length - (j' + 1), by omega, rfl, p'⟩, fun y H' yy => ?_⟩
      obtain ⟨e, yy⟩ := yy
      subst e
      have hy := yy ys (SqL.of q1)
      refine ⟨hw2 x y, ?_⟩
      simp only [tYes, eq_self, ite_true]
      refine hte x y _ _ ⟨_, q2, ?_, hlj, keep s3, by rw [upd_ne np]; exact q1, ?_, up _ _ _ _ _ q2 q3⟩
      · rw [List.length_append, List.length_take]
        exact Nat.lt_of_le_of_lt (show _ ≤ 1000000 by omega) (by decide)
      · obtain ⟨_, rfl⟩ := List.getElem?_eq_some_iff.mp hy
        rw [upd_same, List.append_assoc, List.take_append_getElem]
    · have e : j' = ys.length := by omega
      subst e
      rw [List.take_length] at q2
      exact .inl ⟨⟨ys, SqL.of q1, Nat.le_refl _⟩, s3, _, q2, by rw [List.length_append]; omega, q3⟩
  · have e : k = xs.length := by omega
    subst e
    exact .inl ⟨w.stops H (hG H s1), hq H zs s1 h1 hr⟩
/-- over a list or a tuple -/
theorem lc2_lt {tl : TE} {Q : VK} (hv : ∀ Q : VK, Q (.ref a) H1 → tl σ H1 Q) (h : SqL K H1 a xs ∨ SqT K H1 a xs) (R : Nat → Hp → List V → Prop) (hn : xs.length ≤ 1000)
    (mono : ∀ k H H' ys, Same H H' → R k H ys → R k H' ys) (up : ∀ D k H ys zs o, H D = some (.lst zs) → R k H ys → R k (L2.upd H D o) ys) (r0 : ∀ H, R 0 H [])
    (hw1 : ∀ x, wipe ((wipe σ vs).set i (some x)) vs = wipe σ vs) (hw2 : ∀ x y, wipe ((wipe ((wipe σ vs).set i (some x)) vs1).set j (some y)) vs1 = wipe ((wipe σ vs).set i (some x)) vs1)
    (hte : ∀ x y H (Q : VK), Q y H → te ((wipe ((wipe σ vs).set i (some x)) vs1).set j (some y)) H Q)
    (hs : ∀ k x H, xs[k]? = some x → Same H1 H → ∀ Q1 : VK, (∀ p ys H2, Same H H2 → H p = none → H2 p = some (.lst ys) → ys.length ≤ 100 → (∀ zs, R k H2 zs → R (k + 1) H2 (zs ++ ys)) → Q1 (.ref p) H2) → te1 ((wipe σ vs).set i (some x)) H Q1)
    (hq : ∀ D H' ys, Same H1 H' → H1 D = none → H' D = some (.lst ys) → R xs.length H' ys → Q (.ref D) H') :
    tLc2 (iLT K tl) (gName i) tYes (iList K te1) (gName j) tYes te vs vs1 σ H1 Q := by
  rcases h with h | h
  · exact .inl (hv _ ⟨a, rfl, ⟨xs, h⟩, fun D hD => lc2_walk walk_list (fun k H x H' y => y) (fun H s => s.seq h) R hD hn mono (up D) (r0 _) hw1 hw2 hte hs fun H' ys s e r => hq D H' ys s hD e r⟩)
  · exact .inr (hv _ ⟨a, rfl, ⟨xs, h⟩, fun D hD => lc2_walk walk_tup (fun k H x H' y => y) (fun H s => Same.seqT s h) R hD hn mono (up D) (r0 _) hw1 hw2 hte hs fun H' ys s e r => hq D H' ys s hD e r⟩)
end
end LK

set_option Elab.async false
set_option linter.all false
set_option maxRecDepth 100000
namespace LK
open PySem PySem.Spec PyProof.Rows L2
local macro_rules | `(tactic| walk_at "rs") => `(tactic| simp only [cxK, cxNK, tCallZ, tAsg, tOp, rI0, rS0, rB0, rI, rU, tUn, rEq, rNe, rIxL, rIxT, rIxS, rSetL, rSlLU, rSlS, rSlU, rCatL, rCatU, rRepL, rIn, tVar, tC, gName, gSub, tIfS, tTest, tB, tAnd, tOr, tNot, tNotV, tAndV, tOrV, tIf, tCall, tCons, tNil, tCB, tDrop, tRet, tRetN, tNext, tLstU, tTupU, tM0, tM1, tPar, tPar3, tAug, ipI, tBM, tBM0, rAppend, rPop, tBreak, tCont, tChain, tSl, tPart, tNoPart, L2.start, List.map, List.length_cons, List.length_nil, List.replicate, List.cons_append, List.nil_append, List.append_nil, List.getElem?_cons_zero, List.getElem?_cons_succ, List.set_cons_zero, List.set_cons_succ, Option.some.injEq, V.int.injEq, V.ref.injEq, V.str.injEq, V.bl.injEq, exists_eq_left', exists_eq_left, exists_and_left, decide_eq_true_eq, List.cons.injEq, and_true, true_and, scal, Bool.not_eq_true', decide_eq_false_iff_not, Nat.zero_add, Nat.reduceAdd, Nat.reduceSub, reduceCtorEq, false_and, exists_false, false_or, or_false, CPow, CPowW, CMul, CDiv, Int.reduceToNat, ↓reduceIte, wipe, sw, List.nil_append, List.singleton_append])
local macro_rules | `(tactic| walk_at "st") => `(tactic| (refine seq_op fun N hN => ?_; walk_at "rs"))
local macro_rules | `(tactic| walk_at "sd") => `(tactic| first | assumption | decide | omega)
local macro_rules | `(tactic| walk_at "rd") => `(tactic| repeat (first
  | refine ⟨_, SqL.of (by assumption), ?_⟩ | refine ⟨_, SqL.of upd_same, ?_⟩ | refine ⟨_, .inl (SqL.of (by assumption)), ?_⟩ | refine ⟨_, (by assumption : _ = some (HO.lst _)), ?_⟩ | refine ⟨_, upd_same, ?_⟩
  | refine ⟨_, rfl, ?_⟩ | refine And.intro (by walk_at "sd") ?_))

theorem RowOk.same {K : PySem.W.Frag} {H H' : Hp} {a : Addr} {L : Int} {Xs : List Int} (s : Same H H') : RowOk K H a L Xs → RowOk K H' a L Xs := fun ⟨xs, fs, h1, h2, h3⟩ => ⟨xs, fs, Same.seqT s h1, h2.same s, h3⟩
theorem RowOk.upd {K : PySem.W.Frag} {H : Hp} {a p : Addr} {ys : List V} {o : HO} {L : Int} {Xs : List Int} (hp : H p = some (.lst ys)) : RowOk K H a L Xs → RowOk K (L2.upd H p o) a L Xs := fun ⟨xs, fs, h1, h2, h3⟩ => ⟨xs, fs, seqT_upd hp h1, h2.upd hp, h3⟩
theorem RowOk.scale {K : PySem.W.Frag} {H : Hp} {a : Addr} {L : Int} {Xs : List Int} (W : Int) : RowOk K H a L Xs → RowOk K H a (L * W) (Xs.map (· * W)) := fun ⟨xs, fs, h1, h2, h3, h4⟩ => ⟨xs, fs, h1, h2, by rw [List.length_map]; exact h3, fun i Y f e1 e2 => by
  rw [List.getElem?_map] at e1
  cases e : Xs[i]? with
  | none => rw [e] at e1; cases e1
  | some X =>
    rw [e] at e1
    cases e1
    exact (h4 i X f e e2).scale W⟩
/-- rows -/
inductive Rows (K : PySem.W.Frag) (H : Hp) (L : Int) : List V → List (List Int) → Prop
  | nil : Rows K H L [] []
  | cons {a : Addr} {Xs : List Int} {xs : List V} {Xss : List (List Int)} : RowOk K H a L Xs → Rows K H L xs Xss → Rows K H L (.ref a :: xs) (Xs :: Xss)
section
variable {K : PySem.W.Frag} {H H' : Hp} {L : Int}
theorem Rows.same (s : Same H H') : ∀ {xs : List V} {Xss : List (List Int)}, Rows K H L xs Xss → Rows K H' L xs Xss
  | _, _, .nil => .nil
  | _, _, .cons h q => .cons (h.same s) (q.same s)
theorem Rows.upd {p : Addr} {ys : List V} {o : HO} (hp : H p = some (.lst ys)) : ∀ {xs : List V} {Xss : List (List Int)}, Rows K H L xs Xss → Rows K (L2.upd H p o) L xs Xss
  | _, _, .nil => .nil
  | _, _, .cons h q => .cons (h.upd hp) (q.upd hp)
theorem Rows.len : ∀ {xs : List V} {Xss : List (List Int)}, Rows K H L xs Xss → xs.length = Xss.length
  | _, _, .nil => rfl
  | _, _, .cons _ q => congrArg Nat.succ q.len
theorem Rows.app : ∀ {xs ys : List V} {Xss Yss : List (List Int)}, Rows K H L xs Xss → Rows K H L ys Yss → Rows K H L (xs ++ ys) (Xss ++ Yss)
  | _, _, _, _, .nil, r => r
  | _, _, _, _, .cons h q, r => .cons h (q.app r)
theorem Rows.get : ∀ {xs : List V} {Xss : List (List Int)} {n : Nat}, Rows K H L xs Xss → n < Xss.length → ∃ a Xs, xs[n]? = some (.ref a) ∧ Xss[n]? = some Xs ∧ RowOk K H a L Xs
  | _, _, _, .nil, h => absurd h (Nat.not_lt_zero _)
  | _, _, 0, .cons h _, _ => ⟨_, _, rfl, rfl, h⟩
  | _, _, n + 1, .cons _ q, h => by
    obtain ⟨a, f, h1, h2, h3⟩ := q.get (n := n) (Nat.lt_of_succ_lt_succ h)
    exact ⟨a, f, h1, h2, h3⟩
end
end LK

set_option Elab.async false
set_option linter.all false
set_option maxRecDepth 100000
namespace LK
open PySem PySem.Spec PyProof.Rows L2
local macro_rules | `(tactic| walk_at "rs") => `(tactic| simp only [cxK, cxNK, tCallZ, tAsg, tOp, rI0, rS0, rB0, rI, rU, tUn, rEq, rNe, rIxL, rIxT, rIxS, rSetL, rSlLU, rSlS, rSlU, rCatL, rCatU, rRepL, rIn, tVar, tC, gName, gSub, tIfS, tTest, tB, tAnd, tOr, tNot, tNotV, tAndV, tOrV, tIf, tCall, tCons, tNil, tCB, tDrop, tRet, tRetN, tNext, tLstU, tTupU, tM0, tM1, tPar, tPar3, tAug, ipI, tBM, tBM0, rAppend, rPop, tBreak, tCont, tChain, tSl, tPart, tNoPart, L2.start, List.map, List.length_cons, List.length_nil, List.replicate, List.cons_append, List.nil_append, List.append_nil, List.getElem?_cons_zero, List.getElem?_cons_succ, List.set_cons_zero, List.set_cons_succ, Option.some.injEq, V.int.injEq, V.ref.injEq, V.str.injEq, V.bl.injEq, exists_eq_left', exists_eq_left, exists_and_left, decide_eq_true_eq, List.cons.injEq, and_true, true_and, scal, Bool.not_eq_true', decide_eq_false_iff_not, Nat.zero_add, Nat.reduceAdd, Nat.reduceSub, reduceCtorEq, false_and, exists_false, false_or, or_false, CPow, CPowW, CMul, CDiv, Int.reduceToNat, ↓reduceIte, wipe, sw, List.nil_append, List.singleton_append])
local macro_rules | `(tactic| walk_at "st") => `(tactic| (refine seq_op fun N hN => ?_; walk_at "rs"))
local macro_rules | `(tactic| walk_at "sd") => `(tactic| first | assumption | decide | omega)
local macro_rules | `(tactic| walk_at "rd") => `(tactic| repeat (first
  | refine ⟨_, SqL.of (by assumption), ?_⟩ | refine ⟨_, SqL.of upd_same, ?_⟩ | refine ⟨_, .inl (SqL.of (by assumption)), ?_⟩ | refine ⟨_, (by assumption : _ = some (HO.lst _)), ?_⟩ | refine ⟨_, upd_same, ?_⟩
  | refine ⟨_, rfl, ?_⟩ | refine And.intro (by walk_at "sd") ?_))

section
variable {P : Program} {w : World} {K : PySem.W.Frag} {mg : Str → Option Value} {base : Heap}
theorem ok__law_gcd (T : Txt w K mg) : FnOk P w K mg base CX0 1 T.a__law_gcd T.d__law_gcd ["a", "b"] (fun vs H Q _ => ∃ p q : Int, vs = [.int p, .int q] ∧ Q (.int ((Nat.gcd p.natAbs q.natAbs : Nat) : Int)) H) := by
  refine T.F__law_gcd.ok sc__law_gcd (fun vs H Q E h => ?_) (fun cdv A outer s H vs Q E hr h => ?_)
  · obtain ⟨p, q, rfl, _⟩ := h
    rfl
  · obtain ⟨p, q, rfl, k⟩ := h
    refine ⟨_, (pss_cons (ps_par (i := 0) (j := 1) (by rfl) sc__law_gcd.nd rfl rfl (by decide) rfl rfl (pa_cons (pe_callB call_abs (by rfl) T.n_abs (by decide +kernel) (pa_cons (pv 0) pa_nil)) (pa_cons (pe_callB call_abs (by rfl) T.n_abs (by decide +kernel) (pa_cons (pv 1) pa_nil)) pa_nil)) (by rfl))
      (pss_cons (ps_while PassesOwn.never (pt_cmpR op_gt (pv 1) pe_int (nomark _)) (pss_one (ps_par (i := 0) (j := 1) (by rfl) sc__law_gcd.nd rfl rfl (by decide) rfl rfl (pa_cons (pv 1) (pa_cons (pe_op op_mod (pe_callTy call_intI (by rfl) T.n_int (by decide +kernel) (pa_cons (pv 0) pa_nil)) (pv 1)) pa_nil)) (by rfl))))
      (pss_one (ps_ret (pv 0))))), ?_⟩
    refine seq_op fun N hN => ?_
    walk_at "rs"
    refine ⟨_, _, ⟨rfl, rfl⟩, hN _ _ ?_⟩
    clear hN N
    refine cut_seq (fun σ H2 => σ = [some (.int ((Nat.gcd p.natAbs q.natAbs : Nat) : Int)), some (.int 0)] ∧ H2 = H) (fun N hN => ?_) ?_
    · refine while_by (fun σ H2 => ∃ a b : Nat, σ = [some (.int (a : Int)), some (.int (b : Int))] ∧ H2 = H ∧ Nat.gcd a b = Nat.gcd p.natAbs q.natAbs) (fun (σ : L2.St) (_ : Hp) => match σ[1]? with
          | some (some (V.int b)) => b.toNat
          | _ => 0) ⟨p.natAbs, q.natAbs, by rw [abs_if, abs_if], rfl, rfl⟩ ?_ ?_
      · rintro σ H2 ⟨a, b, rfl, rfl, hg⟩
        walk_at "rs"
        refine ite2 (fun hb => ?_) (fun hb => ?_)
        · refine ⟨hb, _, _, ⟨rfl, rfl⟩, ⟨b, a % b, ⟨rfl, rfl⟩, ?_⟩, ?_⟩
          · rw [← hg, Nat.gcd_comm a b, Nat.gcd_rec b a, Nat.gcd_comm]
          · show ((a : Int) % (b : Int)).toNat < (b : Int).toNat
            have := Int.emod_lt_of_pos (a : Int) (show (0 : Int) < (b : Int) by omega)
            have := Int.emod_nonneg (a : Int) (show (b : Int) ≠ 0 by omega)
            omega
        · have b0 : b = 0 := by omega
          subst b0
          rw [Nat.gcd_zero_right] at hg
          rw [hg]
          exact hN _ _ ⟨rfl, rfl⟩
      · intro σ H2 Q1 Q2 h hq
        revert hq
        walk_at "rs"
        rintro ⟨v, e, i, rfl, hq⟩
        exact ⟨_, e, i, rfl, h _ _ hq⟩
    · rintro σ H2 ⟨rfl, rfl⟩
      walk_at "rs"
      exact k
def sp_low : Sp := fun vs H Q _ => ∃ p q : Int, vs = [.int p, .int q] ∧ q ≠ 0 ∧ p.natAbs < 2 ^ 8001 ∧ q.natAbs < 2 ^ 8001 ∧ ∀ t H', Same H H' → H t = none → H' t = some (.tup [.int (frP p q), .int (frQ p q)]) → Q (.ref t) H'
theorem ok__law_low (T : Txt w K mg) : FnOk P w K mg base CX0 2 T.a__law_low T.d__law_low ["p", "q"] sp_low := by
  refine T.F__law_low.ok sc__law_low (fun vs H Q E h => ?_) (fun cdv A outer s H vs Q E hr h => ?_)
  · obtain ⟨p, q, rfl, _⟩ := h
    rfl
  · obtain ⟨p, q, rfl, q0, lp, lq, k⟩ := h
    have hr__law_gcd : Room 1 _ := hr
    have G__law_gcd := ok__law_gcd (P := P) (base := base) T
    refine ⟨_, (pss_cons (ps_set (i := 2) sc__law_low.nd rfl (Or.inl rfl) (pe_call G__law_gcd hr__law_gcd (by rfl) T.m__law_gcd T.F__law_gcd.kp T.B__law_gcd .nil pass0 (pa_cons (pv 0) (pa_cons (pv 1) pa_nil))))
      (pss_cons (ps_if (pt_cmpR op_lt (pv 1) pe_int (nomark _)) (pss_one (ps_set (i := 2) sc__law_low.nd rfl (Or.inl rfl) (pe_un un_neg (pv 2)))) pss_nil)
      (pss_one (ps_ret (pe_tupU (pa_cons (pe_op op_fdivF (pv 0) (pv 2)) (pa_cons (pe_op op_fdivF (pv 1) (pv 2)) pa_nil))))))), ?_⟩
    refine seq_op fun N hN => ?_
    walk_at "rs"
    refine ⟨p, q, ⟨rfl, rfl⟩, hN _ _ ?_⟩
    clear hN N
    have g0 : (Nat.gcd p.natAbs q.natAbs : Nat) ≠ 0 := fun z => q0 (by have := Nat.eq_zero_of_gcd_eq_zero_right z; omega)
    have gl := gcd_log (p := p) q0
    have ql := logL lq (by decide) (by decide)
    have n0 : frG p q ≠ 0 := by unfold frG; split <;> omega
    have nl : (frG p q).natAbs.log2 < 9000 := by
      have : (frG p q).natAbs = Nat.gcd p.natAbs q.natAbs := by unfold frG; split <;> omega
      rw [this]; omega
    refine cut_seq (fun σ H3 => σ = [some (.int p), some (.int q), some (.int (frG p q))] ∧ H3 = H) (fun N hN => ?_) ?_
    · walk_at "rs"
      unfold frG at hN
      refine ite2 (fun c => ?_) (fun c => ?_)
      · rw [if_pos c] at hN
        exact hN _ _ ⟨rfl, rfl⟩
      · rw [if_neg c] at hN; exact hN _ _ ⟨rfl, rfl⟩
    · rintro σ H3 ⟨rfl, rfl⟩
      walk_at "rs"
      exact ⟨⟨n0, nl⟩, ⟨n0, nl⟩, by decide, k⟩
def okB (M L : Nat) (f : Int × Int) : Prop := 1 ≤ f.2 ∧ Nat.gcd f.1.natAbs f.2.natAbs = 1 ∧ f.1.natAbs ≤ M ∧ f.2.natAbs ≤ L
theorem okB_low {M L : Nat} {p q : Int} (q0 : q ≠ 0) (hp : p.natAbs ≤ M) (hq : q.natAbs ≤ L) : okB M L (frP p q, frQ p q) := by
  obtain ⟨_, _, e3, e4, e5, e6, _⟩ := fr_spec p q0
  exact ⟨e3, e4, Nat.le_trans e5 hp, Nat.le_trans e6 hq⟩
def sp_drawn (K : PySem.W.Frag) (k M L : Nat) : Sp := fun vs H Q _ => ∃ (b c : Addr) (N : Nat), vs = [.ref b] ∧ Bag (N + k) H b c ∧ ∀ (t : Addr) (f : Int × Int) H', okB M L f → H t = none → H' t = some (.tup [.int f.1, .int f.2]) → Bag N H' b c → Kp b H H' → Q (.ref t) H'
theorem low_at {M L : Nat} {H : Hp} {Q : VK} {E : XK} {p q : Int} (q0 : q ≠ 0) (hp : p.natAbs < 2 ^ 8001) (hq : q.natAbs < 2 ^ 8001) (k : ∀ t H', Same H H' → H t = none → H' t = some (.tup [.int (frP p q), .int (frQ p q)]) → Q (.ref t) H') : sp_low [.int p, .int q] H Q E := ⟨p, q, rfl, q0, hp, hq, k⟩
theorem ok__law_light (T : Txt w K mg) : FnOk P w K mg base CX0 3 T.a__law_light T.d__law_light ["bag"] (sp_drawn K 4 2000 97) := by
  refine T.F__law_light.ok sc__law_light (fun vs H Q E h => ?_) (fun cdv A outer s H vs Q E hr h => ?_)
  · obtain ⟨b, c, N, rfl, _⟩ := h
    rfl
  · obtain ⟨b, c, N0, rfl, B, k⟩ := h
    have hr__law_low : Room 2 _ := hr
    have G__law_low := ok__law_low (P := P) (base := base) T
    have hr__law_draw : Room 1 _ := hr.mono (by decide)
    have G__law_draw := ok__law_draw (P := P) (base := base) T
    refine ⟨_, (pss_cons (ps_if (pt_cmpR op_gt (pe_call G__law_draw hr__law_draw (by rfl) T.m__law_draw T.F__law_draw.kp T.B__law_draw .nil pass0 (pa_cons (pv 0) (pa_cons pe_int pa_nil))) pe_int (nomark _)) (pss_one (ps_ret (pe_tupU (pa_cons (pe_op op_sub (pe_call G__law_draw hr__law_draw (by rfl) T.m__law_draw T.F__law_draw.kp T.B__law_draw .nil pass0 (pa_cons (pv 0) (pa_cons pe_int pa_nil))) pe_int) (pa_cons pe_int pa_nil))))) pss_nil)
      (pss_cons (ps_if (pt_cmpR op_eqI (pe_call G__law_draw hr__law_draw (by rfl) T.m__law_draw T.F__law_draw.kp T.B__law_draw .nil pass0 (pa_cons (pv 0) (pa_cons pe_int pa_nil))) pe_int (nomark _)) (pss_one (ps_ret (pe_call G__law_low hr__law_low (by rfl) T.m__law_low T.F__law_low.kp T.B__law_low .nil pass0 (pa_cons (pe_op op_sub (pe_call G__law_draw hr__law_draw (by rfl) T.m__law_draw T.F__law_draw.kp T.B__law_draw .nil pass0 (pa_cons (pv 0) (pa_cons pe_int pa_nil))) pe_int) (pa_cons (pe_op op_add pe_int (pe_call G__law_draw hr__law_draw (by rfl) T.m__law_draw T.F__law_draw.kp T.B__law_draw .nil pass0 (pa_cons (pv 0) (pa_cons pe_int pa_nil)))) pa_nil))))) pss_nil)
      (pss_one (ps_ret (pe_call G__law_low hr__law_low (by rfl) T.m__law_low T.F__law_low.kp T.B__law_low .nil pass0 (pa_cons (pe_op op_sub (pe_call G__law_draw hr__law_draw (by rfl) T.m__law_draw T.F__law_draw.kp T.B__law_draw .nil pass0 (pa_cons (pv 0) (pa_cons pe_int pa_nil))) pe_int) (pa_cons (pe_op op_add pe_int (pe_call G__law_draw hr__law_draw (by rfl) T.m__law_draw T.F__law_draw.kp T.B__law_draw .nil pass0 (pa_cons (pv 0) (pa_cons pe_int pa_nil)))) pa_nil))))))), ?_⟩
    have fin : ∀ {H1 H2 : Hp} {t : Addr} {p q : Int}, q ≠ 0 → p.natAbs ≤ 2000 → q.natAbs ≤ 97 → Bag N0 H1 b c → Kp b H H1 → Same H1 H2 → H1 t = none → H2 t = some (.tup [.int (frP p q), .int (frQ p q)]) → Q (.ref t) H2 := fun q0 hp hq B1 K1 s2 h0 h2 =>
      k _ _ _ (okB_low q0 hp hq) (Kp.bn K1 B1.at.choose_spec h0) h2 (B1.same s2) (Same.trans K1 (Kp.of s2))
    refine seq_op fun N hN => ?_
    walk_at "rs"
    refine ⟨b, c, 3, N0 + 3, rfl, B, by decide, by decide, fun r1 H1 r10 r11 B1 K1 => ⟨r1, rfl, ite2 (fun _ => ?_) (fun _ => hN _ _ ?_)⟩⟩
    · refine ⟨b, c, 5, N0 + 2, rfl, B1, by decide, by decide, fun r2 H2 r20 r21 B2 K2 => ⟨r2, rfl, by decide, fun t H3 s3 h03 h3 => ?_⟩⟩
      exact k t (r2 - 2, 1) H3 ⟨Int.le_refl 1, Nat.gcd_one_right _, by show (r2 - 2).natAbs ≤ 2000; omega, by show (1 : Int).natAbs ≤ 97; decide⟩ (Kp.bn K1 B1.at.choose_spec (Kp.bn K2 B2.at.choose_spec h03)) h3 ((B2.same s3).le (by omega)) (Same.trans K1 (Same.trans K2 (Kp.of s3)))
    clear hN N
    refine seq_op fun N hN => ?_
    walk_at "rs"
    refine ⟨b, c, 9, N0 + 2, rfl, B1, by decide, by decide, fun r2 H2 r20 r21 B2 K2 => ⟨r2, rfl, ite2 (fun _ => ?_) (fun _ => hN _ _ ?_)⟩⟩
    · refine ⟨b, c, 4001, N0 + 1, rfl, B2, by decide, by decide, fun r3 H3 r30 r31 B3 K3 => ⟨r3, rfl, b, c, 97, N0, rfl, B3, by decide, by decide, fun r4 H4 r40 r41 B4 K4 => ⟨r4, rfl, ?_⟩⟩⟩
      exact low_at (M := 1) (L := 1) (by omega) (pow_le (a := 64) (by omega) (by decide)) (pow_le (a := 64) (by omega) (by decide)) fun t H5 s5 h05 h5 => fin (by omega) (by omega) (by omega) B4 (Same.trans K1 (Same.trans K2 (Same.trans K3 K4))) s5 h05 h5
    clear hN N
    walk_at "rs"
    refine ⟨b, c, 9, N0 + 1, rfl, B2, by decide, by decide, fun r3 H3 r30 r31 B3 K3 => ⟨r3, rfl, b, c, 4, N0, rfl, B3, by decide, by decide, fun r4 H4 r40 r41 B4 K4 => ⟨r4, rfl, ?_⟩⟩⟩
    exact low_at (M := 1) (L := 1) (by omega) (pow_le (a := 64) (by omega) (by decide)) (pow_le (a := 64) (by omega) (by decide)) fun t H5 s5 h05 h5 => fin (by omega) (by omega) (by omega) B4 (Same.trans K1 (Same.trans K2 (Same.trans K3 K4))) s5 h05 h5
end
end LK

set_option Elab.async false
set_option linter.all false
set_option maxRecDepth 100000
namespace LK
open PySem PySem.Spec PyProof.Rows L2
local macro_rules | `(tactic| walk_at "rs") => `(tactic| simp only [cxK, cxNK, tCallZ, tAsg, tOp, rI0, rS0, rB0, rI, rU, tUn, rEq, rNe, rIxL, rIxT, rIxS, rSetL, rSlLU, rSlS, rSlU, rCatL, rCatU, rRepL, rIn, tVar, tC, gName, gSub, tIfS, tTest, tB, tAnd, tOr, tNot, tNotV, tAndV, tOrV, tIf, tCall, tCons, tNil, tCB, tDrop, tRet, tRetN, tNext, tLstU, tTupU, tM0, tM1, tPar, tPar3, tAug, ipI, tBM, tBM0, rAppend, rPop, tBreak, tCont, tChain, tSl, tPart, tNoPart, L2.start, List.map, List.length_cons, List.length_nil, List.replicate, List.cons_append, List.nil_append, List.append_nil, List.getElem?_cons_zero, List.getElem?_cons_succ, List.set_cons_zero, List.set_cons_succ, Option.some.injEq, V.int.injEq, V.ref.injEq, V.str.injEq, V.bl.injEq, exists_eq_left', exists_eq_left, exists_and_left, decide_eq_true_eq, List.cons.injEq, and_true, true_and, scal, Bool.not_eq_true', decide_eq_false_iff_not, Nat.zero_add, Nat.reduceAdd, Nat.reduceSub, reduceCtorEq, false_and, exists_false, false_or, or_false, CPow, CPowW, CMul, CDiv, Int.reduceToNat, ↓reduceIte, wipe, sw, List.nil_append, List.singleton_append])
local macro_rules | `(tactic| walk_at "st") => `(tactic| (refine seq_op fun N hN => ?_; walk_at "rs"))
local macro_rules | `(tactic| walk_at "sd") => `(tactic| first | assumption | decide | omega)
local macro_rules | `(tactic| walk_at "rd") => `(tactic| repeat (first
  | refine ⟨_, SqL.of (by assumption), ?_⟩ | refine ⟨_, SqL.of upd_same, ?_⟩ | refine ⟨_, .inl (SqL.of (by assumption)), ?_⟩ | refine ⟨_, (by assumption : _ = some (HO.lst _)), ?_⟩ | refine ⟨_, upd_same, ?_⟩
  | refine ⟨_, rfl, ?_⟩ | refine And.intro (by walk_at "sd") ?_))

section
variable {P : Program} {w : World} {K : PySem.W.Frag} {mg : Str → Option Value} {base : Heap}
def sp_great : Sp := fun vs H Q _ => ∃ (b c : Addr) (N : Nat), vs = [.ref b] ∧ Bag (N + 2) H b c ∧ ∀ (r : Int) H', 0 ≤ r → r < 1000000000000000000 → Bag N H' b c → Kp b H H' → Q (.int r) H'
theorem ok__law_great (T : Txt w K mg) : FnOk P w K mg base CX0 2 T.a__law_great T.d__law_great ["bag"] sp_great := by
  refine T.F__law_great.ok sc__law_great (fun vs H Q E h => ?_) (fun cdv A outer s H vs Q E hr h => ?_)
  · obtain ⟨b, c, N, rfl, _⟩ := h
    rfl
  · obtain ⟨b, c, N0, rfl, B, k⟩ := h
    have hr__law_draw : Room 1 _ := hr
    have G__law_draw := ok__law_draw (P := P) (base := base) T
    refine ⟨_, (pss_one (ps_ret (pe_op op_add (pe_op op_mul (pe_call G__law_draw hr__law_draw (by rfl) T.m__law_draw T.F__law_draw.kp T.B__law_draw .nil pass0 (pa_cons (pv 0) (pa_cons (pe_op op_pow pe_int pe_int) pa_nil))) (pe_op op_pow pe_int pe_int)) (pe_call G__law_draw hr__law_draw (by rfl) T.m__law_draw T.F__law_draw.kp T.B__law_draw .nil pass0 (pa_cons (pv 0) (pa_cons (pe_op op_pow pe_int pe_int) pa_nil)))))), ?_⟩
    walk_at "rs"
    refine ⟨by decide, b, c, 10 ^ 9, N0 + 1, rfl, B, by decide, by decide, fun r1 H1 r10 r11 B1 K1 => ⟨by decide, r1, rfl, .inr (by decide), by decide, b, c, 10 ^ 9, N0, rfl, B1, by decide, by decide, fun r2 H2 r20 r21 B2 K2 => ⟨r2, rfl, k _ _ ?_ ?_ B2 (Same.trans K1 K2)⟩⟩⟩
    · omega
    · omega
theorem ok__law_factor (T : Txt w K mg) : FnOk P w K mg base CX0 3 T.a__law_factor T.d__law_factor ["bag"] (sp_drawn K 7 1000000000000000000 1000000000000000000) := by
  refine T.F__law_factor.ok sc__law_factor (fun vs H Q E h => ?_) (fun cdv A outer s H vs Q E hr h => ?_)
  · obtain ⟨b, c, N, rfl, _⟩ := h
    rfl
  · obtain ⟨b, c, N0, rfl, B, k⟩ := h
    have hr__law_low : Room 2 _ := hr
    have G__law_low := ok__law_low (P := P) (base := base) T
    have hr__law_great : Room 2 _ := hr
    have G__law_great := ok__law_great (P := P) (base := base) T
    have hr__law_draw : Room 1 _ := hr.mono (by decide)
    have G__law_draw := ok__law_draw (P := P) (base := base) T
    refine ⟨_, (pss_cons (ps_set (i := 1) sc__law_factor.nd rfl (Or.inl rfl) (pe_call G__law_draw hr__law_draw (by rfl) T.m__law_draw T.F__law_draw.kp T.B__law_draw .nil pass0 (pa_cons (pv 0) (pa_cons pe_int pa_nil))))
      (pss_cons (ps_if (pt_cmpR op_lt (pv 1) pe_int (nomark _)) (pss_one (ps_ret (pe_tupU (pa_cons (pe_op op_sub (pe_call G__law_draw hr__law_draw (by rfl) T.m__law_draw T.F__law_draw.kp T.B__law_draw .nil pass0 (pa_cons (pv 0) (pa_cons pe_int pa_nil))) pe_int) (pa_cons pe_int pa_nil))))) pss_nil)
      (pss_cons (ps_if (pt_cmpR op_lt (pv 1) pe_int (nomark _)) (pss_one (ps_ret (pe_call G__law_low hr__law_low (by rfl) T.m__law_low T.F__law_low.kp T.B__law_low .nil pass0 (pa_cons (pe_op op_sub (pe_call G__law_draw hr__law_draw (by rfl) T.m__law_draw T.F__law_draw.kp T.B__law_draw .nil pass0 (pa_cons (pv 0) (pa_cons pe_int pa_nil))) pe_int) (pa_cons (pe_op op_add pe_int (pe_call G__law_draw hr__law_draw (by rfl) T.m__law_draw T.F__law_draw.kp T.B__law_draw .nil pass0 (pa_cons (pv 0) (pa_cons pe_int pa_nil)))) pa_nil))))) pss_nil)
      (pss_cons (ps_if (pt_cmpR op_eqI (pv 1) pe_int (nomark _)) (pss_one (ps_ret (pe_call G__law_low hr__law_low (by rfl) T.m__law_low T.F__law_low.kp T.B__law_low .nil pass0 (pa_cons (pe_op op_sub (pe_call G__law_draw hr__law_draw (by rfl) T.m__law_draw T.F__law_draw.kp T.B__law_draw .nil pass0 (pa_cons (pv 0) (pa_cons pe_int pa_nil))) pe_int) (pa_cons (pe_op op_add pe_int (pe_call G__law_draw hr__law_draw (by rfl) T.m__law_draw T.F__law_draw.kp T.B__law_draw .nil pass0 (pa_cons (pv 0) (pa_cons pe_int pa_nil)))) pa_nil))))) pss_nil)
      (pss_cons (ps_set (i := 2) sc__law_factor.nd rfl (Or.inl rfl) (pe_op op_sub pe_int (pe_op op_mulW pe_int (pe_call G__law_draw hr__law_draw (by rfl) T.m__law_draw T.F__law_draw.kp T.B__law_draw .nil pass0 (pa_cons (pv 0) (pa_cons pe_int pa_nil))))))
      (pss_one (ps_ret (pe_call G__law_low hr__law_low (by rfl) T.m__law_low T.F__law_low.kp T.B__law_low .nil pass0 (pa_cons (pe_op op_mulW (pv 2) (pe_call G__law_great hr__law_great (by rfl) T.m__law_great T.F__law_great.kp T.B__law_great .nil pass0 (pa_cons (pv 0) pa_nil))) (pa_cons (pe_op op_add pe_int (pe_op op_fdivW (pe_call G__law_great hr__law_great (by rfl) T.m__law_great T.F__law_great.kp T.B__law_great .nil pass0 (pa_cons (pv 0) pa_nil)) (pe_op op_add pe_int (pe_op op_mulW (pe_call G__law_draw hr__law_draw (by rfl) T.m__law_draw T.F__law_draw.kp T.B__law_draw .nil pass0 (pa_cons (pv 0) (pa_cons pe_int pa_nil))) (pe_op op_pow pe_int pe_int))))) pa_nil)))))))))), ?_⟩
    have fin : ∀ {H1 H2 : Hp} {t : Addr} {p q : Int}, q ≠ 0 → p.natAbs ≤ 1000000000000000000 → q.natAbs ≤ 1000000000000000000 → Bag N0 H1 b c → Kp b H H1 → Same H1 H2 → H1 t = none → H2 t = some (.tup [.int (frP p q), .int (frQ p q)]) → Q (.ref t) H2 := fun q0 hp hq B1 K1 s2 h0 h2 =>
      k _ _ _ (okB_low q0 hp hq) (Kp.bn K1 B1.at.choose_spec h0) h2 (B1.same s2) (Same.trans K1 (Kp.of s2))
    refine seq_op fun N hN => ?_
    walk_at "rs"
    refine ⟨b, c, 10, N0 + 6, rfl, B, by decide, by decide, fun r1 H1 r10 r11 B1 K1 => hN _ _ ?_⟩
    clear hN N
    refine seq_op fun N hN => ?_
    walk_at "rs"
    refine ite2 (fun _ => ?_) (fun _ => hN _ _ ?_)
    · refine ⟨b, c, 7, N0 + 5, rfl, B1, by decide, by decide, fun r2 H2 r20 r21 B2 K2 => ⟨r2, rfl, by decide, fun t H3 s3 h03 h3 => ?_⟩⟩
      exact k t (r2 - 3, 1) H3 ⟨Int.le_refl 1, Nat.gcd_one_right _, by show (r2 - 3).natAbs ≤ _; omega, by show (1 : Int).natAbs ≤ _; decide⟩ (Kp.bn K1 B1.at.choose_spec (Kp.bn K2 B2.at.choose_spec h03)) h3 ((B2.same s3).le (by omega)) (Same.trans K1 (Same.trans K2 (Kp.of s3)))
    clear hN N
    refine seq_op fun N hN => ?_
    walk_at "rs"
    refine ite2 (fun _ => ?_) (fun _ => hN _ _ ?_)
    · refine ⟨b, c, 13, N0 + 5, rfl, B1, by decide, by decide, fun r2 H2 r20 r21 B2 K2 => ⟨r2, rfl, b, c, 6, N0 + 4, rfl, B2, by decide, by decide, fun r4 H4 r40 r41 B4 K4 => ⟨r4, rfl, ?_⟩⟩⟩
      exact low_at (M := 1) (L := 1) (by omega) (pow_le (a := 64) (by omega) (by decide)) (pow_le (a := 64) (by omega) (by decide)) fun t H5 s5 h05 h5 => fin (by omega) (by omega) (by omega) (B4.le (by omega)) (Same.trans K1 (Same.trans K2 K4)) s5 h05 h5
    clear hN N
    refine seq_op fun N hN => ?_
    walk_at "rs"
    refine ite2 (fun _ => ?_) (fun _ => hN _ _ ?_)
    · refine ⟨b, c, 4001, N0 + 5, rfl, B1, by decide, by decide, fun r2 H2 r20 r21 B2 K2 => ⟨r2, rfl, b, c, 97, N0 + 4, rfl, B2, by decide, by decide, fun r4 H4 r40 r41 B4 K4 => ⟨r4, rfl, ?_⟩⟩⟩
      exact low_at (M := 1) (L := 1) (by omega) (pow_le (a := 64) (by omega) (by decide)) (pow_le (a := 64) (by omega) (by decide)) fun t H5 s5 h05 h5 => fin (by omega) (by omega) (by omega) (B4.le (by omega)) (Same.trans K1 (Same.trans K2 K4)) s5 h05 h5
    clear hN N
    refine seq_op fun N hN => ?_
    walk_at "rs"
    refine ⟨b, c, 2, N0 + 5, rfl, B1, by decide, by decide, fun r2 H2 r20 r21 B2 K2 => ⟨r2, rfl, mulW (pow_le (a := 64) (by decide) (by decide)) (pow_le (a := 64) (by omega) (by decide)), hN _ _ ?_⟩⟩
    clear hN N
    walk_at "rs"
    refine ⟨b, c, N0 + 3, rfl, B2.le (by omega), fun r3 H3 r30 r31 B3 K3 => ⟨r3, rfl, mulW (pow_le (a := 64) (by omega) (by decide)) (pow_le (a := 64) (by omega) (by decide)), b, c, N0 + 1, rfl, B3, fun r4 H4 r40 r41 B4 K4 => ⟨b, c, 2, N0, rfl, B4, by decide, by decide, fun r5 H5 r50 r51 B5 K5 => ⟨by decide, r5, rfl, mulW (pow_le (a := 64) (by omega) (by decide)) (pow_le (a := 64) (by decide) (by decide)), r4, rfl, ?_⟩⟩⟩⟩
    have j0 : 0 < 2 + r5 * 10 ^ 9 := by omega
    have d0 : 0 ≤ r4 / (2 + r5 * 10 ^ 9) := Int.ediv_nonneg r40 (by omega)
    have d1 : r4 / (2 + r5 * 10 ^ 9) * 2 ≤ r4 := by
      have e := Int.mul_ediv_self_le (x := r4) (k := 2 + r5 * 10 ^ 9) (by omega)
      have e2 := Int.mul_le_mul_of_nonneg_right (show (2 : Int) ≤ 2 + r5 * 10 ^ 9 by omega) d0
      rw [Int.mul_comm]; omega
    have p1 : ((1 - 2 * r2) * r3).natAbs ≤ 1000000000000000000 := by
      have : r2 = 0 ∨ r2 = 1 := by omega
      rcases this with rfl | rfl <;> omega
    have q1 : (1 + r4 / (2 + r5 * 10 ^ 9)).natAbs ≤ 1000000000000000000 := by omega
    refine ⟨?_, low_at (M := 1) (L := 1) (by omega) (pow_le (a := 64) (Nat.lt_of_le_of_lt p1 (by decide)) (by decide)) (pow_le (a := 64) (Nat.lt_of_le_of_lt q1 (by decide)) (by decide)) fun t H6 s6 h06 h6 => fin (by omega) p1 q1 B5 (Same.trans K1 (Same.trans K2 (Same.trans K3 (Same.trans K4 K5)))) s6 h06 h6⟩
    exact ⟨j0, logL (a := 64) (by omega) (by decide) (by decide)⟩
theorem ok__law_number (T : Txt w K mg) : FnOk P w K mg base CX0 1 T.a__law_number T.d__law_number ["x"] (spP1 K fun d => .bl (isNum d)) := by
  refine T.F__law_number.ok sc__law_number (fun vs H Q E h => ?_) (fun cdv A outer s H vs Q E hr h => ?_)
  · obtain ⟨v, d, rfl, _⟩ := h
    rfl
  · obtain ⟨v, d, rfl, hD, k⟩ := h
    refine ⟨_, (pss_one (ps_ret (pe_and (pe_callB (call_isiDK (K := K) rfl) (by rfl) T.n_isinstance (by decide +kernel) (pa_cons (pv 0) (pa_cons (pe_bltn (v := .ty "int") (u := .type "int") (by rfl) T.n_int (by decide +kernel) rfl) pa_nil))) (pe_one (pe_not (pe_callB (call_isiDK (K := K) rfl) (by rfl) T.n_isinstance (by decide +kernel) (pa_cons (pv 0) (pa_cons (pe_bltn (v := .ty "bool") (u := .type "bool") (by rfl) T.n_bool (by decide +kernel) rfl) pa_nil)))))))), ?_⟩
    walk_at "rs"
    refine ⟨v, "int", ⟨rfl, rfl⟩, d, hD, by decide, ite2 (fun h => ⟨v, "bool", ⟨rfl, rfl⟩, d, hD, by decide, ?_⟩) (fun h => ?_)⟩
    · have e : isNum d = !isTy "bool" d := by cases d <;> first | rfl | cases h
      rw [← e]; exact k H (Same.refl _)
    · have e : isNum d = false := by cases d <;> first | rfl | (exact absurd rfl h)
      have q : Q (.bl (isNum d)) H := k H (Same.refl _)
      rw [e] at q; exact q
def sp_isfrac (K : PySem.W.Frag) : Sp := fun vs H Q _ => ∃ (a : Addr) (f : Fr), vs = [.ref a] ∧ Pr K H a f.1 f.2 ∧ low f ∧ ∀ H', Same H H' → Q (.bl true) H'
theorem ok__law_is_fraction (T : Txt w K mg) : FnOk P w K mg base CX0 2 T.a__law_is_fraction T.d__law_is_fraction ["x"] (sp_isfrac K) := by
  refine T.F__law_is_fraction.ok sc__law_is_fraction (fun vs H Q E h => ?_) (fun cdv A outer s H vs Q E hr h => ?_)
  · obtain ⟨a, f, rfl, _⟩ := h
    rfl
  · obtain ⟨a, f, rfl, ha, hl, k⟩ := h
    have hr__law_gcd : Room 1 _ := hr
    have G__law_gcd := ok__law_gcd (P := P) (base := base) T
    have hr__law_number : Room 1 _ := hr
    have G__law_number := ok__law_number (P := P) (base := base) T
    refine ⟨_, (pss_cons (ps_if (PW.pt (pw_or (pt_not (pt_val (pe_callB (call_isiDK (K := K) rfl) (by rfl) T.n_isinstance (by decide +kernel) (pa_cons (pv 0) (pa_cons (pe_bltn (v := .ty "tuple") (u := .type "tuple") (by rfl) T.n_tuple (by decide +kernel) rfl) pa_nil))))) (pw_or1 (pt_cmpR op_neI (pe_callB call_len_seq (by rfl) T.n_len (by decide +kernel) (pa_cons (pv 0) pa_nil)) pe_int (nomark _))))) (pss_one (ps_ret pe_bl)) pss_nil)
      (pss_cons (ps_if (PW.pt (pw_or (pt_not (pt_val (pe_call G__law_number hr__law_number (by rfl) T.m__law_number T.F__law_number.kp T.B__law_number .nil pass0 (pa_cons (pe_ix ix_tup (pv 0) pe_int (fun _ _ => rfl)) pa_nil)))) (pw_or1 (pt_not (pt_val (pe_call G__law_number hr__law_number (by rfl) T.m__law_number T.F__law_number.kp T.B__law_number .nil pass0 (pa_cons (pe_ix ix_tup (pv 0) pe_int (fun _ _ => rfl)) pa_nil))))))) (pss_one (ps_ret pe_bl)) pss_nil)
      (pss_one (ps_ret (pe_and (pe_cmpR op_ge (pe_ix ix_tup (pv 0) pe_int (fun _ _ => rfl)) pe_int (nomark _)) (pe_one (pe_cmpR op_eqI (pe_call G__law_gcd hr__law_gcd (by rfl) T.m__law_gcd T.F__law_gcd.kp T.B__law_gcd .nil pass0 (pa_cons (pe_ix ix_tup (pv 0) pe_int (fun _ _ => rfl)) (pa_cons (pe_ix ix_tup (pv 0) pe_int (fun _ _ => rfl)) pa_nil))) pe_int (nomark _)))))))), ?_⟩
    refine seq_op fun N hN => ?_
    walk_at "rs"
    refine ⟨_, _, ⟨rfl, rfl⟩, _, dp_pair ha, by decide, iteFF (fun z => by cases z) ⟨_, .inr ha, iteFF (fun z => z rfl) (hN _ _ ?_)⟩⟩
    clear hN N
    refine seq_op fun N hN => ?_
    walk_at "rs"
    refine ⟨_, ha, _, rfl, _, _, rfl, .int _, fun H1 s1 => ⟨_, rfl, iteFF (fun z => by cases z) ⟨_, Same.seqT s1 ha, _, rfl, _, _, rfl, .int _, fun H2 s2 => ⟨_, rfl, iteFF (fun z => by cases z) (hN _ _ ?_)⟩⟩⟩⟩
    clear hN N
    walk_at "rs"
    have ha2 := Same.seqT (Same.trans s1 s2) ha
    refine ⟨_, ha2, _, rfl, _, rfl, iteTT hl.1 ⟨_, ha2, _, rfl, _, ha2, _, rfl, _, _, ⟨rfl, rfl⟩, ?_⟩⟩
    rw [hl.2]
    exact k H2 (Same.trans s1 s2)
def sp_same (K : PySem.W.Frag) : Sp := fun vs H Q _ => ∃ (a : Addr) (f : Fr) (X L : Int), vs = [.ref a, .int X, .int L] ∧ Pr K H a f.1 f.2 ∧ Va L X f ∧ 0 < L ∧ X.natAbs < 2 ^ 4000 ∧ L.natAbs < 2 ^ 4000 ∧ ∀ H', Same H H' → Q (.bl true) H'
theorem ok__law_same (T : Txt w K mg) : FnOk P w K mg base CX0 3 T.a__law_same T.d__law_same ["told", "upper", "lower"] (sp_same K) := by
  refine T.F__law_same.ok sc__law_same (fun vs H Q E h => ?_) (fun cdv A outer s H vs Q E hr h => ?_)
  · obtain ⟨a, f, X, L, rfl, _⟩ := h
    rfl
  · obtain ⟨a, f, X, L, rfl, ha, va, L0, lX, lL, k⟩ := h
    have hr__law_is_fraction : Room 2 _ := hr
    have G__law_is_fraction := ok__law_is_fraction (P := P) (base := base) T
    refine ⟨_, (pss_one (ps_ret (pe_and (pe_call G__law_is_fraction hr__law_is_fraction (by rfl) T.m__law_is_fraction T.F__law_is_fraction.kp T.B__law_is_fraction .nil pass0 (pa_cons (pv 0) pa_nil)) (pe_one (pe_cmpR op_eqI (pe_op op_mulW (pe_ix ix_tup (pv 0) pe_int (fun _ _ => rfl)) (pv 2)) (pe_op op_mulW (pv 1) (pe_ix ix_tup (pv 0) pe_int (fun _ _ => rfl))) (nomark _)))))), ?_⟩
    walk_at "rs"
    refine ⟨a, f, rfl, ha, ⟨va.1, va.2.1⟩, fun H1 s1 => ?_⟩
    have ha1 := Same.seqT s1 ha
    have n1 := va.num L0
    have d1 := va.den L0
    refine ⟨true, rfl, iteTT rfl ⟨_, ha1, _, rfl, _, rfl, mulW (Nat.lt_of_le_of_lt n1 lX) lL, _, ha1, _, rfl, _, rfl, mulW lX (Nat.lt_of_le_of_lt d1 lL), ?_⟩⟩
    rw [decide_eq_true va.2.2]
    exact k H1 s1
/-! ### common denominators -/
def lcI (a d : Int) : Int := a.fdiv ((Nat.gcd a.natAbs d.natAbs : Nat) : Int) * d
theorem lcI_spec {a d : Int} (ha : 0 < a) (hd : 0 < d) : 0 < lcI a d ∧ a ∣ lcI a d ∧ d ∣ lcI a d ∧ (lcI a d).natAbs ≤ a.natAbs * d.natAbs := by
  unfold lcI
  obtain ⟨a', ea⟩ := Nat.gcd_dvd_left a.natAbs d.natAbs
  obtain ⟨d', ed⟩ := Nat.gcd_dvd_right a.natAbs d.natAbs
  have g0 : 0 < Nat.gcd a.natAbs d.natAbs := Nat.gcd_pos_of_pos_left _ (by omega)
  generalize Nat.gcd a.natAbs d.natAbs = g at ea ed g0
  have ea2 : a = (g : Int) * (a' : Int) := by rw [← Int.natCast_mul, ← ea]; omega
  have ed2 : d = (g : Int) * (d' : Int) := by rw [← Int.natCast_mul, ← ed]; omega
  have a0 : 0 < a' := Nat.pos_of_ne_zero fun z => by rw [z] at ea; simp at ea; omega
  have e : a.fdiv (g : Int) = (a' : Int) := by
    rw [ea2, Int.fdiv_eq_ediv_of_nonneg _ (by omega), Int.mul_ediv_cancel_left _ (by omega)]
  rw [e]
  refine ⟨Int.mul_pos (by omega) hd, ?_, Int.dvd_mul_left _ _, ?_⟩
  · refine ⟨d', ?_⟩
    conv => lhs; rw [ed2]
    rw [ea2]
    simp only [Int.mul_assoc, Int.mul_comm, Int.mul_left_comm]
  · rw [Int.natAbs_mul]
    refine Nat.mul_le_mul_right _ ?_
    rw [ea]
    show a' ≤ _
    exact Nat.le_mul_of_pos_left _ g0
def comF (a : Int) (fs : List Fr) : Int := fs.foldl (fun a f => lcI a f.2) a
def comI (fs : List Fr) : Int := comF 1 fs
def prodD : List Fr → Nat
  | [] => 1
  | f :: fs => f.2.natAbs * prodD fs
theorem comF_spec : ∀ {fs : List Fr} {a : Int}, 0 < a → (∀ f ∈ fs, 1 ≤ f.2) → 0 < comF a fs ∧ a ∣ comF a fs ∧ (∀ f ∈ fs, f.2 ∣ comF a fs) ∧ (comF a fs).natAbs ≤ a.natAbs * prodD fs
  | [], a, h, _ => ⟨h, Int.dvd_refl _, fun f hf => absurd hf (by simp), by show a.natAbs ≤ a.natAbs * 1; omega⟩
  | f :: fs, a, h, hf => by
    obtain ⟨p, d1, d2, l⟩ := lcI_spec h (hf f List.mem_cons_self)
    obtain ⟨q, e1, e2, m⟩ := comF_spec (fs := fs) p fun g hg => hf g (List.mem_cons_of_mem _ hg)
    refine ⟨q, Int.dvd_trans d1 e1, fun g hg => ?_, ?_⟩
    · rcases List.mem_cons.mp hg with rfl | hg
      · exact Int.dvd_trans d2 e1
      · exact e2 g hg
    · refine Nat.le_trans m ?_
      show _ ≤ a.natAbs * (f.2.natAbs * prodD fs)
      rw [← Nat.mul_assoc]
      exact Nat.mul_le_mul_right _ l
theorem comI_spec {fs : List Fr} (h : ∀ f ∈ fs, 1 ≤ f.2) : 0 < comI fs ∧ (∀ f ∈ fs, f.2 ∣ comI fs) ∧ (comI fs).natAbs ≤ prodD fs := by
  obtain ⟨a, _, b, c⟩ := comF_spec (a := 1) (by decide) h
  exact ⟨a, b, by rw [show (1 : Int).natAbs = 1 from rfl, Nat.one_mul] at c; exact c⟩
theorem prodD_pos : ∀ {fs : List Fr}, (∀ f ∈ fs, 1 ≤ f.2) → 1 ≤ prodD fs
  | [], _ => Nat.le_refl _
  | f :: fs, h => by
    have := prodD_pos (fs := fs) fun g hg => h g (List.mem_cons_of_mem _ hg)
    have h1 := h f List.mem_cons_self
    exact Nat.mul_pos (by omega) this
theorem prodD_take : ∀ {fs : List Fr} (i : Nat), (∀ f ∈ fs, 1 ≤ f.2) → prodD (fs.take i) ≤ prodD fs
  | fs, 0, h => by rw [List.take_zero]; exact prodD_pos h
  | [], i + 1, _ => Nat.le_refl _
  | f :: fs, i + 1, h => Nat.mul_le_mul_left _ (prodD_take i fun g hg => h g (List.mem_cons_of_mem _ hg))
theorem prodD_mem : ∀ {fs : List Fr} {f : Fr}, (∀ f ∈ fs, 1 ≤ f.2) → f ∈ fs → f.2.natAbs ≤ prodD fs
  | g :: fs, f, h, hf => by
    have hp := prodD_pos (fs := fs) fun g hg => h g (List.mem_cons_of_mem _ hg)
    rcases List.mem_cons.mp hf with rfl | hf
    · exact Nat.le_mul_of_pos_right _ hp
    · have := h g List.mem_cons_self
      exact Nat.le_trans (prodD_mem (fun g hg => h g (List.mem_cons_of_mem _ hg)) hf) (Nat.le_mul_of_pos_left _ (by omega))
theorem prodD_app : ∀ (fs gs : List Fr), prodD (fs ++ gs) = prodD fs * prodD gs
  | [], gs => (Nat.one_mul _).symm
  | f :: fs, gs => by
    show f.2.natAbs * prodD (fs ++ gs) = f.2.natAbs * prodD fs * prodD gs
    rw [prodD_app fs gs, Nat.mul_assoc]
theorem comF_next {a : Int} {fs : List Fr} {i : Nat} {f : Fr} (h : fs[i]? = some f) : comF a (fs.take (i + 1)) = lcI (comF a (fs.take i)) f.2 := by
  obtain ⟨hi, rfl⟩ := List.getElem?_eq_some_iff.mp h
  unfold comF
  rw [← List.take_append_getElem hi, List.foldl_append]
  rfl
def sp_common (K : PySem.W.Frag) : Sp := fun vs H Q _ => ∃ (a : Addr) (xs : List V) (fs : List Fr), vs = [.ref a] ∧ (SqL K H a xs ∨ SqT K H a xs) ∧ Frs K H xs fs ∧ (∀ f ∈ fs, 1 ≤ f.2) ∧ prodD fs < 2 ^ 4000 ∧ ∀ H', Same H H' → Q (.int (comI fs)) H'
theorem ok__law_common (T : Txt w K mg) : FnOk P w K mg base CX0 2 T.a__law_common T.d__law_common ["parts"] (sp_common K) := by
  refine T.F__law_common.ok sc__law_common (fun vs H Q E h => ?_) (fun cdv A outer s H vs Q E hr h => ?_)
  · obtain ⟨a, xs, fs, rfl, _⟩ := h
    rfl
  · obtain ⟨a, xs, fs, rfl, ha, hf, h1, lp, k⟩ := h
    have hr__law_gcd : Room 1 _ := hr
    have G__law_gcd := ok__law_gcd (P := P) (base := base) T
    have le := hf.len
    refine ⟨_, (pss_cons (ps_set (i := 1) sc__law_common.nd rfl (Or.inl rfl) pe_int)
      (pss_cons (ps_for PassesOwn.never rfl (pi_lt (pv 0)) (pg_name (i := 2) sc__law_common.nd rfl (Or.inl rfl)) (pss_one (ps_set (i := 1) sc__law_common.nd rfl (Or.inl rfl) (pe_op op_mulW (pe_op op_fdivF (pv 1) (pe_call G__law_gcd hr__law_gcd (by rfl) T.m__law_gcd T.F__law_gcd.kp T.B__law_gcd .nil pass0 (pa_cons (pv 1) (pa_cons (pe_ix ix_tup (pv 2) pe_int (fun _ _ => rfl)) pa_nil)))) (pe_ix ix_tup (pv 2) pe_int (fun _ _ => rfl))))))
      (pss_one (ps_ret (pv 1))))), ?_⟩
    refine seq_op fun N hN => ?_
    walk_at "rs"
    refine hN _ _ ?_
    clear hN N
    refine cut_seq (fun σ H2 => ∃ x2 : Option V, σ = [some (.ref a), some (.int (comI fs)), x2] ∧ H2 = H) (fun N hN => ?_) ?_
    · refine for_lt (K := K) (a := a) (xs := xs) (fun Q q => ⟨_, rfl, q⟩) ha (fun i σ H2 => ∃ x2 : Option V, σ = [some (.ref a), some (.int (comF 1 (fs.take i))), x2] ∧ H2 = H) ⟨_, rfl, rfl⟩ (fun i σ H2 ⟨_, _, e⟩ => by rw [e]; exact Same.refl _) ?_ ?_
      · rintro i y σ H2 hi ⟨x2, rfl, rfl⟩
        obtain ⟨u, f, eu, ef, hu⟩ := hf.get (n := i) (by have := (List.getElem?_eq_some_iff.mp hi).1; omega)
        obtain rfl : y = .ref u := by rw [eu] at hi; exact (Option.some.inj hi).symm
        have en := comF_next (a := 1) ef
        have f1 := h1 f (List.mem_of_getElem? ef)
        obtain ⟨c0, _, _, cl⟩ := comF_spec (a := 1) (fs := fs.take i) (by decide) fun g hg => h1 g (List.mem_of_mem_take hg)
        obtain ⟨g0, _, _, gl⟩ := lcI_spec c0 (show 0 < f.2 by omega)
        have fl : f.2.natAbs < 2 ^ 4000 := Nat.lt_of_le_of_lt (prodD_mem h1 (List.mem_of_getElem? ef)) lp
        have cl2 : (comF 1 (fs.take i)).natAbs < 2 ^ 4000 := by
          refine Nat.lt_of_le_of_lt (Nat.le_trans cl ?_) lp
          rw [show (1 : Int).natAbs = 1 from rfl, Nat.one_mul]
          exact prodD_take i h1
        have gg : (Nat.gcd (comF 1 (fs.take i)).natAbs f.2.natAbs) ≠ 0 := Nat.ne_of_gt (Nat.gcd_pos_of_pos_right _ (by omega))
        have gs : (Nat.gcd (comF 1 (fs.take i)).natAbs f.2.natAbs) ≤ f.2.natAbs := Nat.le_of_dvd (by omega) (Nat.gcd_dvd_right _ _)
        have gl2 : (((Nat.gcd (comF 1 (fs.take i)).natAbs f.2.natAbs : Nat) : Int)).natAbs < 2 ^ 4000 := Nat.lt_of_le_of_lt gs fl
        have dl : ((comF 1 (fs.take i)).fdiv ((Nat.gcd (comF 1 (fs.take i)).natAbs f.2.natAbs : Nat) : Int)).natAbs < 2 ^ 4000 := by
          rw [Int.fdiv_eq_ediv_of_nonneg _ (by omega)]
          exact Nat.lt_of_le_of_lt (Int.natAbs_ediv_le_natAbs _ _) cl2
        walk_at "rs"
        exact ⟨_, hu, _, rfl, _, _, ⟨rfl, rfl⟩, ⟨Int.natCast_ne_zero.mpr gg, logL gl2 (by decide) (by decide)⟩, _, hu, _, rfl, _, rfl, mulW dl fl, en.symm, _, rfl⟩
      · rintro σ H2 ⟨x2, rfl, rfl⟩
        refine hN _ _ ⟨x2, ?_, rfl⟩
        rw [le, List.take_length]
        rfl
    · rintro σ H2 ⟨x2, rfl, rfl⟩
      walk_at "rs"
      exact k _ (Same.refl _)
end
end LK

set_option Elab.async false
set_option linter.all false
set_option maxRecDepth 100000
namespace LK
open PySem PySem.Spec PyProof.Rows L2
local macro_rules | `(tactic| walk_at "rs") => `(tactic| simp only [cxK, cxNK, tCallZ, tAsg, tOp, rI0, rS0, rB0, rI, rU, tUn, rEq, rNe, rIxL, rIxT, rIxS, rSetL, rSlLU, rSlS, rSlU, rCatL, rCatU, rRepL, rIn, tVar, tC, gName, gSub, tIfS, tTest, tB, tAnd, tOr, tNot, tNotV, tAndV, tOrV, tIf, tCall, tCons, tNil, tCB, tDrop, tRet, tRetN, tNext, tLstU, tTupU, tM0, tM1, tPar, tPar3, tAug, ipI, tBM, tBM0, rAppend, rPop, tBreak, tCont, tChain, tSl, tPart, tNoPart, L2.start, List.map, List.length_cons, List.length_nil, List.replicate, List.cons_append, List.nil_append, List.append_nil, List.getElem?_cons_zero, List.getElem?_cons_succ, List.set_cons_zero, List.set_cons_succ, Option.some.injEq, V.int.injEq, V.ref.injEq, V.str.injEq, V.bl.injEq, exists_eq_left', exists_eq_left, exists_and_left, decide_eq_true_eq, List.cons.injEq, and_true, true_and, scal, Bool.not_eq_true', decide_eq_false_iff_not, Nat.zero_add, Nat.reduceAdd, Nat.reduceSub, reduceCtorEq, false_and, exists_false, false_or, or_false, CPow, CPowW, CMul, CDiv, Int.reduceToNat, ↓reduceIte, wipe, sw, List.nil_append, List.singleton_append])
local macro_rules | `(tactic| walk_at "st") => `(tactic| (refine seq_op fun N hN => ?_; walk_at "rs"))
local macro_rules | `(tactic| walk_at "sd") => `(tactic| first | assumption | decide | omega)
local macro_rules | `(tactic| walk_at "rd") => `(tactic| repeat (first
  | refine ⟨_, SqL.of (by assumption), ?_⟩ | refine ⟨_, SqL.of upd_same, ?_⟩ | refine ⟨_, .inl (SqL.of (by assumption)), ?_⟩ | refine ⟨_, (by assumption : _ = some (HO.lst _)), ?_⟩ | refine ⟨_, upd_same, ?_⟩
  | refine ⟨_, rfl, ?_⟩ | refine And.intro (by walk_at "sd") ?_))

section
variable {P : Program} {w : World} {K : PySem.W.Frag} {mg : Str → Option Value} {base : Heap}
theorem Frs.dp {K : PySem.W.Frag} {H : Hp} : ∀ {xs : List V} {fs : List Fr}, Frs K H xs fs → DpAll K H xs (fs.map fun f => .tuple [.int f.1, .int f.2])
  | _, _, .nil => .nil
  | _, _, .cons h q => .cons (dp_pair h) q.dp
def sp_rowsame (K : PySem.W.Frag) : Sp := fun vs H Q _ => ∃ (a r : Addr) (Xs : List Int) (L : Int), vs = [.ref a, .ref r, .int L] ∧ RowOk K H a L Xs ∧ SqL K H r (Xs.map V.int) ∧ Xs.length ≤ 1000 ∧ 0 < L ∧ L.natAbs < 2 ^ 4000 ∧ (∀ X ∈ Xs, X.natAbs < 2 ^ 4000) ∧ ∀ H', Same H H' → Q (.bl true) H'
theorem ok__law_row_same (T : Txt w K mg) : FnOk P w K mg base CX0 4 T.a__law_row_same T.d__law_row_same ["told", "row", "lower"] (sp_rowsame K) := by
  refine T.F__law_row_same.ok sc__law_row_same (fun vs H Q E h => ?_) (fun cdv A outer s H vs Q E hr h => ?_)
  · obtain ⟨a, r, Xs, L, rfl, _⟩ := h
    rfl
  · obtain ⟨a, r, Xs, L, rfl, ⟨xs, fs, ha, hf, rv⟩, hrow, lX, L0, lL, bX, k⟩ := h
    have hr__law_same : Room 3 _ := hr
    have G__law_same := ok__law_same (P := P) (base := base) T
    have le := hf.len
    have lr := rv.1
    refine ⟨_, (pss_cons (ps_if (PW.pt (pw_or (pt_not (pt_val (pe_callB (call_isiDK (K := K) rfl) (by rfl) T.n_isinstance (by decide +kernel) (pa_cons (pv 0) (pa_cons (pe_bltn (v := .ty "tuple") (u := .type "tuple") (by rfl) T.n_tuple (by decide +kernel) rfl) pa_nil))))) (pw_or1 (pt_cmpR op_neI (pe_callB call_len_seq (by rfl) T.n_len (by decide +kernel) (pa_cons (pv 0) pa_nil)) (pe_callB call_len_seq (by rfl) T.n_len (by decide +kernel) (pa_cons (pv 1) pa_nil)) (nomark _))))) (pss_one (ps_ret pe_bl)) pss_nil)
      (pss_one (ps_ret (pe_callB (cr_all rfl) (by rfl) T.n_all (by decide +kernel) (pa_cons (pe_lc (own := [("one", 3), ("two", 4)]) (g := gTup K 2 (gCons (gName 3) (gCons (gName 4) (gNil)))) (tt := tYes) rfl sc__law_row_same.nd (pi_zipM (by rfl) T.n_zip (pa_cons (pv 0) (pa_cons (pv 1) pa_nil))) (blkOk_by (own := [("one", 3), ("two", 4)]) (N := N__law_row_same) (sc := defScope s__law_row_same) (by decide +kernel)) (fun _ _ _ _ _ => by exact (pg_tup rfl (pgs_cons (pg_name (i := 3) sc__law_row_same.nd rfl (Or.inl rfl)) (pgs_cons (pg_name (i := 4) sc__law_row_same.nd rfl (Or.inl rfl)) pgs_nil)))) (fun _ _ _ _ _ => pts_nil) (fun _ _ _ _ _ => (pe_call G__law_same hr__law_same (by rfl) T.m__law_same T.F__law_same.kp T.B__law_same .nil pass0 (pa_cons (pv 3) (pa_cons (pv 4) (pa_cons (pv 2) pa_nil)))))) pa_nil))))), ?_⟩
    refine seq_op fun N hN => ?_
    walk_at "rs"
    refine ⟨_, _, ⟨rfl, rfl⟩, _, .tup ha hf.dp, by decide, iteFF (fun z => by cases z) ?_⟩
    refine ⟨_, .inr ha, _, .inl hrow, iteFF (fun z => z (by rw [List.length_map, le, lr])) (hN _ _ ?_)⟩
    clear hN N
    walk_at "rs"
    have gm : ∀ (x : V) (σ0 : L2.St) (H0 : Hp) (Q0 Q1 : L2.St → Hp → Prop), (∀ σ2 H2, Q0 σ2 H2 → Q1 σ2 H2) → gTup K 2 (gCons (gName 3) (gCons (gName 4) gNil)) x σ0 H0 Q0 → gTup K 2 (gCons (gName 3) (gCons (gName 4) gNil)) x σ0 H0 Q1 :=
      fun x σ0 H0 Q0 Q1 h ⟨a, xs, e1, e2, e3, v, r, e4, v2, r2, e5, e6, q⟩ => ⟨a, xs, e1, e2, e3, v, r, e4, v2, r2, e5, e6, h _ _ q⟩
    refine ⟨_, rfl, _, rfl, a, r, xs, Xs.map V.int, rfl, ha, hrow, fun D hD => lc_pure (walk_zipM (n := Xs.length) (by omega) (List.length_map ..)) hD (by omega) (fun _ => .bl true) (fun H2 s2 => ⟨Same.seqT s2 ha, s2.seq hrow⟩) (fun i x H2 H3 hi s2 y => ?_) gm fun H2 s2 h2 => ?_⟩
    · obtain ⟨T0, y1, y2, rfl, hT, rfl, h1, h2⟩ := y
      obtain ⟨u, f, eu, ef, hu⟩ := hf.get (n := i) (by omega)
      have e1 : y1 = .ref u := by
        have h1 : xs[i]? = some y1 := h1
        rw [eu] at h1; exact (Option.some.inj h1).symm
      subst e1
      have eX : Xs[i]? = some Xs[i] := List.getElem?_eq_getElem hi
      have e2 : y2 = .int Xs[i] := by
        have h2 : (Xs.map V.int)[i]? = some y2 := h2
        rw [List.getElem?_map, eX] at h2; exact (Option.some.inj h2).symm
      subst e2
      have s3 := Same.trans s2 (same_upd (o := .tup [.ref u, .int Xs[i]]) hT)
      refine ⟨T0, [.ref u, .int Xs[i]], rfl, .inl (.inl upd_same), rfl, .ref u, [.int Xs[i]], rfl, .int Xs[i], [], rfl, rfl, same_upd hT, rfl, fun Q2 hq => ?_⟩
      exact ⟨_, rfl, _, rfl, _, rfl, u, f, Xs[i], L, rfl, Same.seqT s3 hu, rv.2 i _ f eX ef, L0, bX _ (List.getElem_mem hi), lL, hq⟩
    · refine ⟨D, (List.range Xs.length).map fun _ => true, rfl, SqL.of (by rw [h2, List.map_map]; rfl), ?_⟩
      rw [all_map_id]
      have e : ((List.range Xs.length).all fun _ => true) = true := by simp
      rw [e]
      exact k H2 s2
/-- what the law holds of the rows: their common denominator and the parts of it -/
inductive Parts (K : PySem.W.Frag) (H : Hp) : List V → List (List Int) → Prop
  | nil : Parts K H [] []
  | cons {r : Addr} {Xs : List Int} {xs : List V} {Xss : List (List Int)} : SqL K H r (Xs.map V.int) → Parts K H xs Xss → Parts K H (.ref r :: xs) (Xs :: Xss)
theorem Parts.same {K : PySem.W.Frag} {H H' : Hp} (s : Same H H') : ∀ {xs : List V} {Xss : List (List Int)}, Parts K H xs Xss → Parts K H' xs Xss
  | _, _, .nil => .nil
  | _, _, .cons h q => .cons (s.seq h) (q.same s)
theorem Parts.len {K : PySem.W.Frag} {H : Hp} : ∀ {xs : List V} {Xss : List (List Int)}, Parts K H xs Xss → xs.length = Xss.length
  | _, _, .nil => rfl
  | _, _, .cons _ q => congrArg Nat.succ q.len
theorem Parts.get {K : PySem.W.Frag} {H : Hp} : ∀ {xs : List V} {Xss : List (List Int)} {n : Nat}, Parts K H xs Xss → n < Xss.length → ∃ a Xs, xs[n]? = some (.ref a) ∧ Xss[n]? = some Xs ∧ SqL K H a (Xs.map V.int)
  | _, _, _, .nil, h => absurd h (Nat.not_lt_zero _)
  | _, _, 0, .cons h _, _ => ⟨_, _, rfl, rfl, h⟩
  | _, _, n + 1, .cons _ q, h => by
    obtain ⟨a, f, h1, h2, h3⟩ := q.get (n := n) (Nat.lt_of_succ_lt_succ h)
    exact ⟨a, f, h1, h2, h3⟩
def StateAt (K : PySem.W.Frag) (H : Hp) (v : V) (L : Int) (Xss : List (List Int)) : Prop := ∃ (sa pa : Addr) (ps : List V), v = .ref sa ∧ SqT K H sa [.int L, .ref pa] ∧ SqL K H pa ps ∧ Parts K H ps Xss
theorem StateAt.same {K : PySem.W.Frag} {H H' : Hp} (s : Same H H') {v : V} {L : Int} {Xss : List (List Int)} : StateAt K H v L Xss → StateAt K H' v L Xss := fun ⟨sa, pa, ps, h1, h2, h3, h4⟩ => ⟨sa, pa, ps, h1, Same.seqT s h2, s.seq h3, h4.same s⟩
theorem Rows.dp {K : PySem.W.Frag} {H : Hp} {L : Int} : ∀ {xs : List V} {Xss : List (List Int)}, Rows K H L xs Xss → ∃ ds, DpAll K H xs ds
  | _, _, .nil => ⟨[], .nil⟩
  | _, _, .cons ⟨_, fs, h1, h2, _⟩ q => by
    obtain ⟨ds, hd⟩ := q.dp
    exact ⟨.tuple (fs.map fun f => .tuple [.int f.1, .int f.2]) :: ds, .cons (.tup h1 h2.dp) hd⟩
def Small (L : Int) (Xss : List (List Int)) : Prop := 0 < L ∧ L.natAbs < 2 ^ 4000 ∧ ∀ Xs ∈ Xss, Xs.length ≤ 1000 ∧ ∀ X ∈ Xs, X.natAbs < 2 ^ 4000
def sp_rowssame (K : PySem.W.Frag) : Sp := fun vs H Q _ => ∃ (a : Addr) (v : V) (xs : List V) (Xss : List (List Int)) (L : Int), vs = [.ref a, v] ∧ SqL K H a xs ∧ Rows K H L xs Xss ∧ StateAt K H v L Xss ∧ Small L Xss ∧ Xss.length ≤ 1000 ∧ ∀ H', Same H H' → Q (.bl true) H'
theorem ok__law_rows_same (T : Txt w K mg) : FnOk P w K mg base CX0 5 T.a__law_rows_same T.d__law_rows_same ["told", "state"] (sp_rowssame K) := by
  refine T.F__law_rows_same.ok sc__law_rows_same (fun vs H Q E h => ?_) (fun cdv A outer s H vs Q E hr h => ?_)
  · obtain ⟨a, v, xs, Xss, L, rfl, _⟩ := h
    rfl
  · obtain ⟨a, v, xs, Xss, L, rfl, ha, hrs, ⟨sa, pa, ps, rfl, hsa, hpa, hps⟩, ⟨L0, lL, sm⟩, lX, k⟩ := h
    have hr__law_row_same : Room 4 _ := hr
    have G__law_row_same := ok__law_row_same (P := P) (base := base) T
    have le := hrs.len
    have lp := hps.len
    obtain ⟨ds, hd⟩ := hrs.dp
    refine ⟨_, (pss_cons (ps_if (PW.pt (pw_or (pt_not (pt_val (pe_callB (call_isiDK (K := K) rfl) (by rfl) T.n_isinstance (by decide +kernel) (pa_cons (pv 0) (pa_cons (pe_bltn (v := .ty "list") (u := .type "list") (by rfl) T.n_list (by decide +kernel) rfl) pa_nil))))) (pw_or1 (pt_cmpR op_neI (pe_callB call_len_seq (by rfl) T.n_len (by decide +kernel) (pa_cons (pv 0) pa_nil)) (pe_callB call_len_seq (by rfl) T.n_len (by decide +kernel) (pa_cons (pe_ix ix_tup (pv 1) pe_int (fun _ _ => rfl)) pa_nil)) (nomark _))))) (pss_one (ps_ret pe_bl)) pss_nil)
      (pss_one (ps_ret (pe_callB (cr_all rfl) (by rfl) T.n_all (by decide +kernel) (pa_cons (pe_lc (own := [("one", 2), ("two", 3)]) (g := gTup K 2 (gCons (gName 2) (gCons (gName 3) (gNil)))) (tt := tYes) rfl sc__law_rows_same.nd (pi_zip (by rfl) T.n_zip (pa_cons (pv 0) (pa_cons (pe_ix ix_tup (pv 1) pe_int (fun _ _ => rfl)) pa_nil))) (blkOk_by (own := [("one", 2), ("two", 3)]) (N := N__law_rows_same) (sc := defScope s__law_rows_same) (by decide +kernel)) (fun _ _ _ _ _ => by exact (pg_tup rfl (pgs_cons (pg_name (i := 2) sc__law_rows_same.nd rfl (Or.inl rfl)) (pgs_cons (pg_name (i := 3) sc__law_rows_same.nd rfl (Or.inl rfl)) pgs_nil)))) (fun _ _ _ _ _ => pts_nil) (fun _ _ _ _ _ => (pe_call G__law_row_same hr__law_row_same (by rfl) T.m__law_row_same T.F__law_row_same.kp T.B__law_row_same .nil pass0 (pa_cons (pv 2) (pa_cons (pv 3) (pa_cons (pe_ix (ix_tupK (K := K) rfl) (pv 1) pe_int (fun _ _ => rfl)) pa_nil)))))) pa_nil))))), ?_⟩
    refine seq_op fun N hN => ?_
    walk_at "rs"
    refine ⟨_, _, ⟨rfl, rfl⟩, _, .lst ha hd, by decide, iteFF (fun z => by cases z) ?_⟩
    refine ⟨_, .inl ha, _, hsa, _, rfl, _, rfl, _, .inl hpa, iteFF (fun z => z (by rw [le, lp])) (hN _ _ ?_)⟩
    clear hN N
    walk_at "rs"
    have gm : ∀ (x : V) (σ0 : L2.St) (H0 : Hp) (Q0 Q1 : L2.St → Hp → Prop), (∀ σ2 H2, Q0 σ2 H2 → Q1 σ2 H2) → gTup K 2 (gCons (gName 2) (gCons (gName 3) gNil)) x σ0 H0 Q0 → gTup K 2 (gCons (gName 2) (gCons (gName 3) gNil)) x σ0 H0 Q1 :=
      fun x σ0 H0 Q0 Q1 h ⟨a, xs, e1, e2, e3, v, r, e4, v2, r2, e5, e6, q⟩ => ⟨a, xs, e1, e2, e3, v, r, e4, v2, r2, e5, e6, h _ _ q⟩
    refine ⟨_, rfl, _, rfl, sa, _, 1, _, rfl, rfl, hsa, rfl, a, pa, xs, ps, rfl, ha, hpa, fun D hD => lc_pure (walk_zip (n := Xss.length) (by omega)) hD (by omega) (fun _ => .bl true) (fun H2 s2 => ⟨s2.seq ha, s2.seq hpa⟩) (fun i x H2 H3 hi s2 y => ?_) gm fun H2 s2 h2 => ?_⟩
    · obtain ⟨T0, y1, y2, rfl, hT, rfl, h1, h2⟩ := y
      obtain ⟨u, Xs, eu, eX, hu⟩ := hrs.get (n := i) hi
      obtain ⟨r, Xs', er, eX', hr'⟩ := hps.get (n := i) hi
      have e1 : y1 = .ref u := by
        have h1 : xs[i]? = some y1 := h1
        rw [eu] at h1; exact (Option.some.inj h1).symm
      subst e1
      have e2 : y2 = .ref r := by
        have h2 : ps[i]? = some y2 := h2
        rw [er] at h2; exact (Option.some.inj h2).symm
      subst e2
      rw [eX] at eX'
      cases eX'
      obtain ⟨m1, m2⟩ := sm Xs (List.mem_of_getElem? eX)
      have s3 := Same.trans s2 (same_upd (o := .tup [.ref u, .ref r]) hT)
      refine ⟨T0, [.ref u, .ref r], rfl, .inl (.inl upd_same), rfl, .ref u, [.ref r], rfl, .ref r, [], rfl, rfl, same_upd hT, rfl, fun Q2 hq => ?_⟩
      exact ⟨_, rfl, _, rfl, _, rfl, sa, _, 0, _, rfl, rfl, Same.seqT s3 hsa, rfl, u, r, Xs, L, rfl, hu.same s3, s3.seq hr', m1, L0, lL, m2, hq⟩
    · refine ⟨D, (List.range Xss.length).map fun _ => true, rfl, SqL.of (by rw [h2, List.map_map]; rfl), ?_⟩
      rw [all_map_id]
      have e : ((List.range Xss.length).all fun _ => true) = true := by simp
      rw [e]
      exact k H2 s2
end
end LK

set_option Elab.async false
set_option linter.all false
set_option maxRecDepth 100000
namespace LK
open PySem PySem.Spec PyProof.Rows L2
local macro_rules | `(tactic| walk_at "rs") => `(tactic| simp only [cxK, cxNK, tCallZ, tAsg, tOp, rI0, rS0, rB0, rI, rU, tUn, rEq, rNe, rIxL, rIxT, rIxS, rSetL, rSlLU, rSlS, rSlU, rCatL, rCatU, rRepL, rIn, tVar, tC, gName, gSub, tIfS, tTest, tB, tAnd, tOr, tNot, tNotV, tAndV, tOrV, tIf, tCall, tCons, tNil, tCB, tDrop, tRet, tRetN, tNext, tLstU, tTupU, tM0, tM1, tPar, tPar3, tAug, ipI, tBM, tBM0, rAppend, rPop, tBreak, tCont, tChain, tSl, tPart, tNoPart, L2.start, List.map, List.length_cons, List.length_nil, List.replicate, List.cons_append, List.nil_append, List.append_nil, List.getElem?_cons_zero, List.getElem?_cons_succ, List.set_cons_zero, List.set_cons_succ, Option.some.injEq, V.int.injEq, V.ref.injEq, V.str.injEq, V.bl.injEq, exists_eq_left', exists_eq_left, exists_and_left, decide_eq_true_eq, List.cons.injEq, and_true, true_and, scal, Bool.not_eq_true', decide_eq_false_iff_not, Nat.zero_add, Nat.reduceAdd, Nat.reduceSub, reduceCtorEq, false_and, exists_false, false_or, or_false, CPow, CPowW, CMul, CDiv, Int.reduceToNat, ↓reduceIte, wipe, sw, List.nil_append, List.singleton_append])
local macro_rules | `(tactic| walk_at "st") => `(tactic| (refine seq_op fun N hN => ?_; walk_at "rs"))
local macro_rules | `(tactic| walk_at "sd") => `(tactic| first | assumption | decide | omega)
local macro_rules | `(tactic| walk_at "rd") => `(tactic| repeat (first
  | refine ⟨_, SqL.of (by assumption), ?_⟩ | refine ⟨_, SqL.of upd_same, ?_⟩ | refine ⟨_, .inl (SqL.of (by assumption)), ?_⟩ | refine ⟨_, (by assumption : _ = some (HO.lst _)), ?_⟩ | refine ⟨_, upd_same, ?_⟩
  | refine ⟨_, rfl, ?_⟩ | refine And.intro (by walk_at "sd") ?_))

/-- the same, and the new list is there at each turn -/
theorem lc_accD {J : It} {n : Nat} {G : Hp → Prop} {Y : Nat → Hp → V → Hp → Prop} (w : Walk J n G Y) {g : TG} {te : TE} {vs : List Nat} {σ : L2.St} {H1 : Hp} {D : Addr} {Qd : Hp → Prop} (R : Nat → Hp → List V → Prop) (hD : H1 D = none) (hn : n ≤ 1000000)
    (mono : ∀ i H H' ys, Same H H' → R i H ys → R i H' ys) (up : ∀ i H ys zs o, H D = some (.lst zs) → R i H ys → R i (L2.upd H D o) ys) (r0 : R 0 (L2.upd H1 D (.lst [])) []) (hG : ∀ H, Same H1 H → G H)
    (hs : ∀ i x H H', i < n → Same H1 H → H D ≠ none → Y i H x H' → g x (wipe σ vs) H' fun σ2 H2 => Same H H2 ∧ wipe σ2 vs = wipe σ vs ∧ ∀ Q2 : V → Hp → Prop, (∀ v H3, Same H2 H3 → (∀ ys, R i H3 ys → R (i + 1) H3 (ys ++ [v])) → Q2 v H3) → te σ2 H2 Q2)
    (gm : ∀ x σ0 H0 Q0 Q1, (∀ σ2 H2, Q0 σ2 H2 → Q1 σ2 H2) → g x σ0 H0 Q0 → g x σ0 H0 Q1)
    (hq : ∀ H' ys, Same H1 H' → H' D = some (.lst ys) → ys.length = n → R n H' ys → Qd H') :
    ∃ W : Nat → Nat → Hp → Prop, (∃ m, W 0 m (L2.upd H1 D (.lst []))) ∧ ∀ i m H, W i m H →
      (J.stop i H ∧ Qd H) ∨ (J.go i H ∧ ∃ Nx : Hp → Prop, (∀ H', Nx H' → ∃ m', m' < m ∧ W (i + 1) m' H') ∧ ∀ x H', J.yld i H x H' → g x (wipe σ vs) H' fun σ2 H2 => wipe σ2 vs = wipe σ vs ∧ tYes σ2 H2 fun b H3 =>
        if b = true then te σ2 H3 fun y H4 => ∃ acc, H4 D = some (.lst acc) ∧ acc.length < sizeLine ∧ Nx (L2.upd H4 D (.lst (acc ++ [y]))) else Nx H3) := by
  have keep : ∀ {H : Hp} {o : HO}, Same H1 H → Same H1 (L2.upd H D o) := fun s a u e => by
    rw [upd_ne (ne_of_none e hD)]; exact s _ _ e
  refine lc_it w (fun i H => Same H1 H ∧ ∃ ys, H D = some (.lst ys) ∧ ys.length = i ∧ R i H ys) ⟨keep (Same.refl _), [], upd_same, rfl, r0⟩ (fun i H _ h => hG H h.1) (fun i x H H' hi ⟨s1, ys, h1, hl, hr⟩ hY => ?_) (fun H ⟨s1, ys, h1, hl, hr⟩ => hq H ys s1 h1 hl hr)
  refine gm _ _ _ _ _ (fun σ2 H2 ⟨s2, e2, kq⟩ => ⟨e2, ?_⟩) (hs i x H H' hi s1 (by rw [h1]; exact Option.some_ne_none _) hY)
  simp only [tYes, eq_self, ite_true]
  refine kq _ fun v H3 s3 st => ?_
  have s13 := Same.trans s2 s3
  have hD3 := s13 _ _ h1
  refine ⟨ys, hD3, ?_, keep (Same.trans s1 s13), ys ++ [v], upd_same, by rw [List.length_append, hl]; rfl, up _ _ _ _ _ hD3 (st ys (mono _ _ _ _ s13 hr))⟩
  rw [hl]
  exact Nat.lt_of_lt_of_le (Nat.lt_of_lt_of_le hi hn) (by decide)
/-- a comprehension over a list or a tuple, its items told by R -/
theorem lc_lt {K : PySem.W.Frag} {a : Addr} {xs : List V} {g : TG} {te tl : TE} {vs : List Nat} {σ : L2.St} {H1 : Hp} {Q : VK} (hv : ∀ Q : VK, Q (.ref a) H1 → tl σ H1 Q) (h : SqL K H1 a xs ∨ SqT K H1 a xs) (R : Addr → Nat → Hp → List V → Prop) (hn : xs.length ≤ 1000000)
    (mono : ∀ D i H H' ys, Same H H' → R D i H ys → R D i H' ys) (up : ∀ D i H ys o, R D i H ys → R D i (L2.upd H D o) ys) (r0 : ∀ D H, R D 0 H [])
    (hs : ∀ D i x H, H1 D = none → i < xs.length → Same H1 H → xs[i]? = some x → H D ≠ none → g x (wipe σ vs) H fun σ2 H2 => Same H H2 ∧ wipe σ2 vs = wipe σ vs ∧ ∀ Q2 : VK, (∀ v H3, Same H2 H3 → (∀ ys, R D i H3 ys → R D (i + 1) H3 (ys ++ [v])) → Q2 v H3) → te σ2 H2 Q2)
    (gm : ∀ x σ0 H0 Q0 Q1, (∀ σ2 H2, Q0 σ2 H2 → Q1 σ2 H2) → g x σ0 H0 Q0 → g x σ0 H0 Q1)
    (hq : ∀ D H' ys, Same H1 H' → H1 D = none → H' D = some (.lst ys) → ys.length = xs.length → R D xs.length H' ys → Q (.ref D) H') : tLc (iLT K tl) g tYes te vs σ H1 Q := by
  have core : ∀ {J : It} {G : Hp → Prop} (w : Walk J xs.length G (YAt xs)) (hG : ∀ H, Same H1 H → G H) (D : Addr) (hD : H1 D = none), _ := fun w hG D hD => lc_accD w (g := g) (te := te) (vs := vs) (σ := σ) (D := D) (Qd := fun H => Q (.ref D) H) (R D) hD hn (fun i H H' ys s p => mono D i H H' ys s p) (fun i H ys zs o hp p => up D i H ys o p) (r0 D _) hG (fun i x H H' hi s n ⟨e, hx⟩ => by
    subst e
    exact hs D i x _ hD hi s hx n) gm fun H' ys s e l p => hq D H' ys s hD e l p
  rcases h with h | h
  · exact .inl (hv _ ⟨a, rfl, ⟨xs, h⟩, fun D hD => core walk_list (fun H s => s.seq h) D hD⟩)
  · exact .inr (hv _ ⟨a, rfl, ⟨xs, h⟩, fun D hD => core walk_tup (fun H s => Same.seqT s h) D hD⟩)
theorem map_getD {α β : Type} (xs : List α) (g : α → β) {d : α} : ((List.range xs.length).map fun k => g (xs.getD k d)) = xs.map g := by
  refine List.ext_getElem (by simp) fun i h1 h2 => ?_
  have hi : i < xs.length := by simpa using h1
  simp [List.getD_eq_getElem?_getD, List.getElem?_eq_getElem hi]
/-- rows of fractions -/
inductive FRows (K : PySem.W.Frag) (H : Hp) : List V → List (List Fr) → Prop
  | nil : FRows K H [] []
  | cons {a : Addr} {xs rs : List V} {fs : List Fr} {fss : List (List Fr)} : SqT K H a xs → Frs K H xs fs → FRows K H rs fss → FRows K H (.ref a :: rs) (fs :: fss)
section
variable {K : PySem.W.Frag} {H H' : Hp}
theorem FRows.same (s : Same H H') : ∀ {xs : List V} {fss : List (List Fr)}, FRows K H xs fss → FRows K H' xs fss
  | _, _, .nil => .nil
  | _, _, .cons h h2 q => .cons (Same.seqT s h) (h2.same s) (q.same s)
theorem FRows.len : ∀ {xs : List V} {fss : List (List Fr)}, FRows K H xs fss → xs.length = fss.length
  | _, _, .nil => rfl
  | _, _, .cons _ _ q => congrArg Nat.succ q.len
theorem FRows.get : ∀ {xs : List V} {fss : List (List Fr)} {n : Nat}, FRows K H xs fss → n < fss.length → ∃ a ys fs, xs[n]? = some (.ref a) ∧ fss[n]? = some fs ∧ SqT K H a ys ∧ Frs K H ys fs
  | _, _, _, .nil, h => absurd h (Nat.not_lt_zero _)
  | _, _, 0, .cons h h2 _, _ => ⟨_, _, _, rfl, rfl, h, h2⟩
  | _, _, n + 1, .cons _ _ q, h => by
    obtain ⟨a, ys, fs, h1, h2, h3⟩ := q.get (n := n) (Nat.lt_of_succ_lt_succ h)
    exact ⟨a, ys, fs, h1, h2, h3⟩
theorem seqL_upd {a p : Addr} {xs : List V} {o : HO} {ys : List V} (n : a ≠ p) (h : SqL K H a xs) : SqL K (L2.upd H p o) a xs := by
  rcases h with (h | ⟨u, h⟩) | h
  · exact .inl (.inl (by rw [upd_ne n]; exact h))
  · exact .inl (.inr ⟨u, by rw [upd_ne n]; exact h⟩)
  · exact .inr h
theorem Parts.upd {p : Addr} {o : HO} : ∀ {xs : List V} {Xss : List (List Int)}, (∀ v ∈ xs, v ≠ .ref p) → Parts K H xs Xss → Parts K (L2.upd H p o) xs Xss
  | _, _, _, .nil => .nil
  | _, _, n, .cons h q => .cons (seqL_upd (ys := []) (fun e => n _ List.mem_cons_self (by rw [e])) h) (q.upd fun v hv => n v (List.mem_cons_of_mem _ hv))
theorem Parts.app : ∀ {xs ys : List V} {Xss Yss : List (List Int)}, Parts K H xs Xss → Parts K H ys Yss → Parts K H (xs ++ ys) (Xss ++ Yss)
  | _, _, _, _, .nil, r => r
  | _, _, _, _, .cons h q, r => .cons h (q.app r)
end
/-- the common denominator of rows -/
def rowsL (l : Int) (fss : List (List Fr)) : Int := fss.foldl (fun l fs => comI ((1, l) :: fs)) l
def prodDD : List (List Fr) → Nat
  | [] => 1
  | fs :: fss => prodD fs * prodDD fss
theorem comI_cons {l : Int} {fs : List Fr} (hl : 0 < l) (h : ∀ f ∈ fs, 1 ≤ f.2) : 0 < comI ((1, l) :: fs) ∧ l ∣ comI ((1, l) :: fs) ∧ (∀ f ∈ fs, f.2 ∣ comI ((1, l) :: fs)) ∧ (comI ((1, l) :: fs)).natAbs ≤ l.natAbs * prodD fs := by
  have h1 : ∀ f ∈ ((1, l) :: fs : List Fr), 1 ≤ f.2 := fun f hf => by
    rcases List.mem_cons.mp hf with rfl | hf
    · exact hl
    · exact h f hf
  obtain ⟨a, b, c⟩ := comI_spec h1
  exact ⟨a, b (1, l) List.mem_cons_self, fun f hf => b f (List.mem_cons_of_mem _ hf), c⟩
theorem rowsL_spec : ∀ {fss : List (List Fr)} {l : Int}, 0 < l → (∀ fs ∈ fss, ∀ f ∈ fs, 1 ≤ f.2) → 0 < rowsL l fss ∧ l ∣ rowsL l fss ∧ (∀ fs ∈ fss, ∀ f ∈ fs, f.2 ∣ rowsL l fss) ∧ (rowsL l fss).natAbs ≤ l.natAbs * prodDD fss
  | [], l, hl, _ => ⟨hl, Int.dvd_refl _, fun f hf => absurd hf (by simp), by show l.natAbs ≤ l.natAbs * 1; omega⟩
  | fs :: fss, l, hl, h => by
    obtain ⟨p, d1, d2, m⟩ := comI_cons hl (h fs List.mem_cons_self)
    obtain ⟨q, e1, e2, n⟩ := rowsL_spec (fss := fss) p fun gs hg => h gs (List.mem_cons_of_mem _ hg)
    refine ⟨q, Int.dvd_trans d1 e1, fun gs hg => ?_, ?_⟩
    · rcases List.mem_cons.mp hg with rfl | hg
      · exact fun f hf => Int.dvd_trans (d2 f hf) e1
      · exact e2 gs hg
    · refine Nat.le_trans n ?_
      show _ ≤ l.natAbs * (prodD fs * prodDD fss)
      rw [← Nat.mul_assoc]
      exact Nat.mul_le_mul_right _ m
theorem rowsL_next {l : Int} {fss : List (List Fr)} {i : Nat} {fs : List Fr} (h : fss[i]? = some fs) : rowsL l (fss.take (i + 1)) = comI ((1, rowsL l (fss.take i)) :: fs) := by
  obtain ⟨hi, rfl⟩ := List.getElem?_eq_some_iff.mp h
  unfold rowsL
  rw [← List.take_append_getElem hi, List.foldl_append]
  rfl
theorem prodDD_pos : ∀ {fss : List (List Fr)}, (∀ fs ∈ fss, ∀ f ∈ fs, 1 ≤ f.2) → 1 ≤ prodDD fss
  | [], _ => Nat.le_refl _
  | fs :: fss, h => Nat.mul_pos (prodD_pos (h fs List.mem_cons_self)) (prodDD_pos fun g hg => h g (List.mem_cons_of_mem _ hg))
theorem prodDD_take : ∀ {fss : List (List Fr)} (i : Nat), (∀ fs ∈ fss, ∀ f ∈ fs, 1 ≤ f.2) → prodDD (fss.take i) ≤ prodDD fss
  | fs, 0, h => by rw [List.take_zero]; exact prodDD_pos h
  | [], i + 1, _ => Nat.le_refl _
  | f :: fs, i + 1, h => Nat.mul_le_mul_left _ (prodDD_take i fun g hg => h g (List.mem_cons_of_mem _ hg))
theorem prodDD_step : ∀ {fss : List (List Fr)} {i : Nat} {fs : List Fr}, (∀ fs ∈ fss, ∀ f ∈ fs, 1 ≤ f.2) → fss[i]? = some fs → prodDD (fss.take i) * prodD fs ≤ prodDD fss
  | gs :: fss, 0, fs, h, e => by
    cases e
    rw [List.take_zero]
    show 1 * prodD gs ≤ prodD gs * prodDD fss
    rw [Nat.one_mul]
    exact Nat.le_mul_of_pos_right _ (prodDD_pos fun g hg => h g (List.mem_cons_of_mem _ hg))
  | gs :: fss, i + 1, fs, h, e => by
    show prodD gs * prodDD (fss.take i) * prodD fs ≤ prodD gs * prodDD fss
    rw [Nat.mul_assoc]
    exact Nat.mul_le_mul_left _ (prodDD_step (fss := fss) (i := i) (fun g hg => h g (List.mem_cons_of_mem _ hg)) e)
def partsOf (L : Int) (fss : List (List Fr)) : List (List Int) := fss.map fun fs => fs.map (num L)
def sp_state (K : PySem.W.Frag) : Sp := fun vs H Q _ => ∃ (a : Addr) (xs : List V) (fss : List (List Fr)), vs = [.ref a] ∧ (SqL K H a xs ∨ SqT K H a xs) ∧ FRows K H xs fss ∧ (∀ fs ∈ fss, ∀ f ∈ fs, 1 ≤ f.2 ∧ f.1.natAbs < 2 ^ 1000) ∧ prodDD fss < 2 ^ 1000 ∧ fss.length ≤ 1000 ∧ (∀ fs ∈ fss, fs.length ≤ 1000) ∧
  ∀ (v : V) H', Same H H' → StateAt K H' v (rowsL 1 fss) (partsOf (rowsL 1 fss) fss) → Q v H'
section
variable {P : Program} {w : World} {K : PySem.W.Frag} {mg : Str → Option Value} {base : Heap}
theorem ok__law_state (T : Txt w K mg) : FnOk P w K mg base CX0 3 T.a__law_state T.d__law_state ["rows_y"] (sp_state K) := by
  refine T.F__law_state.ok sc__law_state (fun vs H Q E h => ?_) (fun cdv A outer s H vs Q E hr h => ?_)
  · obtain ⟨a, xs, fss, rfl, _⟩ := h
    rfl
  · obtain ⟨a, xs, fss, rfl, ha, hf, hb, lp, lX, lf, k⟩ := h
    have hr__law_common : Room 2 _ := hr
    have G__law_common := ok__law_common (P := P) (base := base) T
    have le := hf.len
    have h1 : ∀ fs ∈ fss, ∀ f ∈ fs, 1 ≤ f.2 := fun fs hfs f hff => (hb fs hfs f hff).1
    refine ⟨_, (pss_cons (ps_set (i := 1) sc__law_state.nd rfl (Or.inr rfl) pe_int)
      (pss_cons (ps_for PassesOwn.never rfl (pi_lt (pv 0)) (pg_name (i := 2) sc__law_state.nd rfl (Or.inl rfl)) (pss_one (ps_set (i := 1) sc__law_state.nd rfl (Or.inr rfl) (pe_call G__law_common hr__law_common (by rfl) T.m__law_common T.F__law_common.kp T.B__law_common .nil pass0 (pa_cons (pe_op op_catL (pe_lstU (pa_cons (pe_tupU (pa_cons pe_int (pa_cons (pv 1) pa_nil))) pa_nil)) (pe_callTy call_listU (by rfl) T.n_list (by decide +kernel) (pa_cons (pv 2) pa_nil))) pa_nil)))))
      (pss_one (ps_ret (pe_tupU (pa_cons (pv 1) (pa_cons (pe_lc (own := [("row", 2)]) (g := gName 2) (tt := tYes) rfl sc__law_state.nd (pi_lt (pv 0)) (blkOk_by (own := [("row", 2)]) (N := N__law_state) (sc := defScope s__law_state) (by decide +kernel)) (fun _ _ _ _ _ => pg_name (i := 2) sc__law_state.nd rfl (Or.inl rfl)) (fun _ _ _ _ _ => pts_nil) (fun _ _ _ _ _ => (pe_lc (own := [("one", 3)]) (g := gName 3) (tt := tYes) rfl sc__law_state.nd (pi_tupK (K := K) rfl (pv 2)) (blkOk_by (own := [("one", 3)]) (N := N__law_state) (by kernel_rfl)) (fun _ _ _ _ _ => pg_name (i := 3) sc__law_state.nd rfl (Or.inl rfl)) (fun _ _ _ _ _ => pts_nil) (fun _ _ _ _ _ => (pe_op op_mulW (pe_ix (ix_tupK (K := K) rfl) (pv 3) pe_int (fun _ _ => rfl)) (pe_op op_fdivF (pv 1) (pe_ix (ix_tupK (K := K) rfl) (pv 3) pe_int (fun _ _ => rfl)))))))) pa_nil))))))), ?_⟩
    refine seq_op fun N hN => ?_
    walk_at "rs"
    refine hN _ _ ?_
    clear hN N
    refine cut_seq (fun σ H2 => ∃ x2 : Option V, σ = [some (.ref a), some (.int (rowsL 1 fss)), x2, none] ∧ Same H H2) (fun N hN => ?_) ?_
    · refine for_lt (K := K) (a := a) (xs := xs) (fun Q q => ⟨_, rfl, q⟩) ha (fun i σ H2 => ∃ x2 : Option V, σ = [some (.ref a), some (.int (rowsL 1 (fss.take i))), x2, none] ∧ Same H H2) ⟨_, rfl, Same.refl _⟩ (fun i σ H2 ⟨_, _, s⟩ => s) ?_ ?_
      · rintro i y σ H2 hi ⟨x2, rfl, s2⟩
        obtain ⟨u, ys, fs, eu, ef, hu, hys⟩ := hf.get (n := i) (by have := (List.getElem?_eq_some_iff.mp hi).1; omega)
        obtain rfl : y = .ref u := by rw [eu] at hi; exact (Option.some.inj hi).symm
        have mf := List.mem_of_getElem? ef
        have en := rowsL_next (l := 1) ef
        obtain ⟨c0, _, _, cl⟩ := rowsL_spec (l := 1) (fss := fss.take i) (by decide) fun gs hg => h1 gs (List.mem_of_mem_take hg)
        have pp : (rowsL 1 (fss.take i)).natAbs * prodD fs < 2 ^ 1000 := by
          refine Nat.lt_of_le_of_lt (Nat.le_trans (Nat.mul_le_mul_right _ cl) ?_) lp
          rw [show (1 : Int).natAbs = 1 from rfl, Nat.one_mul]
          exact prodDD_step h1 ef
        walk_at "rs"
        refine ⟨by decide, fun p1 H3 s3 _ h3 => ⟨by decide, fun p2 H4 s4 _ h4 => ⟨ys, .inr (Same.seqT (Same.trans s2 (Same.trans s3 s4)) hu), fun p3 H5 s5 _ h5 => ⟨_, s5 _ _ h4, _, h5, ?_, fun p6 H6 s6 _ h6 => ?_⟩⟩⟩⟩
        · have := hys.len
          have := lf fs mf
          exact Nat.le_trans (show _ ≤ 1000000 by simp only [List.length_cons, List.length_nil]; omega) (by decide)
        · have s56 := Same.trans s5 s6
          have s36 := Same.trans s4 s56
          refine ⟨p6, _, (1, rowsL 1 (fss.take i)) :: fs, rfl, .inl (SqL.of h6), .cons (.inl (.inl (s36 _ _ h3))) (hys.same (Same.trans s2 (Same.trans s3 s36))), fun f hf => ?_, pow_le pp (by decide), fun H7 s7 => ⟨_, ⟨by rw [en], rfl⟩, Same.trans s2 (Same.trans s3 (Same.trans s36 s7))⟩⟩
          rcases List.mem_cons.mp hf with rfl | hf
          · exact c0
          · exact h1 fs mf f hf
      · rintro σ H2 ⟨x2, rfl, s2⟩
        refine hN _ _ ⟨x2, ?_, s2⟩
        rw [le, List.take_length]
    · rintro σ H2 ⟨x2, rfl, s2⟩
      walk_at "rs"
      obtain ⟨L0, _, Ld, Ll⟩ := rowsL_spec (l := 1) (fss := fss) (by decide) h1
      have lL : (rowsL 1 fss).natAbs < 2 ^ 1000 := Nat.lt_of_le_of_lt Ll (by rw [show (1 : Int).natAbs = 1 from rfl, Nat.one_mul]; exact lp)
      generalize hL : rowsL 1 fss = L at *
      refine lc_lt (K := K) (a := a) (xs := xs) (fun Q q => ⟨_, rfl, q⟩) (ha.imp s2.seq (Same.seqT s2)) (fun D i H ys => Parts K H ys (partsOf L (fss.take i)) ∧ ∀ v ∈ ys, v ≠ .ref D) (by omega) (fun D i H H' ys s ⟨p1, p2⟩ => ⟨p1.same s, p2⟩) (fun D i H ys o ⟨p1, p2⟩ => ⟨p1.upd p2, p2⟩) (fun D H => ⟨.nil, fun v hv => absurd hv (by simp)⟩) (fun D i x H3 hD hi s3 hx nD => ?_) (fun x σ0 H0 Q0 Q1 h q => h _ _ q) fun D H3 ys s3 hD h3 hl ⟨r1, _⟩ => ?_
      · obtain ⟨u, ys, fs, eu, ef, hu, hys⟩ := hf.get (n := i) (by omega)
        obtain rfl : x = .ref u := by rw [eu] at hx; exact (Option.some.inj hx).symm
        have mf := List.mem_of_getElem? ef
        have ly := hys.len
        have s03 := Same.trans s2 s3
        refine ⟨Same.refl _, rfl, fun Q2 hq => ?_⟩
        refine ⟨_, rfl, u, rfl, ⟨ys, Same.seqT s03 hu⟩, fun D1 hD1 => lc_pure walk_tup hD1 (by have := lf fs mf; omega) (fun j => .int (num L (fs.getD j (0, 1)))) (fun H4 s4 => Same.seqT (Same.trans s03 s4) hu) (fun j y H4 H5 hj s4 yy => ?_) (fun x σ0 H0 Q0 Q1 h q => h _ _ q) fun H4 s4 h4 => hq _ _ s4 fun zs ⟨r1, r2⟩ => ⟨?_, ?_⟩⟩
        · obtain ⟨rfl, hy⟩ := yy
          obtain ⟨v, f, ev, efj, hv⟩ := hys.get (n := j) (by omega)
          obtain rfl : y = .ref v := by rw [ev] at hy; exact (Option.some.inj hy).symm
          have hv5 := Same.seqT (Same.trans s03 s4) hv
          obtain ⟨f1, f2⟩ := hb fs mf f (List.mem_of_getElem? efj)
          have fd := Ld fs mf f (List.mem_of_getElem? efj)
          have ln0 : L.natAbs ≠ 0 := by have := L0; revert this; generalize L = z; omega
          have fl : f.2.natAbs < 2 ^ 1000 := Nat.lt_of_le_of_lt (Nat.le_of_dvd (Nat.pos_of_ne_zero ln0) (Int.natAbs_dvd_natAbs.mpr fd)) lL
          have ed : L.fdiv f.2 = L / f.2 := Int.fdiv_eq_ediv_of_nonneg _ (by omega)
          have dl : (L / f.2).natAbs < 2 ^ 1000 := Nat.lt_of_le_of_lt (Int.natAbs_ediv_le_natAbs _ _) lL
          have en : num L (fs.getD j (0, 1)) = f.1 * (L / f.2) := by rw [List.getD_eq_getElem?_getD, efj]; rfl
          refine ⟨Same.refl _, rfl, fun Q3 hq3 => ?_⟩
          walk_at "rs"
          rw [en, ← ed] at hq3
          rw [← ed] at dl
          exact ⟨_, hv5, _, rfl, _, hv5, _, rfl, _, rfl, ⟨by omega, logL fl (by decide) (by decide)⟩, _, rfl, mulW (pow_le f2 (by decide)) (pow_le dl (by decide)), hq3 _ (Same.refl _)⟩
        · have e : partsOf L (fss.take (i + 1)) = partsOf L (fss.take i) ++ [fs.map (num L)] := by
            obtain ⟨hk, rfl⟩ := List.getElem?_eq_some_iff.mp ef
            unfold partsOf
            rw [← List.take_append_getElem hk, List.map_append]
            rfl
          rw [e]
          refine r1.app (.cons (SqL.of ?_) .nil)
          rw [h4, ly, map_getD fs (fun f => V.int (num L f)), List.map_map]
          rfl
        · intro v hv
          rcases List.mem_append.mp hv with hv | hv
          · exact r2 v hv
          · obtain rfl := List.mem_singleton.mp hv
            exact fun e => nD (by cases e; exact hD1)
      · refine ⟨by decide, fun p H4 s4 _ h4 => k _ _ (Same.trans s2 (Same.trans s3 s4)) ⟨p, D, ys, rfl, .inl (.inl h4), SqL.of (s4 _ _ h3), ?_⟩⟩
        rw [le, List.take_length] at r1
        exact r1.same s4
end
end LK

set_option Elab.async false
set_option linter.all false
set_option maxRecDepth 100000
namespace LK
open PySem PySem.Spec PyProof.Rows L2
local macro_rules | `(tactic| walk_at "rs") => `(tactic| simp only [cxK, cxNK, tCallZ, tAsg, tOp, rI0, rS0, rB0, rI, rU, tUn, rEq, rNe, rIxL, rIxT, rIxS, rSetL, rSlLU, rSlS, rSlU, rCatL, rCatU, rRepL, rIn, tVar, tC, gName, gSub, tIfS, tTest, tB, tAnd, tOr, tNot, tNotV, tAndV, tOrV, tIf, tCall, tCons, tNil, tCB, tDrop, tRet, tRetN, tNext, tLstU, tTupU, tM0, tM1, tPar, tPar3, tAug, ipI, tBM, tBM0, rAppend, rPop, tBreak, tCont, tChain, tSl, tPart, tNoPart, L2.start, List.map, List.length_cons, List.length_nil, List.replicate, List.cons_append, List.nil_append, List.append_nil, List.getElem?_cons_zero, List.getElem?_cons_succ, List.set_cons_zero, List.set_cons_succ, Option.some.injEq, V.int.injEq, V.ref.injEq, V.str.injEq, V.bl.injEq, exists_eq_left', exists_eq_left, exists_and_left, decide_eq_true_eq, List.cons.injEq, and_true, true_and, scal, Bool.not_eq_true', decide_eq_false_iff_not, Nat.zero_add, Nat.reduceAdd, Nat.reduceSub, reduceCtorEq, false_and, exists_false, false_or, or_false, CPow, CPowW, CMul, CDiv, Int.reduceToNat, ↓reduceIte, wipe, sw, List.nil_append, List.singleton_append])
local macro_rules | `(tactic| walk_at "st") => `(tactic| (refine seq_op fun N hN => ?_; walk_at "rs"))
local macro_rules | `(tactic| walk_at "sd") => `(tactic| first | assumption | decide | omega)
local macro_rules | `(tactic| walk_at "rd") => `(tactic| repeat (first
  | refine ⟨_, SqL.of (by assumption), ?_⟩ | refine ⟨_, SqL.of upd_same, ?_⟩ | refine ⟨_, .inl (SqL.of (by assumption)), ?_⟩ | refine ⟨_, (by assumption : _ = some (HO.lst _)), ?_⟩ | refine ⟨_, upd_same, ?_⟩
  | refine ⟨_, rfl, ?_⟩ | refine And.intro (by walk_at "sd") ?_))

theorem Ens.kp {K : PySem.W.Frag} {N : Nat} {H H' : Hp} {b c : Addr} (B : Bag N H b c) (k : Kp b H H') : ∀ {xs : List V} {es : List (Nat × Fr)}, Ens K H xs es → Ens K H' xs es
  | _, _, .nil => .nil
  | _, _, .cons h h2 q => .cons (seqT_kp B k h) (seqT_kp B k h2) (q.kp B k)
theorem Frs.kp {K : PySem.W.Frag} {N : Nat} {H H' : Hp} {b c : Addr} (B : Bag N H b c) (k : Kp b H H') : ∀ {xs : List V} {fs : List Fr}, Frs K H xs fs → Frs K H' xs fs
  | _, _, .nil => .nil
  | _, _, .cons h q => .cons (seqT_kp B k h) (q.kp B k)
theorem Kp.upd2 {b p : Addr} {H H' : Hp} {o : HO} (k : Kp b H H') (h : H p = none) : Kp b H (L2.upd H' p o) := fun a u e => by
  obtain ⟨n1, e1⟩ := hb_some e
  have n : a ≠ p := fun z => by rw [z, h] at e1; cases e1
  rw [hb_ne n1, upd_ne n]
  have := k a u e
  rw [hb_ne n1] at this
  exact this
theorem Kp.get {b p : Addr} {H H' : Hp} {o : HO} (k : Kp b H H') (n : p ≠ b) (h : H p = some o) : H' p = some o := k.hd h n
end LK

set_option Elab.async false
set_option linter.all false
set_option maxRecDepth 100000
namespace LK
open PySem PySem.Spec PyProof.Rows L2
local macro_rules | `(tactic| walk_at "rs") => `(tactic| simp only [cxK, cxNK, tCallZ, tAsg, tOp, rI0, rS0, rB0, rI, rU, tUn, rEq, rNe, rIxL, rIxT, rIxS, rSetL, rSlLU, rSlS, rSlU, rCatL, rCatU, rRepL, rIn, tVar, tC, gName, gSub, tIfS, tTest, tB, tAnd, tOr, tNot, tNotV, tAndV, tOrV, tIf, tCall, tCons, tNil, tCB, tDrop, tRet, tRetN, tNext, tLstU, tTupU, tM0, tM1, tPar, tPar3, tAug, ipI, tBM, tBM0, rAppend, rPop, tBreak, tCont, tChain, tSl, tPart, tNoPart, L2.start, List.map, List.length_cons, List.length_nil, List.replicate, List.cons_append, List.nil_append, List.append_nil, List.getElem?_cons_zero, List.getElem?_cons_succ, List.set_cons_zero, List.set_cons_succ, Option.some.injEq, V.int.injEq, V.ref.injEq, V.str.injEq, V.bl.injEq, exists_eq_left', exists_eq_left, exists_and_left, decide_eq_true_eq, List.cons.injEq, and_true, true_and, scal, Bool.not_eq_true', decide_eq_false_iff_not, Nat.zero_add, Nat.reduceAdd, Nat.reduceSub, reduceCtorEq, false_and, exists_false, false_or, or_false, CPow, CPowW, CMul, CDiv, Int.reduceToNat, ↓reduceIte, wipe, sw, List.nil_append, List.singleton_append])
local macro_rules | `(tactic| walk_at "st") => `(tactic| (refine seq_op fun N hN => ?_; walk_at "rs"))
local macro_rules | `(tactic| walk_at "sd") => `(tactic| first | assumption | decide | omega)
local macro_rules | `(tactic| walk_at "rd") => `(tactic| repeat (first
  | refine ⟨_, SqL.of (by assumption), ?_⟩ | refine ⟨_, SqL.of upd_same, ?_⟩ | refine ⟨_, .inl (SqL.of (by assumption)), ?_⟩ | refine ⟨_, (by assumption : _ = some (HO.lst _)), ?_⟩ | refine ⟨_, upd_same, ?_⟩
  | refine ⟨_, rfl, ?_⟩ | refine And.intro (by walk_at "sd") ?_))

/-- scores or givings: two columns and a factor -/
abbrev Sc := (Nat × Nat) × Fr
inductive Tris (K : PySem.W.Frag) (H : Hp) : List V → List Sc → Prop
  | nil : Tris K H [] []
  | cons {a u : Addr} {i j : Nat} {f : Fr} {xs : List V} {es : List Sc} : SqT K H a [.int (i : Int), .int (j : Int), .ref u] → Pr K H u f.1 f.2 → Tris K H xs es → Tris K H (.ref a :: xs) (((i, j), f) :: es)
section
variable {K : PySem.W.Frag} {H H' : Hp}
theorem Tris.same (s : Same H H') : ∀ {xs : List V} {es : List Sc}, Tris K H xs es → Tris K H' xs es
  | _, _, .nil => .nil
  | _, _, .cons h h2 q => .cons (Same.seqT s h) (Same.seqT s h2) (q.same s)
theorem Tris.len : ∀ {xs : List V} {es : List Sc}, Tris K H xs es → xs.length = es.length
  | _, _, .nil => rfl
  | _, _, .cons _ _ q => congrArg Nat.succ q.len
theorem Tris.app : ∀ {xs ys : List V} {es gs : List Sc}, Tris K H xs es → Tris K H ys gs → Tris K H (xs ++ ys) (es ++ gs)
  | _, _, _, _, .nil, r => r
  | _, _, _, _, .cons h h2 q, r => .cons h h2 (q.app r)
theorem Tris.get : ∀ {xs : List V} {es : List Sc} {n : Nat}, Tris K H xs es → n < es.length → ∃ a u i j f, xs[n]? = some (.ref a) ∧ es[n]? = some ((i, j), f) ∧ SqT K H a [.int (i : Int), .int (j : Int), .ref u] ∧ Pr K H u f.1 f.2
  | _, _, _, .nil, h => absurd h (Nat.not_lt_zero _)
  | _, _, 0, .cons h h2 _, _ => ⟨_, _, _, _, _, rfl, rfl, h, h2⟩
  | _, _, n + 1, .cons _ _ q, h => by
    obtain ⟨a, u, i, j, f, h1, h2, h3⟩ := q.get (n := n) (Nat.lt_of_succ_lt_succ h)
    exact ⟨a, u, i, j, f, h1, h2, h3⟩
theorem Tris.take : ∀ {xs : List V} {es : List Sc} (n : Nat), Tris K H xs es → Tris K H (xs.take n) (es.take n)
  | _, _, 0, _ => .nil
  | _, _, _ + 1, .nil => .nil
  | _, _, n + 1, .cons h h2 q => .cons h h2 (q.take n)
theorem Tris.drop : ∀ {xs : List V} {es : List Sc} (n : Nat), Tris K H xs es → Tris K H (xs.drop n) (es.drop n)
  | _, _, 0, h => h
  | _, _, _ + 1, .nil => .nil
  | _, _, n + 1, .cons _ _ q => q.drop n
theorem Tris.rev : ∀ {xs : List V} {es : List Sc}, Tris K H xs es → Tris K H xs.reverse es.reverse
  | _, _, .nil => .nil
  | _, _, .cons h h2 q => by rw [List.reverse_cons, List.reverse_cons]; exact q.rev.app (.cons h h2 .nil)
theorem Tris.upd {p : Addr} {ys : List V} {o : HO} (hp : H p = some (.lst ys)) : ∀ {xs : List V} {es : List Sc}, Tris K H xs es → Tris K (L2.upd H p o) xs es
  | _, _, .nil => .nil
  | _, _, .cons h h2 q => .cons (seqT_upd hp h) (seqT_upd hp h2) (q.upd hp)
theorem Tris.kp {N : Nat} {b c : Addr} (B : Bag N H b c) (k : Kp b H H') : ∀ {xs : List V} {es : List Sc}, Tris K H xs es → Tris K H' xs es
  | _, _, .nil => .nil
  | _, _, .cons h h2 q => .cons (seqT_kp B k h) (seqT_kp B k h2) (q.kp B k)
end
structure Hd where
  sc : List Sc
  giv : List Sc
def HeadAt (K : PySem.W.Frag) (H : Hp) (v : V) (h : Hd) : Prop := ∃ (ua sa ga : Addr) (xs ys : List V), v = .ref ua ∧ SqT K H ua [.ref sa, .ref ga] ∧ SqT K H sa xs ∧ Tris K H xs h.sc ∧ SqT K H ga ys ∧ Tris K H ys h.giv
section
variable {K : PySem.W.Frag} {H H' : Hp} {v : V} {h : Hd}
theorem HeadAt.same (s : Same H H') : HeadAt K H v h → HeadAt K H' v h := fun ⟨ua, sa, ga, xs, ys, e, h1, h2, h3, h4, h5⟩ => ⟨ua, sa, ga, xs, ys, e, Same.seqT s h1, Same.seqT s h2, h3.same s, Same.seqT s h4, h5.same s⟩
theorem HeadAt.upd {p : Addr} {zs : List V} {o : HO} (hp : H p = some (.lst zs)) : HeadAt K H v h → HeadAt K (L2.upd H p o) v h := fun ⟨ua, sa, ga, xs, ys, e, h1, h2, h3, h4, h5⟩ => ⟨ua, sa, ga, xs, ys, e, seqT_upd hp h1, seqT_upd hp h2, h3.upd hp, seqT_upd hp h4, h5.upd hp⟩
theorem HeadAt.kp {N : Nat} {b c : Addr} (B : Bag N H b c) (k : Kp b H H') : HeadAt K H v h → HeadAt K H' v h := fun ⟨ua, sa, ga, xs, ys, e, h1, h2, h3, h4, h5⟩ => ⟨ua, sa, ga, xs, ys, e, seqT_kp B k h1, seqT_kp B k h2, h3.kp B k, seqT_kp B k h4, h5.kp B k⟩
end
inductive Heads (K : PySem.W.Frag) (H : Hp) : List V → List Hd → Prop
  | nil : Heads K H [] []
  | cons {v : V} {h : Hd} {xs : List V} {hs : List Hd} : HeadAt K H v h → Heads K H xs hs → Heads K H (v :: xs) (h :: hs)
section
variable {K : PySem.W.Frag} {H H' : Hp}
theorem Heads.same (s : Same H H') : ∀ {xs : List V} {hs : List Hd}, Heads K H xs hs → Heads K H' xs hs
  | _, _, .nil => .nil
  | _, _, .cons h q => .cons (h.same s) (q.same s)
theorem Heads.kp {N : Nat} {b c : Addr} (B : Bag N H b c) (k : Kp b H H') : ∀ {xs : List V} {hs : List Hd}, Heads K H xs hs → Heads K H' xs hs
  | _, _, .nil => .nil
  | _, _, .cons h q => .cons (h.kp B k) (q.kp B k)
theorem Heads.upd {p : Addr} {zs : List V} {o : HO} (hp : H p = some (.lst zs)) : ∀ {xs : List V} {hs : List Hd}, Heads K H xs hs → Heads K (L2.upd H p o) xs hs
  | _, _, .nil => .nil
  | _, _, .cons h q => .cons (h.upd hp) (q.upd hp)
theorem Heads.len : ∀ {xs : List V} {hs : List Hd}, Heads K H xs hs → xs.length = hs.length
  | _, _, .nil => rfl
  | _, _, .cons _ q => congrArg Nat.succ q.len
theorem Heads.app : ∀ {xs ys : List V} {hs gs : List Hd}, Heads K H xs hs → Heads K H ys gs → Heads K H (xs ++ ys) (hs ++ gs)
  | _, _, _, _, .nil, r => r
  | _, _, _, _, .cons h q, r => .cons h (q.app r)
theorem Heads.rev : ∀ {xs : List V} {hs : List Hd}, Heads K H xs hs → Heads K H xs.reverse hs.reverse
  | _, _, .nil => .nil
  | _, _, .cons h q => by rw [List.reverse_cons, List.reverse_cons]; exact q.rev.app (.cons h .nil)
theorem Heads.get : ∀ {xs : List V} {hs : List Hd} {n : Nat} {x : V}, Heads K H xs hs → xs[n]? = some x → ∃ h, hs[n]? = some h ∧ HeadAt K H x h
  | _, _, _, _, .nil, h => by cases h
  | _, _, 0, _, .cons h _, e => by cases e; exact ⟨_, rfl, h⟩
  | _, _, n + 1, _, .cons _ q, h => q.get (n := n) h
end
/-! ### scores in whole numbers -/
def scI (M : Int) (es : List Sc) (Xa Xs : List Int) : Int := (es.map fun e => Xs.getD e.1.2 0 * (Xa.getD e.1.1 0 * num M e.2)).sum
/-- rows whose scores are taken -/
def LimS (L : Int) (Xs : List Int) : Prop := 0 < L ∧ L.natAbs < 2 ^ 400 ∧ ∀ X ∈ Xs, X.natAbs < 2 ^ 455
structure ScFit (n : Nat) (M : Int) (es : List Sc) : Prop where
  len : es.length ≤ 100
  M0 : 0 < M
  M1 : M.natAbs < 2 ^ 64
  all : ∀ e ∈ es, e.1.1 < n ∧ e.1.2 < n ∧ low e.2 ∧ e.2.2 ∣ M ∧ (num M e.2).natAbs < 2 ^ 64 ∧ e.2.1.natAbs < 2 ^ 64
theorem num_of_va {M X : Int} {f : Fr} (h : Va M X f) : num M f = X := by
  obtain ⟨k, hk⟩ := h.dvd
  have e := h.2.2
  have h1 := h.1
  unfold num
  rw [hk, Int.mul_ediv_cancel_left _ (by omega)]
  rw [hk, ← Int.mul_assoc, Int.mul_comm f.1, Int.mul_assoc, Int.mul_comm f.2] at e
  exact Int.eq_of_mul_eq_mul_right (by omega) e
/-- what is asked of the rows that are looked at -/
inductive AskV (L M : Int) (Xa : List Int) : List Sc → List (Nat × Fr) → Prop
  | nil : AskV L M Xa [] []
  | cons {i j : Nat} {f g : Fr} {es : List Sc} {gs : List (Nat × Fr)} : Va (L * M) (Xa.getD i 0 * num M f) g → AskV L M Xa es gs → AskV L M Xa (((i, j), f) :: es) ((j, g) :: gs)
theorem AskV.app {L M : Int} {Xa : List Int} : ∀ {es fs : List Sc} {gs hs : List (Nat × Fr)}, AskV L M Xa es gs → AskV L M Xa fs hs → AskV L M Xa (es ++ fs) (gs ++ hs)
  | _, _, _, _, .nil, r => r
  | _, _, _, _, .cons h q, r => .cons h (q.app r)
theorem AskV.len {L M : Int} {Xa : List Int} : ∀ {es : List Sc} {gs : List (Nat × Fr)}, AskV L M Xa es gs → gs.length = es.length
  | _, _, .nil => rfl
  | _, _, .cons _ q => congrArg Nat.succ q.len
theorem AskV.sum {L M : Int} {Xa Xs : List Int} : ∀ {es : List Sc} {gs : List (Nat × Fr)}, AskV L M Xa es gs → sumE Xs (L * M) gs = scI M es Xa Xs
  | _, _, .nil => rfl
  | _, _, .cons (i := i) (j := j) (f := f) (g := g) (es := es) (gs := gs) h q => by
    show Xs.getD j 0 * num (L * M) g + sumE Xs (L * M) gs = Xs.getD j 0 * (Xa.getD i 0 * num M f) + scI M es Xa Xs
    rw [q.sum, num_of_va h]
theorem AskV.mem {L M : Int} {Xa : List Int} : ∀ {es : List Sc} {gs : List (Nat × Fr)} {p : Nat × Fr}, AskV L M Xa es gs → p ∈ gs → ∃ e ∈ es, e.1.2 = p.1 ∧ Va (L * M) (Xa.getD e.1.1 0 * num M e.2) p.2
  | _, _, _, .nil, h => by cases h
  | _, _, _, .cons (i := i) (j := j) (f := f) h q, hp => by
    rcases List.mem_cons.mp hp with rfl | hp
    · exact ⟨((i, j), f), List.mem_cons_self, rfl, h⟩
    · obtain ⟨e, he, r⟩ := q.mem hp
      exact ⟨e, List.mem_cons_of_mem _ he, r⟩
theorem getD_lim {Xs : List Int} {B : Nat} {c : Nat} (hB : 0 < B) (h : ∀ X ∈ Xs, X.natAbs < B) : (Xs.getD c 0).natAbs < B := by
  rw [List.getD_eq_getElem?_getD]
  cases e : Xs[c]? with
  | none => exact hB
  | some X => exact h X (List.mem_of_getElem? e)
theorem AskV.fits {n : Nat} {L M : Int} {Xa : List Int} {es : List Sc} {gs : List (Nat × Fr)} (a : AskV L M Xa es gs) (f : ScFit n M es) (l : LimS L Xa) : Fits n (L * M) gs := by
  refine ⟨by rw [a.len]; exact f.len, fun p hp => ?_⟩
  obtain ⟨e, he, e1, va⟩ := a.mem hp
  obtain ⟨f1, f2, f3, f4, f5, f6⟩ := f.all e he
  refine ⟨by rw [← e1]; exact f2, va.1, va.2.1, va.dvd, ?_⟩
  rw [num_of_va va]
  exact pow_le (wide_lt (getD_lim (Nat.two_pow_pos 455) l.2.2) f5) (by decide)
/-- a comprehension over a list or a tuple, its items told by R -/
theorem lc_lt2 {K : PySem.W.Frag} {a : Addr} {xs : List V} {g : TG} {te tl : TE} {vs : List Nat} {σ : L2.St} {H1 : Hp} {Q : VK} (hv : ∀ Q : VK, Q (.ref a) H1 → tl σ H1 Q) (h : SqL K H1 a xs ∨ SqT K H1 a xs) (R : Nat → Hp → List V → Prop) (hn : xs.length ≤ 1000000)
    (mono : ∀ i H H' ys, Same H H' → R i H ys → R i H' ys) (up : ∀ D i H ys zs o, H D = some (.lst zs) → R i H ys → R i (L2.upd H D o) ys) (r0 : ∀ H, R 0 H [])
    (hs : ∀ i x H, i < xs.length → Same H1 H → xs[i]? = some x → g x (wipe σ vs) H fun σ2 H2 => Same H H2 ∧ wipe σ2 vs = wipe σ vs ∧ ∀ Q2 : VK, (∀ v H3, Same H2 H3 → (∀ ys, R i H3 ys → R (i + 1) H3 (ys ++ [v])) → Q2 v H3) → te σ2 H2 Q2)
    (gm : ∀ x σ0 H0 Q0 Q1, (∀ σ2 H2, Q0 σ2 H2 → Q1 σ2 H2) → g x σ0 H0 Q0 → g x σ0 H0 Q1)
    (hq : ∀ D H' ys, Same H1 H' → H1 D = none → H' D = some (.lst ys) → ys.length = xs.length → R xs.length H' ys → Q (.ref D) H') : tLc (iLT K tl) g tYes te vs σ H1 Q := by
  have core : ∀ {J : It} {G : Hp → Prop} (w : Walk J xs.length G (YAt xs)) (hG : ∀ H, Same H1 H → G H) (D : Addr) (hD : H1 D = none), _ := fun w hG D hD => lc_accD w (g := g) (te := te) (vs := vs) (σ := σ) (D := D) (Qd := fun H => Q (.ref D) H) R hD hn mono (up D) (r0 _) hG (fun i x H H' hi s n ⟨e, hx⟩ => by
    subst e
    exact hs i x _ hi s hx) gm fun H' ys s e l p => hq D H' ys s hD e l p
  rcases h with h | h
  · exact .inl (hv _ ⟨a, rfl, ⟨xs, h⟩, fun D hD => core walk_list (fun H s => s.seq h) D hD⟩)
  · exact .inr (hv _ ⟨a, rfl, ⟨xs, h⟩, fun D hD => core walk_tup (fun H s => Same.seqT s h) D hD⟩)
/-- a comprehension over a list or a tuple, its items told by R -/
theorem lc_tup2 {K : PySem.W.Frag} {a : Addr} {xs : List V} {g : TG} {te tl : TE} {vs : List Nat} {σ : L2.St} {H1 : Hp} {Q : VK} (hv : ∀ Q : VK, Q (.ref a) H1 → tl σ H1 Q) (h : SqT K H1 a xs) (R : Nat → Hp → List V → Prop) (hn : xs.length ≤ 1000000)
    (mono : ∀ i H H' ys, Same H H' → R i H ys → R i H' ys) (up : ∀ D i H ys zs o, H D = some (.lst zs) → R i H ys → R i (L2.upd H D o) ys) (r0 : ∀ H, R 0 H [])
    (hs : ∀ i x H, i < xs.length → Same H1 H → xs[i]? = some x → g x (wipe σ vs) H fun σ2 H2 => Same H H2 ∧ wipe σ2 vs = wipe σ vs ∧ ∀ Q2 : VK, (∀ v H3, Same H2 H3 → (∀ ys, R i H3 ys → R (i + 1) H3 (ys ++ [v])) → Q2 v H3) → te σ2 H2 Q2)
    (gm : ∀ x σ0 H0 Q0 Q1, (∀ σ2 H2, Q0 σ2 H2 → Q1 σ2 H2) → g x σ0 H0 Q0 → g x σ0 H0 Q1)
    (hq : ∀ D H' ys, Same H1 H' → H1 D = none → H' D = some (.lst ys) → ys.length = xs.length → R xs.length H' ys → Q (.ref D) H') : tLc (iTup K tl) g tYes te vs σ H1 Q := by
  have core : ∀ {J : It} {G : Hp → Prop} (w : Walk J xs.length G (YAt xs)) (hG : ∀ H, Same H1 H → G H) (D : Addr) (hD : H1 D = none), _ := fun w hG D hD => lc_accD w (g := g) (te := te) (vs := vs) (σ := σ) (D := D) (Qd := fun H => Q (.ref D) H) R hD hn mono (up D) (r0 _) hG (fun i x H H' hi s n ⟨e, hx⟩ => by
    subst e
    exact hs i x _ hi s hx) gm fun H' ys s e l p => hq D H' ys s hD e l p
  exact hv _ ⟨a, rfl, ⟨xs, h⟩, fun D hD => core walk_tup (fun H s => Same.seqT s h) D hD⟩
/-- a comprehension over a list or a tuple, its items told by R -/
theorem lc_list2 {K : PySem.W.Frag} {a : Addr} {xs : List V} {g : TG} {te tl : TE} {vs : List Nat} {σ : L2.St} {H1 : Hp} {Q : VK} (hv : ∀ Q : VK, Q (.ref a) H1 → tl σ H1 Q) (h : SqL K H1 a xs) (R : Nat → Hp → List V → Prop) (hn : xs.length ≤ 1000000)
    (mono : ∀ i H H' ys, Same H H' → R i H ys → R i H' ys) (up : ∀ D i H ys zs o, H D = some (.lst zs) → R i H ys → R i (L2.upd H D o) ys) (r0 : ∀ H, R 0 H [])
    (hs : ∀ i x H, i < xs.length → Same H1 H → xs[i]? = some x → g x (wipe σ vs) H fun σ2 H2 => Same H H2 ∧ wipe σ2 vs = wipe σ vs ∧ ∀ Q2 : VK, (∀ v H3, Same H2 H3 → (∀ ys, R i H3 ys → R (i + 1) H3 (ys ++ [v])) → Q2 v H3) → te σ2 H2 Q2)
    (gm : ∀ x σ0 H0 Q0 Q1, (∀ σ2 H2, Q0 σ2 H2 → Q1 σ2 H2) → g x σ0 H0 Q0 → g x σ0 H0 Q1)
    (hq : ∀ D H' ys, Same H1 H' → H1 D = none → H' D = some (.lst ys) → ys.length = xs.length → R xs.length H' ys → Q (.ref D) H') : tLc (iList K tl) g tYes te vs σ H1 Q := by
  have core : ∀ {J : It} {G : Hp → Prop} (w : Walk J xs.length G (YAt xs)) (hG : ∀ H, Same H1 H → G H) (D : Addr) (hD : H1 D = none), _ := fun w hG D hD => lc_accD w (g := g) (te := te) (vs := vs) (σ := σ) (D := D) (Qd := fun H => Q (.ref D) H) R hD hn mono (up D) (r0 _) hG (fun i x H H' hi s n ⟨e, hx⟩ => by
    subst e
    exact hs i x _ hi s hx) gm fun H' ys s e l p => hq D H' ys s hD e l p
  exact hv _ ⟨a, rfl, ⟨xs, h⟩, fun D hD => core walk_list (fun H s => s.seq h) D hD⟩
theorem gm_name (i : Nat) : ∀ (x : V) (σ0 : L2.St) (H0 : Hp) (Q0 Q1 : L2.St → Hp → Prop), (∀ σ2 H2, Q0 σ2 H2 → Q1 σ2 H2) → gName i x σ0 H0 Q0 → gName i x σ0 H0 Q1 := fun _ _ _ _ _ h q => h _ _ q
theorem gm2 {K : PySem.W.Frag} (i j : Nat) : ∀ (x : V) (σ0 : L2.St) (H0 : Hp) (Q0 Q1 : L2.St → Hp → Prop), (∀ σ2 H2, Q0 σ2 H2 → Q1 σ2 H2) → gTup K 2 (gCons (gName i) (gCons (gName j) gNil)) x σ0 H0 Q0 → gTup K 2 (gCons (gName i) (gCons (gName j) gNil)) x σ0 H0 Q1 :=
  fun x σ0 H0 Q0 Q1 h ⟨a, xs, e1, e2, e3, v, r, e4, v2, r2, e5, e6, q⟩ => ⟨a, xs, e1, e2, e3, v, r, e4, v2, r2, e5, e6, h _ _ q⟩
theorem gm3 {K : PySem.W.Frag} (i j l : Nat) : ∀ (x : V) (σ0 : L2.St) (H0 : Hp) (Q0 Q1 : L2.St → Hp → Prop), (∀ σ2 H2, Q0 σ2 H2 → Q1 σ2 H2) → gTup K 3 (gCons (gName i) (gCons (gName j) (gCons (gName l) gNil))) x σ0 H0 Q0 → gTup K 3 (gCons (gName i) (gCons (gName j) (gCons (gName l) gNil))) x σ0 H0 Q1 :=
  fun x σ0 H0 Q0 Q1 h ⟨a, xs, e1, e2, e3, v, r, e4, v2, r2, e5, v3, r3, e6, e7, q⟩ => ⟨a, xs, e1, e2, e3, v, r, e4, v2, r2, e5, v3, r3, e6, e7, h _ _ q⟩
/-- a triple is taken apart -/
theorem g3_at {K : PySem.W.Frag} {i j l : Nat} {p : Addr} {u v w : V} {σ : L2.St} {H : Hp} {Q : L2.St → Hp → Prop} (h : SqT K H p [u, v, w]) (q : Q (((σ.set i (some u)).set j (some v)).set l (some w)) H) : gTup K 3 (gCons (gName i) (gCons (gName j) (gCons (gName l) gNil))) (.ref p) σ H Q := ⟨p, _, rfl, h, rfl, u, _, rfl, v, _, rfl, w, _, rfl, rfl, q⟩
theorem g2_at {K : PySem.W.Frag} {i j : Nat} {p : Addr} {u v : V} {σ : L2.St} {H : Hp} {Q : L2.St → Hp → Prop} (h : SqT K H p [u, v]) (q : Q ((σ.set i (some u)).set j (some v)) H) : gTup K 2 (gCons (gName i) (gCons (gName j) gNil)) (.ref p) σ H Q := ⟨p, _, rfl, h, rfl, u, _, rfl, v, _, rfl, rfl, q⟩
end LK

set_option Elab.async false
set_option linter.all false
set_option maxRecDepth 100000
namespace LK
open PySem PySem.Spec PyProof.Rows L2
local macro_rules | `(tactic| walk_at "rs") => `(tactic| simp only [cxK, cxNK, tCallZ, tAsg, tOp, rI0, rS0, rB0, rI, rU, tUn, rEq, rNe, rIxL, rIxT, rIxS, rSetL, rSlLU, rSlS, rSlU, rCatL, rCatU, rRepL, rIn, tVar, tC, gName, gSub, tIfS, tTest, tB, tAnd, tOr, tNot, tNotV, tAndV, tOrV, tIf, tCall, tCons, tNil, tCB, tDrop, tRet, tRetN, tNext, tLstU, tTupU, tM0, tM1, tPar, tPar3, tAug, ipI, tBM, tBM0, rAppend, rPop, tBreak, tCont, tChain, tSl, tPart, tNoPart, L2.start, List.map, List.length_cons, List.length_nil, List.replicate, List.cons_append, List.nil_append, List.append_nil, List.getElem?_cons_zero, List.getElem?_cons_succ, List.set_cons_zero, List.set_cons_succ, Option.some.injEq, V.int.injEq, V.ref.injEq, V.str.injEq, V.bl.injEq, exists_eq_left', exists_eq_left, exists_and_left, decide_eq_true_eq, List.cons.injEq, and_true, true_and, scal, Bool.not_eq_true', decide_eq_false_iff_not, Nat.zero_add, Nat.reduceAdd, Nat.reduceSub, reduceCtorEq, false_and, exists_false, false_or, or_false, CPow, CPowW, CMul, CDiv, Int.reduceToNat, ↓reduceIte, wipe, sw, List.nil_append, List.singleton_append])
local macro_rules | `(tactic| walk_at "st") => `(tactic| (refine seq_op fun N hN => ?_; walk_at "rs"))
local macro_rules | `(tactic| walk_at "sd") => `(tactic| first | assumption | decide | omega)
local macro_rules | `(tactic| walk_at "rd") => `(tactic| repeat (first
  | refine ⟨_, SqL.of (by assumption), ?_⟩ | refine ⟨_, SqL.of upd_same, ?_⟩ | refine ⟨_, .inl (SqL.of (by assumption)), ?_⟩ | refine ⟨_, (by assumption : _ = some (HO.lst _)), ?_⟩ | refine ⟨_, upd_same, ?_⟩
  | refine ⟨_, rfl, ?_⟩ | refine And.intro (by walk_at "sd") ?_))

section
variable {P : Program} {w : World} {K : PySem.W.Frag} {mg : Str → Option Value} {base : Heap}
def scRow (M : Int) (es : List Sc) (Xss : List (List Int)) (at_ : Nat) : List Int := Xss.map (scI M es (Xss.getD at_ []))
def sp_scores (K : PySem.W.Frag) : Sp := fun vs H Q _ => ∃ (ra : Addr) (v : V) (rs : List V) (h : Hd) (n at_ : Nat) (L M : Int) (Xss : List (List Int)), vs = [.ref ra, v, .int (at_ : Int)] ∧ (SqL K H ra rs ∨ SqT K H ra rs) ∧ Rows K H L rs Xss ∧ (∀ Xs ∈ Xss, Xs.length = n ∧ LimS L Xs) ∧ Xss.length ≤ 1000 ∧ HeadAt K H v h ∧ ScFit n M h.sc ∧ at_ < Xss.length ∧
  ∀ (t : Addr) (ts : List V) (fs : List Fr) H', Same H H' → H t = none → H' t = some (.lst ts) → Frs K H' ts fs → RowV (L * (L * M)) (scRow M h.sc Xss at_) fs → Q (.ref t) H'
theorem LimS.limR {L : Int} {Xs : List Int} (h : LimS L Xs) : LimR L Xs := ⟨h.1, pow_le h.2.1 (by decide), fun X hX => pow_le (h.2.2 X hX) (by decide)⟩
theorem ok_scores (T : Txt w K mg) : FnOk P w K mg base CX0 6 T.a_scores T.d_scores ["rows", "head", "at"] (sp_scores K) := by
  refine T.F_scores.ok sc_scores (fun vs H Q E h => ?_) (fun cdv A outer s H vs Q E hr h => ?_)
  · obtain ⟨ra, v, rs, h, n, at_, L, M, Xss, rfl, _⟩ := h
    rfl
  · obtain ⟨ra, v, rs, h, n, at_, L, M, Xss, rfl, hra, hrs, lim, lX, ⟨ua, sa, ga, xs, ys, rfl, g1, g2, g3, g4, g5⟩, fit, hat, k⟩ := h
    have hr_times : Room 4 _ := hr.mono (by decide)
    have G_times := ok_times (P := P) (base := base) T
    have hr_sum_of : Room 5 _ := hr
    have G_sum_of := ok_sum_of (P := P) (base := base) T
    obtain ⟨la, Xa, ea, eX, hrow⟩ := hrs.get hat
    have hrl := hrs.len
    obtain ⟨lXa, limA⟩ := lim Xa (List.mem_of_getElem? eX)
    refine ⟨_, (pss_cons (ps_set (i := 3) sc_scores.nd rfl (Or.inr rfl) (pe_ix ix_lt (pv 0) (pv 2) (fun _ _ => rfl)))
      (pss_cons (ps_set (i := 4) sc_scores.nd rfl (Or.inr rfl) (pe_lc (own := [("here", 5), ("there", 6), ("factor", 7)]) (g := gTup K 3 (gCons (gName 5) (gCons (gName 6) (gCons (gName 7) (gNil))))) (tt := tYes) rfl sc_scores.nd (pi_tup (pe_ix ix_tup (pv 1) pe_int (fun _ _ => rfl))) (blkOk_by (own := [("here", 5), ("there", 6), ("factor", 7)]) (N := N_scores) (sc := defScope s_scores) (by decide +kernel)) (fun _ _ _ _ _ => by exact (pg_tup rfl (pgs_cons (pg_name (i := 5) sc_scores.nd rfl (Or.inl rfl)) (pgs_cons (pg_name (i := 6) sc_scores.nd rfl (Or.inl rfl)) (pgs_cons (pg_name (i := 7) sc_scores.nd rfl (Or.inl rfl)) pgs_nil))))) (fun _ _ _ _ _ => pts_nil) (fun _ _ _ _ _ => (pe_tupU (pa_cons (pv 6) (pa_cons (pe_call G_times hr_times (by rfl) T.m_times T.F_times.kp T.B_times .nil pass0 (pa_cons (pe_ix (ix_tupK (K := K) rfl) (pv 3) (pv 5) (fun _ _ => rfl)) (pa_cons (pv 7) pa_nil))) pa_nil))))))
      (pss_one (ps_ret (pe_lc (own := [("row", 8)]) (g := gName 8) (tt := tYes) rfl sc_scores.nd (pi_lt (pv 0)) (blkOk_by (own := [("row", 8)]) (N := N_scores) (sc := defScope s_scores) (by decide +kernel)) (fun _ _ _ _ _ => pg_name (i := 8) sc_scores.nd rfl (Or.inl rfl)) (fun _ _ _ _ _ => pts_nil) (fun _ _ _ _ _ => (pe_call G_sum_of hr_sum_of (by rfl) T.m_sum_of T.F_sum_of.kp T.B_sum_of .nil pass0 (pa_cons (pv 8) (pa_cons (pv 4) pa_nil))))))))), ?_⟩
    refine seq_op fun N hN => ?_
    walk_at "rs"
    refine ⟨ra, _, at_, _, rfl, rfl, hra, at_ofN rfl ea, hN _ _ ?_⟩
    clear hN N
    refine seq_op fun N hN => ?_
    walk_at "rs"
    have lxs := g3.len
    refine lc_tup2 (K := K) (a := sa) (xs := xs) (fun Q q => ⟨_, rfl, ua, _, 0, .ref sa, rfl, rfl, g1, rfl, q⟩) g2 (fun i H ys => ∃ gs, Ens K H ys gs ∧ AskV L M Xa (h.sc.take i) gs) (by have := fit.len; omega) (fun i H H' ys s ⟨gs, h1, h2⟩ => ⟨gs, h1.same s, h2⟩) (fun D i H ys zs o hp ⟨gs, h1, h2⟩ => ⟨gs, h1.upd hp, h2⟩) (fun H => ⟨[], .nil, .nil⟩) (fun i x H2 hi s2 hx => ?_) (gm3 5 6 7) fun D H2 zs s2 D0 D1 lz ⟨gs, e1, e2⟩ => hN _ _ ?_
    · obtain ⟨p, u, c, d, f, ex, ee, hp, hf⟩ := g3.get (n := i) (by omega)
      obtain rfl : x = .ref p := by rw [ex] at hx; exact (Option.some.inj hx).symm
      obtain ⟨f1, f2, f3, f4, f5, f6⟩ := fit.all _ (List.mem_of_getElem? ee)
      dsimp only at f1 f2 f3 f4 f5 f6
      refine g3_at (Same.seqT s2 hp) ⟨Same.refl _, rfl, fun Q2 hq => ?_⟩
      obtain ⟨rxs, rfs, r1, r2, rv1, rv2⟩ := hrow.same s2
      obtain ⟨w, y, ew, ey, hy⟩ := r2.get (n := c) (by omega)
      have eXc : Xa[c]? = some (Xa.getD c 0) := by rw [List.getD_eq_getElem?_getD, List.getElem?_eq_getElem (by omega)]; rfl
      have va := rv2 c _ y eXc ey
      have vf := num_va f3.1 f3.2 f4
      obtain ⟨vm, m0⟩ := va.times vf
      have bX := limA.2.2 _ (List.mem_of_getElem? eXc)
      walk_at "rs"
      refine ⟨_, r1, _, at_ofN rfl ew, w, u, y.1, y.2, f.1, f.2, rfl, hy, Same.seqT s2 hf, pow_le (Nat.lt_of_le_of_lt (va.num limA.1) bX) (by decide), pow_le (Nat.lt_of_le_of_lt (va.den limA.1) limA.2.1) (by decide), pow_le f6 (by decide), pow_le (Nat.lt_of_le_of_lt (vf.den fit.M0) fit.M1) (by decide), m0, fun t H3 s3 _ h3 => ⟨by decide, fun q H4 s4 _ h4 => hq _ H4 (Same.trans s3 s4) fun ys ⟨gs, e1, e2⟩ => ⟨gs ++ [(d, (frP (y.1 * f.1) (y.2 * f.2), frQ (y.1 * f.1) (y.2 * f.2)))], e1.app (.cons (.inl (.inl h4)) (.inl (.inl (s4 _ _ h3))) .nil), ?_⟩⟩⟩
      obtain ⟨hk, e⟩ := List.getElem?_eq_some_iff.mp ee
      rw [← List.take_append_getElem hk, e]
      exact e2.app (.cons vm .nil)
    clear hN N
    rw [lxs, List.take_length] at e2
    have fits := e2.fits fit limA
    have LM0 : 0 < L * M := Int.mul_pos limA.1 fit.M0
    have LM1 : (L * M).natAbs < 2 ^ 520 := pow_le (wide_lt limA.2.1 fit.M1) (by decide)
    have eA : Xss.getD at_ [] = Xa := by rw [List.getD_eq_getElem?_getD, eX]; rfl
    walk_at "rs"
    refine lc_lt2 (K := K) (a := ra) (xs := rs) (fun Q q => ⟨_, rfl, q⟩) (hra.imp s2.seq (Same.seqT s2)) (fun i H ys => ∃ fs, Frs K H ys fs ∧ RowV (L * (L * M)) ((Xss.take i).map (scI M h.sc Xa)) fs) (by omega) (fun i H H' ys s ⟨fs, h1, h2⟩ => ⟨fs, h1.same s, h2⟩) (fun D i H ys zs o hp ⟨fs, h1, h2⟩ => ⟨fs, h1.upd hp, h2⟩) (fun H => ⟨[], .nil, rfl, fun i X f e => by cases i <;> cases e⟩) (fun i x H3 hi s3 hx => ?_) (gm_name 8) fun D2 H3 ts s3 D20 D21 lt ⟨fs, t1, t2⟩ => ?_
    · obtain ⟨r, Xs, er, eXs, hr2⟩ := hrs.get (n := i) (by omega)
      obtain rfl : x = .ref r := by rw [er] at hx; exact (Option.some.inj hx).symm
      obtain ⟨lXs, limX⟩ := lim Xs (List.mem_of_getElem? eXs)
      have s13 := Same.trans s2 s3
      refine ⟨Same.refl _, rfl, fun Q2 hq => ?_⟩
      walk_at "rs"
      refine ⟨r, D, zs, gs, L, L * M, Xs, rfl, hr2.same s13, limX.limR, s3.seq (SqL.of D1), e1.same s3, by rw [lXs]; exact fits, LM0, LM1, fun t f H4 s4 ht va => hq _ H4 s4 fun ys ⟨fs, h1, h2, h3⟩ => ⟨fs ++ [f], h1.app (Frs.one ht), ?_⟩⟩
      obtain ⟨hk, e⟩ := List.getElem?_eq_some_iff.mp eXs
      rw [← List.take_append_getElem hk, e, List.map_append]
      refine ⟨by rw [List.length_append, List.length_append, h2]; rfl, fun j X g ej eg => ?_⟩
      by_cases c : j < fs.length
      · rw [List.getElem?_append_left (by omega)] at ej
        rw [List.getElem?_append_left c] at eg
        exact h3 j X g ej eg
      · have jl : j = fs.length := by
          have := (List.getElem?_eq_some_iff.mp eg).1
          rw [List.length_append] at this
          simp only [List.length_cons, List.length_nil] at this
          omega
        subst jl
        rw [List.getElem?_append_right (by omega), h2, Nat.sub_self] at ej
        rw [List.getElem?_append_right (by omega), Nat.sub_self] at eg
        cases ej
        cases eg
        rw [← e2.sum]
        exact va
    · rw [hrl, List.take_length] at t2
      refine k D2 ts fs H3 (Same.trans s2 s3) ?_ D21 t1 ?_
      · cases e : H D2 with
        | none => rfl
        | some o => rw [s2 _ _ e] at D20; cases D20
      · unfold scRow
        rw [eA]
        exact t2
end
end LK

set_option Elab.async false
set_option linter.all false
set_option maxRecDepth 100000
namespace LK
open PySem PySem.Spec PyProof.Rows L2
local macro_rules | `(tactic| walk_at "rs") => `(tactic| simp only [cxK, cxNK, tCallZ, tAsg, tOp, rI0, rS0, rB0, rI, rU, tUn, rEq, rNe, rIxL, rIxT, rIxS, rSetL, rSlLU, rSlS, rSlU, rCatL, rCatU, rRepL, rIn, tVar, tC, gName, gSub, tIfS, tTest, tB, tAnd, tOr, tNot, tNotV, tAndV, tOrV, tIf, tCall, tCons, tNil, tCB, tDrop, tRet, tRetN, tNext, tLstU, tTupU, tM0, tM1, tPar, tPar3, tAug, ipI, tBM, tBM0, rAppend, rPop, tBreak, tCont, tChain, tSl, tPart, tNoPart, L2.start, List.map, List.length_cons, List.length_nil, List.replicate, List.cons_append, List.nil_append, List.append_nil, List.getElem?_cons_zero, List.getElem?_cons_succ, List.set_cons_zero, List.set_cons_succ, Option.some.injEq, V.int.injEq, V.ref.injEq, V.str.injEq, V.bl.injEq, exists_eq_left', exists_eq_left, exists_and_left, decide_eq_true_eq, List.cons.injEq, and_true, true_and, scal, Bool.not_eq_true', decide_eq_false_iff_not, Nat.zero_add, Nat.reduceAdd, Nat.reduceSub, reduceCtorEq, false_and, exists_false, false_or, or_false, CPow, CPowW, CMul, CDiv, Int.reduceToNat, ↓reduceIte, wipe, sw, List.nil_append, List.singleton_append])
local macro_rules | `(tactic| walk_at "st") => `(tactic| (refine seq_op fun N hN => ?_; walk_at "rs"))
local macro_rules | `(tactic| walk_at "sd") => `(tactic| first | assumption | decide | omega)
local macro_rules | `(tactic| walk_at "rd") => `(tactic| repeat (first
  | refine ⟨_, SqL.of (by assumption), ?_⟩ | refine ⟨_, SqL.of upd_same, ?_⟩ | refine ⟨_, .inl (SqL.of (by assumption)), ?_⟩ | refine ⟨_, (by assumption : _ = some (HO.lst _)), ?_⟩ | refine ⟨_, upd_same, ?_⟩
  | refine ⟨_, rfl, ?_⟩ | refine And.intro (by walk_at "sd") ?_))

/-- a comprehension with a test, tests and items known -/
theorem lc_filt {J : It} {n : Nat} {G : Hp → Prop} {Y : Nat → Hp → V → Hp → Prop} (w : Walk J n G Y) {g : TG} {tt : TT} {te : TE} {vs : List Nat} {σ : L2.St} {H1 : Hp} {D : Addr} {Qd : Hp → Prop} (p : Nat → Bool) (y : Nat → V) (hD : H1 D = none) (hn : n ≤ 1000000)
    (hG : ∀ H, Same H1 H → G H)
    (hs : ∀ i x H H', i < n → Same H1 H → Y i H x H' → g x (wipe σ vs) H' fun σ2 H2 => Same H H2 ∧ wipe σ2 vs = wipe σ vs ∧ (∀ Qt : Bool → Hp → Prop, (∀ H3, Same H2 H3 → Qt (p i) H3) → tt σ2 H2 Qt) ∧ ∀ H3, Same H2 H3 → ∀ Q2 : VK, (∀ H4, Same H3 H4 → Q2 (y i) H4) → te σ2 H3 Q2)
    (gm : ∀ x σ0 H0 Q0 Q1, (∀ σ2 H2, Q0 σ2 H2 → Q1 σ2 H2) → g x σ0 H0 Q0 → g x σ0 H0 Q1)
    (hq : ∀ H', Same H1 H' → H' D = some (.lst (((List.range n).filter p).map y)) → Qd H') :
    ∃ W : Nat → Nat → Hp → Prop, (∃ m, W 0 m (L2.upd H1 D (.lst []))) ∧ ∀ i m H, W i m H →
      (J.stop i H ∧ Qd H) ∨ (J.go i H ∧ ∃ Nx : Hp → Prop, (∀ H', Nx H' → ∃ m', m' < m ∧ W (i + 1) m' H') ∧ ∀ x H', J.yld i H x H' → g x (wipe σ vs) H' fun σ2 H2 => wipe σ2 vs = wipe σ vs ∧ tt σ2 H2 fun b H3 =>
        if b = true then te σ2 H3 fun y H4 => ∃ acc, H4 D = some (.lst acc) ∧ acc.length < sizeLine ∧ Nx (L2.upd H4 D (.lst (acc ++ [y]))) else Nx H3) := by
  have up : ∀ {H : Hp} {o : HO}, Same H1 H → Same H1 (L2.upd H D o) := fun s a u e => by
    rw [upd_ne (ne_of_none e hD)]; exact s _ _ e
  refine lc_it w (fun i H => Same H1 H ∧ H D = some (.lst (((List.range i).filter p).map y))) ⟨up (Same.refl _), upd_same⟩ (fun i H _ h => hG H h.1) (fun i x H H' hi ⟨s1, h1⟩ hY => ?_) (fun H h => hq H h.1 h.2)
  refine gm _ _ _ _ _ (fun σ2 H2 ⟨s2, e2, kt, ke⟩ => ⟨e2, kt _ fun H3 s3 => ?_⟩) (hs i x H H' hi s1 hY)
  have hD3 := s3 _ _ (s2 _ _ h1)
  have s13 := Same.trans s1 (Same.trans s2 s3)
  by_cases c : p i = true
  · rw [if_pos c]
    refine ke H3 s3 _ fun H4 s4 => ⟨_, s4 _ _ hD3, ?_, up (Same.trans s13 s4), ?_⟩
    · rw [List.length_map]
      exact Nat.lt_of_lt_of_le (Nat.lt_of_le_of_lt (List.length_filter_le _ _) (by rw [List.length_range]; exact Nat.lt_of_lt_of_le hi hn)) (by decide)
    · rw [upd_same, List.range_succ, List.filter_append, List.map_append]
      simp [c]
  · rw [if_neg c]
    refine ⟨s13, ?_⟩
    rw [hD3, List.range_succ, List.filter_append]
    simp [c]
/-! ### the greatest of some whole numbers -/
def bestI (S : List Int) : Int := S.foldl max (S.headD 0)
theorem foldl_max {m : Int} : ∀ {S : List Int}, m ≤ S.foldl max m ∧ (∀ s ∈ S, s ≤ S.foldl max m) ∧ (S.foldl max m = m ∨ S.foldl max m ∈ S)
  | [] => ⟨Int.le_refl _, fun s h => absurd h (by simp), .inl rfl⟩
  | a :: S => by
    obtain ⟨h1, h2, h3⟩ := foldl_max (m := max m a) (S := S)
    refine ⟨Int.le_trans (Int.le_max_left m a) h1, fun s hs => ?_, ?_⟩
    · rcases List.mem_cons.mp hs with rfl | hs
      · exact Int.le_trans (Int.le_max_right m s) h1
      · exact h2 s hs
    · show S.foldl max (max m a) = m ∨ S.foldl max (max m a) ∈ a :: S
      rcases h3 with h3 | h3
      · rw [h3]
        by_cases c : m ≤ a
        · rw [Int.max_eq_right c]
          exact .inr List.mem_cons_self
        · rw [Int.max_eq_left (by omega)]
          exact .inl rfl
      · exact .inr (List.mem_cons_of_mem _ h3)
theorem best_spec {S : List Int} (h : S ≠ []) : bestI S ∈ S ∧ ∀ s ∈ S, s ≤ bestI S := by
  cases S with
  | nil => exact absurd rfl h
  | cons a S =>
    obtain ⟨h1, h2, h3⟩ := foldl_max (m := a) (S := a :: S)
    refine ⟨?_, h2⟩
    rcases h3 with h3 | h3
    · show (a :: S).foldl max a ∈ a :: S
      rw [h3]
      exact List.mem_cons_self
    · exact h3
theorem best_uniq {S : List Int} {m : Int} (h1 : m ∈ S) (h2 : ∀ s ∈ S, s ≤ m) : m = bestI S := by
  obtain ⟨a, b⟩ := best_spec (S := S) (fun e => by rw [e] at h1; cases h1)
  exact Int.le_antisymm (b m h1) (h2 _ a)
def lookI (S : List Int) : List Nat := (List.range S.length).filter fun k => decide (S.getD k 0 = bestI S)
theorem Va.lt {L X Y : Int} {f g : Fr} (hL : 0 < L) (h : Va L X f) (h' : Va L Y g) : f.1 * g.2 < g.1 * f.2 ↔ X < Y := by
  have e1 : f.1 * g.2 * L = X * (f.2 * g.2) := by
    rw [Int.mul_right_comm, h.2.2, Int.mul_assoc]
  have e2 : g.1 * f.2 * L = Y * (f.2 * g.2) := by
    rw [Int.mul_right_comm, h'.2.2, Int.mul_assoc, Int.mul_comm g.2]
  have p : 0 < f.2 * g.2 := Int.mul_pos (show 0 < f.2 from h.1) (show 0 < g.2 from h'.1)
  constructor
  · intro c
    have := Int.mul_lt_mul_of_pos_right c hL
    rw [e1, e2] at this
    exact Int.lt_of_mul_lt_mul_right this (Int.le_of_lt p)
  · intro c
    have := Int.mul_lt_mul_of_pos_right c p
    rw [← e1, ← e2] at this
    exact Int.lt_of_mul_lt_mul_right this (Int.le_of_lt hL)
theorem Va.eq {L X Y : Int} {f g : Fr} (hL : 0 < L) (h : Va L X f) (h' : Va L Y g) : f = g ↔ X = Y := by
  constructor
  · rintro rfl
    have h1 : 1 ≤ f.2 := h.1
    exact Int.eq_of_mul_eq_mul_right (by omega) (h.2.2.symm.trans h'.2.2)
  · rintro rfl
    exact h.uniq hL h'
theorem sc_lim {n : Nat} {L M : Int} {Xa Xs : List Int} : ∀ {es : List Sc}, (∀ e ∈ es, (num M e.2).natAbs < 2 ^ 64) → LimS L Xa → LimS L Xs → (scI M es Xa Xs).natAbs < 2 ^ (1000 + es.length)
  | [], _, _, _ => Nat.two_pow_pos _
  | e :: es, h, a, b => by
    have ih := sc_lim (n := n) (es := es) (fun e he => h e (List.mem_cons_of_mem _ he)) a b
    have q : (Xs.getD e.1.2 0 * (Xa.getD e.1.1 0 * num M e.2)).natAbs < 2 ^ (455 + (455 + 64)) := wide_lt (getD_lim (Nat.two_pow_pos 455) b.2.2) (wide_lt (getD_lim (Nat.two_pow_pos 455) a.2.2) (h e List.mem_cons_self))
    show (Xs.getD e.1.2 0 * (Xa.getD e.1.1 0 * num M e.2) + scI M es Xa Xs).natAbs < _
    rw [List.length_cons, ← Nat.add_assoc]
    exact two_add (pow_le q (by omega)) ih
section
variable {P : Program} {w : World} {K : PySem.W.Frag} {mg : Str → Option Value} {base : Heap}
def sp_looked (K : PySem.W.Frag) : Sp := fun vs H Q _ => ∃ (ra : Addr) (v : V) (rs : List V) (h : Hd) (n at_ : Nat) (L M : Int) (Xss : List (List Int)), vs = [.ref ra, v, .int (at_ : Int)] ∧ (SqL K H ra rs ∨ SqT K H ra rs) ∧ Rows K H L rs Xss ∧ (∀ Xs ∈ Xss, Xs.length = n ∧ LimS L Xs) ∧ Xss.length ≤ 1000 ∧ HeadAt K H v h ∧ ScFit n M h.sc ∧ at_ < Xss.length ∧
  ∀ (t : Addr) H', Same H H' → H t = none → H' t = some (.lst ((lookI (scRow M h.sc Xss at_)).map fun (k : Nat) => V.int (k : Int))) → Q (.ref t) H'
theorem ok_looked_at (T : Txt w K mg) : FnOk P w K mg base CX0 7 T.a_looked_at T.d_looked_at ["rows", "head", "at"] (sp_looked K) := by
  refine T.F_looked_at.ok sc_looked_at (fun vs H Q E h => ?_) (fun cdv A outer s H vs Q E hr h => ?_)
  · obtain ⟨ra, v, rs, h, n, at_, L, M, Xss, rfl, _⟩ := h
    rfl
  · obtain ⟨ra, v, rs, h, n, at_, L, M, Xss, rfl, hra, hrs, lim, lX, hh, fit, hat, k⟩ := h
    have hr_scores : Room 6 _ := hr
    have G_scores := ok_scores (P := P) (base := base) T
    have hr_below : Room 1 _ := hr.mono (by decide)
    have G_below := ok_below (P := P) (base := base) T
    obtain ⟨la, Xa, ea, eX, hrow⟩ := hrs.get hat
    obtain ⟨lXa, limA⟩ := lim Xa (List.mem_of_getElem? eX)
    refine ⟨_, (pss_cons (ps_set (i := 3) sc_looked_at.nd rfl (Or.inl rfl) (pe_call G_scores hr_scores (by rfl) T.m_scores T.F_scores.kp T.B_scores .nil pass0 (pa_cons (pv 0) (pa_cons (pv 1) (pa_cons (pv 2) pa_nil)))))
      (pss_cons (ps_set (i := 4) sc_looked_at.nd rfl (Or.inr rfl) (pe_ix ix_list (pv 3) pe_int (fun _ _ => rfl)))
      (pss_cons (ps_for PassesOwn.never rfl (pi_list (pv 3)) (pg_name (i := 5) sc_looked_at.nd rfl (Or.inl rfl)) (pss_one (ps_if (pt_val (pe_call G_below hr_below (by rfl) T.m_below T.F_below.kp T.B_below .nil pass0 (pa_cons (pv 4) (pa_cons (pv 5) pa_nil)))) (pss_one (ps_set (i := 4) sc_looked_at.nd rfl (Or.inr rfl) (pv 5))) pss_nil)))
      (pss_one (ps_ret (pe_lc (own := [("index", 6), ("score", 5)]) (g := gTup K 2 (gCons (gName 6) (gCons (gName 5) (gNil)))) (tt := _) rfl sc_looked_at.nd (pi_enum (by rfl) T.n_enumerate (pa_cons (pv 3) pa_nil)) (blkOk_by (own := [("index", 6), ("score", 5)]) (N := N_looked_at) (sc := defScope s_looked_at) (by decide +kernel)) (fun _ _ _ _ _ => by exact (pg_tup rfl (pgs_cons (pg_name (i := 6) sc_looked_at.nd rfl (Or.inl rfl)) (pgs_cons (pg_name (i := 5) sc_looked_at.nd rfl (Or.inl rfl)) pgs_nil)))) (fun _ _ _ _ _ => pts_one (pt_cmpR (op_eqDK (K := K) rfl hr.units) (pv 5) (pv 4) (nomark _))) (fun _ _ _ _ _ => (pv 6)))))))), ?_⟩
    refine seq_op fun N hN => ?_
    walk_at "rs"
    refine ⟨ra, v, rs, h, n, at_, L, M, Xss, rfl, hra, hrs, lim, lX, hh, fit, hat, fun t ts fs H1 s1 t0 t1 hfs rv => hN _ _ ?_⟩
    clear hN N
    have lS : (scRow M h.sc Xss at_).length = Xss.length := List.length_map ..
    have eA : Xss.getD at_ [] = Xa := by rw [List.getD_eq_getElem?_getD, eX]; rfl
    have LL0 : 0 < L * (L * M) := Int.mul_pos limA.1 (Int.mul_pos limA.1 fit.M0)
    have LL1 : (L * (L * M)).natAbs < 2 ^ 4000 := pow_le (wide_lt limA.2.1 (wide_lt limA.2.1 fit.M1)) (by decide)
    have bS : ∀ s ∈ scRow M h.sc Xss at_, s.natAbs < 2 ^ 4000 := fun s hs => by
      obtain ⟨Xs, hX, rfl⟩ := List.mem_map.mp hs
      rw [eA]
      have := fit.len
      exact pow_le (sc_lim (n := n) (fun e he => (fit.all e he).2.2.2.2.1) limA (lim Xs hX).2) (by omega)
    generalize scRow M h.sc Xss at_ = S at *
    generalize L * (L * M) = LL at *
    have lfs := hfs.len
    have bV : ∀ {s : Int} {f : Fr}, s ∈ S → Va LL s f → f.1.natAbs < 2 ^ 4000 ∧ f.2.natAbs < 2 ^ 4000 := fun hs va => ⟨Nat.lt_of_le_of_lt (va.num LL0) (bS _ hs), Nat.lt_of_le_of_lt (va.den LL0) LL1⟩
    obtain ⟨p0, f0, ep, ef, hp⟩ := hfs.get (n := 0) (by have := rv.1; omega)
    have eS0 : S[0]? = some (S.headD 0) := by
      cases S with
      | nil => rw [List.length_nil] at lS; omega
      | cons a S => rfl
    refine seq_op fun N hN => ?_
    walk_at "rs"
    refine ⟨_, SqL.of t1, _, at_ofN rfl ep, hN _ _ ?_⟩
    clear hN N
    refine cut_seq (fun σ H2 => ∃ (g : Addr) (f : Fr) (x5 : Option V), σ = [some (.ref ra), some v, some (.int (at_ : Int)), some (.ref t), some (.ref g), x5, none] ∧ H2 = H1 ∧ Pr K H2 g f.1 f.2 ∧ Va LL (bestI S) f) (fun N hN => ?_) ?_
    · refine ⟨_, rfl, t, rfl, ⟨ts, SqL.of t1⟩, for_list (K := K) (a := t) (xs := ts) (fun i σ H2 => ∃ (g : Addr) (f : Fr) (x5 : Option V), σ = [some (.ref ra), some v, some (.int (at_ : Int)), some (.ref t), some (.ref g), x5, none] ∧ H2 = H1 ∧ Pr K H2 g f.1 f.2 ∧ Va LL ((S.take i).foldl max (S.headD 0)) f ∧ (S.take i).foldl max (S.headD 0) ∈ S) ⟨p0, f0, none, rfl, rfl, hp, rv.2 0 _ f0 eS0 ef, List.mem_of_getElem? eS0⟩ (fun i σ H2 _ ⟨_, _, _, _, e, _⟩ => by rw [e]; exact SqL.of t1) ?_ ?_⟩
      · rintro i y σ H2 hi ⟨g, f, x5, rfl, rfl, hg, va, ms⟩
        have il : i < fs.length := by have := (List.getElem?_eq_some_iff.mp hi).1; omega
        obtain ⟨u, f2, eu, ef2, hu⟩ := hfs.get il
        obtain rfl : y = .ref u := by rw [eu] at hi; exact (Option.some.inj hi).symm
        have iS : i < S.length := by rw [rv.1]; exact il
        have eS : S[i]? = some S[i] := List.getElem?_eq_getElem iS
        have vu := rv.2 i _ f2 eS ef2
        have mu := List.mem_of_getElem? eS
        have en : (S.take (i + 1)).foldl max (S.headD 0) = max ((S.take i).foldl max (S.headD 0)) S[i] := by
          rw [← List.take_append_getElem iS, List.foldl_append]
          rfl
        obtain ⟨l1, l2⟩ := bV ms va
        obtain ⟨l3, l4⟩ := bV mu vu
        walk_at "rs"
        refine ⟨g, u, ⟨rfl, rfl⟩, f.1, f.2, hg, f2.1, f2.2, hu, l1, l2, l3, l4, ite2 (fun c => ⟨u, f2, _, ⟨rfl, rfl⟩, hu, ?_⟩) (fun c => ⟨g, f, _, ⟨rfl, rfl⟩, hg, ?_⟩)⟩
        · have c := (va.lt LL0 vu).mp c
          rw [en, Int.max_eq_right (Int.le_of_lt c)]
          exact ⟨vu, mu⟩
        · have c : ¬ _ < _ := fun z => c ((va.lt LL0 vu).mpr z)
          rw [en, Int.max_eq_left (by omega)]
          exact ⟨va, ms⟩
      · rintro σ H2 ⟨g, f, x5, rfl, rfl, hg, va, ms⟩
        rw [show ts.length = S.length by rw [lfs, rv.1], List.take_length] at va
        exact hN _ _ ⟨g, f, x5, rfl, rfl, hg, va⟩
    · rintro σ H2 ⟨g, f, x5, rfl, rfl, hg, va⟩
      walk_at "rs"
      have lts : ts.length = S.length := by rw [lfs, rv.1]
      refine ⟨_, rfl, t, ts, rfl, SqL.of t1, fun D hD => lc_filt walk_enum (fun k => decide (S.getD k 0 = bestI S)) (fun k => .int (k : Int)) hD (by omega) (fun H s => s.seq (SqL.of t1)) (fun i x H3 H4 hi s3 y => ?_) (gm2 6 5) fun H3 s3 h3 => ?_⟩
      · obtain ⟨T0, y1, y2, rfl, hT, rfl, h1, h2⟩ := y
        cases h1
        have il : i < fs.length := by omega
        obtain ⟨u, f2, eu, ef2, hu⟩ := hfs.get il
        have e2 : y2 = .ref u := by
          have h2 : ts[i]? = some y2 := h2
          rw [eu] at h2; exact (Option.some.inj h2).symm
        subst e2
        have iS : i < S.length := by omega
        have vu := rv.2 i _ f2 (List.getElem?_eq_getElem iS) ef2
        have sT : Same H3 (L2.upd H3 T0 (.tup [.int (i : Nat), .ref u])) := same_upd hT
        refine g2_at (.inl (.inl upd_same)) ⟨sT, rfl, fun Qt hq => ?_, fun H4 s4 Q2 hq => ⟨_, rfl, hq _ (Same.refl _)⟩⟩
        have s5 := Same.trans s3 sT
        refine ⟨_, rfl, _, rfl, .tuple [.int f2.1, .int f2.2], .tuple [.int f.1, .int f.2], dp_pair (Same.seqT s5 hu), dp_pair (Same.seqT s5 hg), rfl, rfl, _, rfl, ?_⟩
        rw [eqv_pair]
        have e : (decide (f2.1 = f.1) && decide (f2.2 = f.2)) = decide (S.getD i 0 = bestI S) := by
          have e1 : S.getD i 0 = S[i] := by rw [List.getD_eq_getElem?_getD, List.getElem?_eq_getElem iS]; rfl
          rw [e1]
          by_cases c : S[i] = bestI S
          · have := (vu.eq LL0 va).mpr c
            subst this
            rw [decide_eq_true rfl, decide_eq_true rfl, decide_eq_true c]; rfl
          · rw [decide_eq_false c]
            have n : ¬ f2 = f := fun z => c ((vu.eq LL0 va).mp z)
            by_cases c1 : f2.1 = f.1
            · rw [decide_eq_false (fun z => n (Prod.ext c1 z)), Bool.and_false]
            · rw [decide_eq_false c1, Bool.false_and]
        rw [e]
        exact hq _ (Same.refl _)
      · refine k D H3 (Same.trans s1 s3) ?_ ?_
        · cases e : H D with
          | none => rfl
          | some o => rw [s1 _ _ e] at hD; cases hD
        · rw [h3, lts]
          rfl
end
end LK

set_option Elab.async false
set_option linter.all false
set_option maxRecDepth 100000
namespace LK
open PySem PySem.Spec PyProof.Rows L2
local macro_rules | `(tactic| walk_at "rs") => `(tactic| simp only [cxK, cxNK, tCallZ, tAsg, tOp, rI0, rS0, rB0, rI, rU, tUn, rEq, rNe, rIxL, rIxT, rIxS, rSetL, rSlLU, rSlS, rSlU, rCatL, rCatU, rRepL, rIn, tVar, tC, gName, gSub, tIfS, tTest, tB, tAnd, tOr, tNot, tNotV, tAndV, tOrV, tIf, tCall, tCons, tNil, tCB, tDrop, tRet, tRetN, tNext, tLstU, tTupU, tM0, tM1, tPar, tPar3, tAug, ipI, tBM, tBM0, rAppend, rPop, tBreak, tCont, tChain, tSl, tPart, tNoPart, L2.start, List.map, List.length_cons, List.length_nil, List.replicate, List.cons_append, List.nil_append, List.append_nil, List.getElem?_cons_zero, List.getElem?_cons_succ, List.set_cons_zero, List.set_cons_succ, Option.some.injEq, V.int.injEq, V.ref.injEq, V.str.injEq, V.bl.injEq, exists_eq_left', exists_eq_left, exists_and_left, decide_eq_true_eq, List.cons.injEq, and_true, true_and, scal, Bool.not_eq_true', decide_eq_false_iff_not, Nat.zero_add, Nat.reduceAdd, Nat.reduceSub, reduceCtorEq, false_and, exists_false, false_or, or_false, CPow, CPowW, CMul, CDiv, Int.reduceToNat, ↓reduceIte, wipe, sw, List.nil_append, List.singleton_append])
local macro_rules | `(tactic| walk_at "st") => `(tactic| (refine seq_op fun N hN => ?_; walk_at "rs"))
local macro_rules | `(tactic| walk_at "sd") => `(tactic| first | assumption | decide | omega)
local macro_rules | `(tactic| walk_at "rd") => `(tactic| repeat (first
  | refine ⟨_, SqL.of (by assumption), ?_⟩ | refine ⟨_, SqL.of upd_same, ?_⟩ | refine ⟨_, .inl (SqL.of (by assumption)), ?_⟩ | refine ⟨_, (by assumption : _ = some (HO.lst _)), ?_⟩ | refine ⟨_, upd_same, ?_⟩
  | refine ⟨_, rfl, ?_⟩ | refine And.intro (by walk_at "sd") ?_))

section
variable {P : Program} {w : World} {K : PySem.W.Frag} {mg : Str → Option Value} {base : Heap}
theorem ok_is_fraction (T : Txt w K mg) : FnOk P w K mg base CX0 2 T.a_is_fraction T.d_is_fraction ["value"] (fun vs H Q _ => ∃ (b : Addr) (f : Fr), vs = [.ref b] ∧ Pr K H b f.1 f.2 ∧ low f ∧ ∀ H', Same H H' → Q (.bl true) H') := by
  refine T.F_is_fraction.ok sc_is_fraction (fun vs H Q E h => ?_) (fun cdv A outer s H vs Q E hr h => ?_)
  · obtain ⟨b, f, rfl, _⟩ := h
    rfl
  · obtain ⟨b, f, rfl, hb, lf, k⟩ := h
    have hr_is_number : Room 1 _ := hr
    have G_is_number := ok_is_number (P := P) (base := base) T
    refine ⟨_, (pss_cons (ps_if (PW.pt (pw_or (pt_not (pt_val (pe_callB (call_isiDK (K := K) rfl) (by rfl) T.n_isinstance (by decide +kernel) (pa_cons (pv 0) (pa_cons (pe_bltn (v := .ty "tuple") (u := .type "tuple") (by rfl) T.n_tuple (by decide +kernel) rfl) pa_nil))))) (pw_or1 (pt_cmpR op_neI (pe_callB call_lenD (by rfl) T.n_len (by decide +kernel) (pa_cons (pv 0) pa_nil)) pe_int (nomark _))))) (pss_one (ps_ret pe_bl)) pss_nil)
      (pss_cons (ps_asg (pv 0) (pg_tup rfl (pgs_cons (pg_name (i := 1) sc_is_fraction.nd rfl (Or.inl rfl)) (pgs_cons (pg_name (i := 2) sc_is_fraction.nd rfl (Or.inl rfl)) pgs_nil))))
      (pss_one (ps_ret (pe_and (pe_call G_is_number hr_is_number (by rfl) T.m_is_number T.F_is_number.kp T.B_is_number .nil pass0 (pa_cons (pv 1) pa_nil)) (pe_and (pe_call G_is_number hr_is_number (by rfl) T.m_is_number T.F_is_number.kp T.B_is_number .nil pass0 (pa_cons (pv 2) pa_nil)) (pe_and (pe_cmpR op_ge (pv 2) pe_int (nomark _)) (pe_one (pe_cmpR op_eqI (pe_callBfun cr_gcd (by rfl) T.m_gcd (pa_cons (pv 1) (pa_cons (pv 2) pa_nil))) pe_int (nomark _)))))))))), ?_⟩
    refine seq_op fun N hN => ?_
    walk_at "rs"
    refine ⟨_, _, ⟨rfl, rfl⟩, _, dp_pair hb, by decide, iteFF (fun z => by cases z) ⟨_, dp_pair hb, .inl ⟨_, .inr rfl, iteFF (fun z => z rfl) (hN _ _ ?_)⟩⟩⟩
    clear hN N
    refine seq_op fun N hN => ?_
    walk_at "rs"
    refine ⟨b, _, rfl, hb, rfl, ?_⟩
    unfold gCons gNil
    walk_at "rs"
    refine ⟨_, _, ⟨rfl, rfl⟩, _, _, rfl, rfl, hN _ _ ?_⟩
    clear hN N
    walk_at "rs"
    have e : decide (((Nat.gcd f.1.natAbs f.2.natAbs : Nat) : Int) = 1) = true := decide_eq_true (by rw [lf.2]; rfl)
    refine ⟨_, .int f.1, rfl, .int _, fun H1 s1 => ⟨true, rfl, iteTT rfl ⟨_, .int f.2, rfl, .int _, fun H2 s2 => ⟨true, rfl, iteTT rfl (iteTT lf.1 ⟨f.1, f.2, rfl, _, rfl, ?_⟩)⟩⟩⟩⟩
    have q := k H2 (Same.trans s1 s2)
    rw [← e] at q
    exact q
def sp_quotient (K : PySem.W.Frag) : Sp := fun vs H Q _ => ∃ (a b : Addr) (p q r s : Int), vs = [.ref a, .ref b] ∧ Pr K H a p q ∧ Pr K H b r s ∧ p.natAbs < 2 ^ 4000 ∧ q.natAbs < 2 ^ 4000 ∧ r.natAbs < 2 ^ 4000 ∧ s.natAbs < 2 ^ 4000 ∧ q ≠ 0 ∧ r ≠ 0 ∧ 1 ≤ s ∧ Nat.gcd r.natAbs s.natAbs = 1 ∧
  (∀ t H', Same H H' → H t = none → H' t = some (.tup [.int (frP (p * s) (q * r)), .int (frQ (p * s) (q * r))]) → Q (.ref t) H')
theorem ok_quotient (T : Txt w K mg) : FnOk P w K mg base (L2.CX P w) 4 T.a_quotient T.d_quotient ["a", "b"] (sp_quotient K) := by
  refine T.F_quotient.okX sc_quotient (fun vs H Q E h => ?_) (fun cdv A outer s H vs Q E hr h => ?_)
  · obtain ⟨a, b, p, q, r, s', rfl, _⟩ := h
    rfl
  · obtain ⟨a, b, p, q, r, s', rfl, ha, hb, lp, lq, lr, ls, q0, r0, s1, hg, k⟩ := h
    have hr_is_fraction : Room 2 _ := hr.mono (by decide)
    have G_is_fraction := ok_is_fraction (P := P) (base := base) T
    have hr_fraction : Room 3 _ := hr.mono (by decide)
    have G_fraction := ok_fraction (P := P) (base := base) T
    have hr_BadValue : Room 2 _ := hr.mono (by decide)
    have G_BadValue := ok_BadValue (P := P) (base := base) T
    refine ⟨_, (pss_cons (ps_if (PW.pt (pw_or (pt_not (pt_val (pe_call G_is_fraction hr_is_fraction (by rfl) T.m_is_fraction T.F_is_fraction.kp T.B_is_fraction .nil pass0 (pa_cons (pv 1) pa_nil)))) (pw_or1 (pt_cmpR (op_eqD hr.units) (pv 1) (pe_glob (v := .ref T.a_ZERO) (by rfl) T.m_ZERO rfl) (nomark _))))) (pss_one (ps_raise rfl (takes_of rfl rfl rfl rfl) (pmk_oex T.X_BadValue T.i_BadValue T.t_BadValue G_BadValue hr_BadValue T.B_BadValue__init .nil pass0 (by rfl) T.m_BadValue (pa_cons (pv 1) pa_nil)))) pss_nil)
      (pss_one (ps_ret (pe_call G_fraction hr_fraction (by rfl) T.m_fraction T.F_fraction.kp T.B_fraction .nil passL (pa_cons (pe_op op_mulW (pe_ix ix_tup (pv 0) pe_int (fun _ _ => rfl)) (pe_ix ix_tup (pv 1) pe_int (fun _ _ => rfl))) (pa_cons (pe_op op_mulW (pe_ix ix_tup (pv 0) pe_int (fun _ _ => rfl)) (pe_ix ix_tup (pv 1) pe_int (fun _ _ => rfl))) pa_nil)))))), ?_⟩
    refine seq_op fun N hN => ?_
    walk_at "rs"
    refine ⟨(r, s'), hb, ⟨s1, hg⟩, fun H1 e1 => ⟨.tuple [.int r, .int s'], .tuple [.int 0, .int 1], dp_same e1 (dp_pair hb), dp_pair (T.s_ZERO H1), rfl, by decide +kernel, _, rfl, ?_⟩⟩
    rw [eqv_zero]
    have n0 : (decide (r = 0) && decide (s' = 1)) = false := by rw [decide_eq_false r0, Bool.false_and]
    rw [n0]
    refine iteFF (fun z => by cases z) (hN _ _ ?_)
    clear hN N
    replace ha := Same.seqT e1 ha
    replace hb := Same.seqT e1 hb
    walk_at "rs"
    refine ⟨_, ha, _, rfl, _, hb, _, rfl, _, rfl, _, rfl, mulW lp ls, _, ha, _, rfl, _, hb, _, rfl, _, rfl, _, rfl, mulW lq lr, ?_⟩
    exact ⟨_, _, rfl, logL (mulL lp ls) (by decide) (by decide), logL (mulL lq lr) (by decide) (by decide), fun _ t H' s2 h0 h2 => k t H' (Same.trans e1 s2) (Same.dom e1 t h0) h2, fun e => absurd e (Int.mul_ne_zero q0 r0)⟩
/-! ### means -/
theorem Va.over {L X : Int} {f : Fr} {m : Int} (h : Va L X f) (hm : 1 ≤ m) : Va (L * m) X (frP (f.1 * 1) (f.2 * m), frQ (f.1 * 1) (f.2 * m)) ∧ f.2 * m ≠ 0 := by
  have q0 : f.2 * m ≠ 0 := Int.mul_ne_zero (by have := h.1; omega) (by omega)
  have wo := fr_worth (f.1 * 1) q0
  obtain ⟨_, _, e3, e4, _⟩ := fr_spec (f.1 * 1) q0
  refine ⟨⟨e3, e4, ?_⟩, q0⟩
  dsimp only
  generalize frP (f.1 * 1) (f.2 * m) = P at wo
  generalize frQ (f.1 * 1) (f.2 * m) = Q at wo
  refine Int.eq_of_mul_eq_mul_right q0 ?_
  have e1 := h.2.2
  have a1 : P * (L * m) * (f.2 * m) = (P * (f.2 * m)) * (L * m) := by simp only [Int.mul_assoc, Int.mul_comm, Int.mul_left_comm]
  have a2 : f.1 * 1 * Q * (L * m) = (f.1 * L) * m * Q := by simp only [Int.mul_assoc, Int.mul_comm, Int.mul_left_comm, Int.mul_one]
  rw [a1, wo, a2, e1]
  simp only [Int.mul_assoc, Int.mul_comm, Int.mul_left_comm]
theorem sum_all_lim {A : Nat} : ∀ {Ys : List Int}, (∀ Y ∈ Ys, Y.natAbs < 2 ^ A) → Ys.sum.natAbs < 2 ^ (A + Ys.length)
  | [], _ => Nat.two_pow_pos _
  | Y :: Ys, h => by
    have ih := sum_all_lim (Ys := Ys) fun Z hZ => h Z (List.mem_cons_of_mem _ hZ)
    rw [List.sum_cons, List.length_cons, ← Nat.add_assoc]
    exact two_add (pow_le (h Y List.mem_cons_self) (by omega)) ih
def sp_mean (K : PySem.W.Frag) : Sp := fun vs H Q _ => ∃ (a : Addr) (xs : List V) (fs : List Fr) (L : Int) (Ys : List Int), vs = [.ref a] ∧ (SqL K H a xs ∨ SqT K H a xs) ∧ Frs K H xs fs ∧ RowV L Ys fs ∧ 0 < L ∧ L.natAbs < 2 ^ 1500 ∧ (∀ Y ∈ Ys, Y.natAbs < 2 ^ 1500) ∧ 1 ≤ Ys.length ∧ Ys.length ≤ 1000 ∧
  (∀ (t : Addr) (f : Fr) H', Same H H' → Pr K H' t f.1 f.2 → Va (L * (Ys.length : Int)) Ys.sum f → Q (.ref t) H')
theorem ok_mean_of (T : Txt w K mg) : FnOk P w K mg base (L2.CX P w) 5 T.a_mean_of T.d_mean_of ["values"] (sp_mean K) := by
  refine T.F_mean_of.okX sc_mean_of (fun vs H Q E h => ?_) (fun cdv A outer s H vs Q E hr h => ?_)
  · obtain ⟨a, xs, fs, L, Ys, rfl, _⟩ := h
    rfl
  · obtain ⟨a, xs, fs, L, Ys, rfl, ha, hf, rv, L0, L1, bY, m1, m2, k⟩ := h
    have hr_plus : Room 4 _ := hr.mono (by decide)
    have G_plus := ok_plus (P := P) (base := base) T
    have hr_quotient : Room 4 _ := hr.mono (by decide)
    have G_quotient := ok_quotient (P := P) (base := base) T
    have hr_BadValue : Room 2 _ := hr.mono (by decide)
    have G_BadValue := ok_BadValue (P := P) (base := base) T
    have lf := hf.len
    refine ⟨_, (pss_cons (ps_if (pt_cmpR op_eqI (pe_callB call_len_seq (by rfl) T.n_len (by decide +kernel) (pa_cons (pv 0) pa_nil)) pe_int (nomark _)) (pss_one (ps_raise rfl (takes_of rfl rfl rfl rfl) (pmk_oex T.X_BadValue T.i_BadValue T.t_BadValue G_BadValue hr_BadValue T.B_BadValue__init .nil pass0 (by rfl) T.m_BadValue (pa_cons (pe_tupU pa_nil) pa_nil)))) pss_nil)
      (pss_cons (ps_set (i := 1) sc_mean_of.nd rfl (Or.inl rfl) (pe_glob (v := .ref T.a_ZERO) (by rfl) T.m_ZERO rfl))
      (pss_cons (ps_for (passes_of rfl) rfl (pi_lt (pv 0)) (pg_name (i := 2) sc_mean_of.nd rfl (Or.inl rfl)) (pss_one (ps_set (i := 1) sc_mean_of.nd rfl (Or.inl rfl) (pe_call G_plus hr_plus (by rfl) T.m_plus T.F_plus.kp T.B_plus .nil pass0 (pa_cons (pv 1) (pa_cons (pv 2) pa_nil))))))
      (pss_one (ps_ret (pe_call G_quotient hr_quotient (by rfl) T.m_quotient T.F_quotient.kp T.B_quotient .nil passL (pa_cons (pv 1) (pa_cons (pe_tupU (pa_cons (pe_callB call_len_seq (by rfl) T.n_len (by decide +kernel) (pa_cons (pv 0) pa_nil)) (pa_cons pe_int pa_nil))) pa_nil)))))))), ?_⟩
    refine seq_op fun N hN => ?_
    walk_at "rs"
    refine ⟨xs, ha, iteFF (fun e => ?_) (hN _ _ ?_)⟩
    · have := rv.1; omega
    clear hN N
    refine seq_op fun N hN => ?_
    walk_at "rs"
    refine hN _ _ ?_
    clear hN N
    refine cut_seq (fun σ H2 => ∃ (t : Addr) (f : Fr) (x2 : Option V), σ = [some (.ref a), some (.ref t), x2] ∧ Same H H2 ∧ Pr K H2 t f.1 f.2 ∧ Va L Ys.sum f) (fun N hN => ?_) ?_
    · refine for_lt (K := K) (a := a) (xs := xs) (fun Q q => ⟨_, rfl, q⟩) ha (fun i σ H2 => ∃ (t : Addr) (f : Fr) (x2 : Option V), σ = [some (.ref a), some (.ref t), x2] ∧ Same H H2 ∧ Pr K H2 t f.1 f.2 ∧ Va L (Ys.take i).sum f) ⟨_, (0, 1), _, rfl, Same.refl _, T.s_ZERO H, Va.zero _⟩ (fun i σ H2 ⟨_, _, _, _, s, _⟩ => s) ?_ ?_
      · rintro i y σ H2 hi ⟨t, f, x2, rfl, s2, ht, va⟩
        have il : i < fs.length := by have := (List.getElem?_eq_some_iff.mp hi).1; omega
        obtain ⟨u, g, eu, eg, hu⟩ := hf.get il
        obtain rfl : y = .ref u := by rw [eu] at hi; exact (Option.some.inj hi).symm
        have iY : i < Ys.length := by rw [rv.1]; exact il
        have vg := rv.2 i Ys[i] g (List.getElem?_eq_getElem iY) eg
        have en : (Ys.take (i + 1)).sum = (Ys.take i).sum + Ys[i] := by
          rw [← List.take_append_getElem iY, List.sum_append]
          simp
        obtain ⟨vp, n0⟩ := va.plus vg
        have bs : (Ys.take i).sum.natAbs < 2 ^ 4000 := pow_le (sum_all_lim (A := 1500) fun Z hZ => bY Z (List.mem_of_mem_take hZ)) (by rw [List.length_take]; omega)
        walk_at "rs"
        refine ⟨t, u, f.1, f.2, g.1, g.2, rfl, ht, Same.seqT s2 hu, Nat.lt_of_le_of_lt (va.num L0) bs, pow_le (Nat.lt_of_le_of_lt (va.den L0) L1) (by decide), pow_le (Nat.lt_of_le_of_lt (vg.num L0) (bY _ (List.getElem_mem iY))) (by decide), pow_le (Nat.lt_of_le_of_lt (vg.den L0) L1) (by decide), n0, fun t2 H3 s3 _ h3 => ⟨t2, (frP (f.1 * g.2 + g.1 * f.2) (f.2 * g.2), frQ (f.1 * g.2 + g.1 * f.2) (f.2 * g.2)), _, ⟨rfl, rfl⟩, Same.trans s2 s3, .inl (.inl h3), ?_⟩⟩
        rw [en]
        exact vp
      · rintro σ H2 ⟨t, f, x2, rfl, s2, ht, va⟩
        rw [show xs.length = Ys.length by rw [lf, rv.1], List.take_length] at va
        exact hN _ _ ⟨t, f, _, rfl, s2, ht, va⟩
    · rintro σ H2 ⟨t, f, x2, rfl, s2, ht, va⟩
      have bs : Ys.sum.natAbs < 2 ^ 4000 := pow_le (sum_all_lim (A := 1500) bY) (by omega)
      have lx : xs.length = Ys.length := by rw [lf, rv.1]
      obtain ⟨vo, n0⟩ := va.over (m := (Ys.length : Int)) (by omega)
      walk_at "rs"
      refine ⟨xs, ha.imp s2.seq (Same.seqT s2), by decide, fun q H3 s3 q0 q1 => ⟨t, q, f.1, f.2, (xs.length : Int), 1, rfl, Same.seqT s3 ht, .inl (.inl q1), Nat.lt_of_le_of_lt (va.num L0) bs, pow_le (Nat.lt_of_le_of_lt (va.den L0) L1) (by decide), Nat.lt_of_le_of_lt (show ((xs.length : Int)).natAbs ≤ 1000 by omega) (Nat.lt_of_lt_of_le (show 1000 < 2 ^ 10 by decide) (Nat.pow_le_pow_right (by decide) (by decide))), Nat.one_lt_two_pow (by decide), by have := va.1; omega, by omega, by decide, Nat.gcd_one_right _, fun t2 H4 s4 _ h4 => ?_⟩⟩
      rw [lx] at h4
      exact k t2 _ H4 (Same.trans s2 (Same.trans s3 s4)) (.inl (.inl h4)) vo
end
end LK

set_option Elab.async false
set_option linter.all false
set_option maxRecDepth 100000
namespace LK
open PySem PySem.Spec PyProof.Rows L2
local macro_rules | `(tactic| walk_at "rs") => `(tactic| simp only [cxK, cxNK, tCallZ, tAsg, tOp, rI0, rS0, rB0, rI, rU, tUn, rEq, rNe, rIxL, rIxT, rIxS, rSetL, rSlLU, rSlS, rSlU, rCatL, rCatU, rRepL, rIn, tVar, tC, gName, gSub, tIfS, tTest, tB, tAnd, tOr, tNot, tNotV, tAndV, tOrV, tIf, tCall, tCons, tNil, tCB, tDrop, tRet, tRetN, tNext, tLstU, tTupU, tM0, tM1, tPar, tPar3, tAug, ipI, tBM, tBM0, rAppend, rPop, tBreak, tCont, tChain, tSl, tPart, tNoPart, L2.start, List.map, List.length_cons, List.length_nil, List.replicate, List.cons_append, List.nil_append, List.append_nil, List.getElem?_cons_zero, List.getElem?_cons_succ, List.set_cons_zero, List.set_cons_succ, Option.some.injEq, V.int.injEq, V.ref.injEq, V.str.injEq, V.bl.injEq, exists_eq_left', exists_eq_left, exists_and_left, decide_eq_true_eq, List.cons.injEq, and_true, true_and, scal, Bool.not_eq_true', decide_eq_false_iff_not, Nat.zero_add, Nat.reduceAdd, Nat.reduceSub, reduceCtorEq, false_and, exists_false, false_or, or_false, CPow, CPowW, CMul, CDiv, Int.reduceToNat, ↓reduceIte, wipe, sw, List.nil_append, List.singleton_append])
local macro_rules | `(tactic| walk_at "st") => `(tactic| (refine seq_op fun N hN => ?_; walk_at "rs"))
local macro_rules | `(tactic| walk_at "sd") => `(tactic| first | assumption | decide | omega)
local macro_rules | `(tactic| walk_at "rd") => `(tactic| repeat (first
  | refine ⟨_, SqL.of (by assumption), ?_⟩ | refine ⟨_, SqL.of upd_same, ?_⟩ | refine ⟨_, .inl (SqL.of (by assumption)), ?_⟩ | refine ⟨_, (by assumption : _ = some (HO.lst _)), ?_⟩ | refine ⟨_, upd_same, ?_⟩
  | refine ⟨_, rfl, ?_⟩ | refine And.intro (by walk_at "sd") ?_))

/-! ### what a head gives -/
def tot (Xss : List (List Int)) (ks : List Nat) (c : Nat) : Int := (ks.map fun k => (Xss.getD k []).getD c 0).sum
def giH (W : Int) (Xss : List (List Int)) (ks : List Nat) (e : Sc) : Nat × Int := (e.1.1, tot Xss ks e.1.2 * (e.2.1 * (W / (e.2.2 * (ks.length : Int)))))
structure GvFit (n : Nat) (W : Int) (es : List Sc) : Prop where
  len : es.length ≤ 100
  W0 : 0 < W
  W1 : W.natAbs < 2 ^ 800
  all : ∀ e ∈ es, e.1.1 < n ∧ e.1.2 < n ∧ low e.2 ∧ (∀ m : Int, 1 ≤ m → m ≤ 9 → e.2.2 * m ∣ W) ∧ e.2.1.natAbs < 2 ^ 64
theorem Va.div {L W tt m : Int} {f g : Fr} (hf : low f) (hg : Va (L * m) tt g) (hd : f.2 * m ∣ W) : Va (L * W) (tt * (f.1 * (W / (f.2 * m)))) (frP (f.1 * g.1) (f.2 * g.2), frQ (f.1 * g.1) (f.2 * g.2)) ∧ f.2 * g.2 ≠ 0 := by
  have vf : Va f.2 f.1 f := ⟨hf.1, hf.2, rfl⟩
  obtain ⟨v, n0⟩ := vf.times hg
  refine ⟨?_, n0⟩
  have s := v.scale (W / (f.2 * m))
  have e1 : f.2 * (L * m) * (W / (f.2 * m)) = L * W := by
    have e : f.2 * m * (W / (f.2 * m)) = W := Int.mul_ediv_cancel' hd
    conv => rhs; rw [← e]
    ac_rfl
  have e2 : f.1 * tt * (W / (f.2 * m)) = tt * (f.1 * (W / (f.2 * m))) := by ac_rfl
  rw [e1, e2] at s
  exact s
theorem look_ne {S : List Int} (h : S ≠ []) : lookI S ≠ [] := by
  obtain ⟨a, _⟩ := best_spec h
  obtain ⟨k, hk, e⟩ := List.getElem_of_mem a
  intro z
  have : k ∈ lookI S := by
    unfold lookI
    refine List.mem_filter.mpr ⟨List.mem_range.mpr hk, decide_eq_true ?_⟩
    rw [List.getD_eq_getElem?_getD, List.getElem?_eq_getElem hk]
    exact e
  rw [z] at this
  cases this
theorem look_lt {S : List Int} {k : Nat} (h : k ∈ lookI S) : k < S.length := List.mem_range.mp (List.mem_filter.mp h).1
theorem look_len (S : List Int) : (lookI S).length ≤ S.length := Nat.le_trans (List.length_filter_le _ _) (by rw [List.length_range]; exact Nat.le_refl _)
section
variable {P : Program} {w : World} {K : PySem.W.Frag} {mg : Str → Option Value} {base : Heap}
def sp_hgifts (K : PySem.W.Frag) : Sp := fun vs H Q _ => ∃ (ra : Addr) (v : V) (rs : List V) (h : Hd) (n at_ : Nat) (L M W : Int) (Xss : List (List Int)), vs = [.ref ra, v, .int (at_ : Int)] ∧ (SqL K H ra rs ∨ SqT K H ra rs) ∧ Rows K H L rs Xss ∧ (∀ Xs ∈ Xss, Xs.length = n ∧ LimS L Xs) ∧ Xss.length ≤ 9 ∧ HeadAt K H v h ∧ ScFit n M h.sc ∧ GvFit n W h.giv ∧ at_ < Xss.length ∧
  ∀ (t : Addr) (ps : List V) (gs : List (Nat × Fr)) H', Same H H' → H t = none → H' t = some (.lst ps) → Ens K H' ps gs → GV (L * W) (h.giv.map (giH W Xss (lookI (scRow M h.sc Xss at_)))) gs → Q (.ref t) H'
theorem ok_head_gifts (T : Txt w K mg) : FnOk P w K mg base CX0 8 T.a_head_gifts T.d_head_gifts ["rows", "head", "at"] (sp_hgifts K) := by
  refine T.F_head_gifts.ok sc_head_gifts (fun vs H Q E h => ?_) (fun cdv A outer s H vs Q E hr h => ?_)
  · obtain ⟨ra, v, rs, h, n, at_, L, M, W, Xss, rfl, _⟩ := h
    rfl
  · obtain ⟨ra, v, rs, h, n, at_, L, M, W, Xss, rfl, hra, hrs, lim, lX, hh, fit, gfit, hat, k⟩ := h
    have hr_looked_at : Room 7 _ := hr
    have G_looked_at := ok_looked_at (P := P) (base := base) T
    have hr_times : Room 4 _ := hr.mono (by decide)
    have G_times := ok_times (P := P) (base := base) T
    have hr_mean_of : Room 5 _ := hr.mono (by decide)
    have G_mean_of := ok_mean_of (P := P) (base := base) T
    have lrs := hrs.len
    obtain ⟨la, Xa, ea, eX, hrow⟩ := hrs.get hat
    obtain ⟨lXa, limA⟩ := lim Xa (List.mem_of_getElem? eX)
    refine ⟨_, (pss_cons (ps_setLc (i := 3) (own := [("index", 8)]) (g := gName 8) (tt := tYes) rfl sc_head_gifts.nd rfl rfl (sw_true rfl rfl rfl (by decide +kernel)) (pi_list (pe_call G_looked_at hr_looked_at (by rfl) T.m_looked_at T.F_looked_at.kp T.B_looked_at .nil pass0 (pa_cons (pv 0) (pa_cons (pv 1) (pa_cons (pv 2) pa_nil))))) (blkOk_by (own := [("index", 8)]) (N := N_head_gifts) (sc := defScope s_head_gifts) (by decide +kernel)) (fun _ _ _ _ _ => pg_name (i := 8) sc_head_gifts.nd rfl (Or.inl rfl)) (fun _ _ _ _ _ => pts_nil) (fun _ _ _ _ _ => (pe_ix (ix_ltK (K := K) rfl) (pv 0) (pv 8) (fun _ _ => rfl))))
      (pss_cons (ps_set (i := 4) sc_head_gifts.nd rfl (Or.inl rfl) (pe_lstU pa_nil))
      (pss_cons (ps_for PassesOwn.never rfl (pi_tup (pe_ix ix_tup (pv 1) pe_int (fun _ _ => rfl))) (pg_tup rfl (pgs_cons (pg_name (i := 5) sc_head_gifts.nd rfl (Or.inl rfl)) (pgs_cons (pg_name (i := 6) sc_head_gifts.nd rfl (Or.inr rfl)) (pgs_cons (pg_name (i := 7) sc_head_gifts.nd rfl (Or.inl rfl)) pgs_nil)))) (pss_one (ps_expr (pe_bm PySem.F.plainAttrs_list PySem.F.slot_list_append PySem.F.type_list_append mt_append (pv 4) (pa_cons (pe_tupU (pa_cons (pv 5) (pa_cons (pe_call G_times hr_times (by rfl) T.m_times T.F_times.kp T.B_times .nil pass0 (pa_cons (pv 7) (pa_cons (pe_call G_mean_of hr_mean_of (by rfl) T.m_mean_of T.F_mean_of.kp T.B_mean_of .nil passL (pa_cons (pe_lc (own := [("row", 9)]) (g := gName 9) (tt := tYes) rfl sc_head_gifts.nd (pi_list (pv 3)) (blkOk_by (own := [("row", 9)]) (N := N_head_gifts) (sc := defScope s_head_gifts) (by decide +kernel)) (fun _ _ _ _ _ => pg_name (i := 9) sc_head_gifts.nd rfl (Or.inl rfl)) (fun _ _ _ _ _ => pts_nil) (fun _ _ _ _ _ => (pe_ix (ix_tupK (K := K) rfl) (pv 9) (pv 6) (fun _ _ => rfl)))) pa_nil)) pa_nil))) pa_nil))) pa_nil)))))
      (pss_one (ps_ret (pv 4)))))), ?_⟩
    have lS : (scRow M h.sc Xss at_).length = Xss.length := List.length_map ..
    refine seq_op fun N hN => ?_
    walk_at "rs"
    refine ⟨_, rfl, _, rfl, _, rfl, ra, v, rs, h, n, at_, L, M, Xss, rfl, hra, hrs, lim, by omega, hh, fit, hat, fun t H1 s1 t0 t1 => ?_⟩
    have kne : lookI (scRow M h.sc Xss at_) ≠ [] := look_ne fun e => by rw [e, List.length_nil] at lS; omega
    have klt : ∀ k ∈ lookI (scRow M h.sc Xss at_), k < Xss.length := fun k hk => by rw [← lS]; exact look_lt hk
    have kle : (lookI (scRow M h.sc Xss at_)).length ≤ Xss.length := by rw [← lS]; exact look_len _
    generalize lookI (scRow M h.sc Xss at_) = ks at *
    refine ⟨t, rfl, ⟨_, SqL.of t1⟩, fun D hD => lc_map (n := (ks.map fun (k : Nat) => V.int (k : Int)).length) walk_list (ks.map fun (k : Nat) => V.int (k : Int)) (fun v => match v with | .int j => rs.getD j.toNat .non | _ => .non) hD (by rw [List.length_map]; omega) rfl (fun i H2 x H3 hi y => y) (fun H s => s.seq (SqL.of t1)) (fun x H2 hx s2 Q2 hq => ?_) fun H2 s2 h2 => hN _ _ ?_⟩
    · obtain ⟨k0, hk0, rfl⟩ := List.mem_map.mp hx
      have := klt k0 hk0
      have s12 := Same.trans s1 s2
      refine ⟨_, rfl, _, rfl, ra, rs, (k0 : Int), rs.getD k0 .non, rfl, rfl, hra.imp s12.seq (Same.seqT s12), at_ofN rfl (by rw [List.getD_eq_getElem?_getD, List.getElem?_eq_getElem (by omega)]; rfl), hq _ (Same.refl _)⟩
    clear hN N
    rw [List.map_map] at h2
    refine seq_op fun N hN => ?_
    walk_at "rs"
    refine ⟨Nat.zero_le _, fun p H3 s3 p0 p1 => hN _ _ ?_⟩
    clear hN N
    obtain ⟨ua, sa, ga, xs, ys, rfl, g1, g2, g3, g4, g5⟩ := id hh
    have s13 := Same.trans s1 (Same.trans s2 s3)
    have hD3 := s3 _ _ h2
    refine cut_seq (fun σ H4 => ∃ (ps : List V) (gs : List (Nat × Fr)) (x5 x6 x7 x8 x9 : Option V), σ = [some (.ref ra), some (.ref ua), some (.int (at_ : Int)), some (.ref D), some (.ref p), x5, x6, x7, x8, x9] ∧ Same H H4 ∧ H4 p = some (.lst ps) ∧ Ens K H4 ps gs ∧ GV (L * W) (h.giv.map (giH W Xss ks)) gs) (fun N hN => ?_) ?_
    · have lys := g5.len
      refine ⟨_, rfl, ua, _, 1, .ref ga, rfl, rfl, Same.seqT s13 g1, rfl, ga, rfl, ⟨ys, Same.seqT s13 g4⟩, for_tup (K := K) (a := ga) (xs := ys) (fun i σ H4 => ∃ (ps : List V) (gs : List (Nat × Fr)) (x5 x6 x7 : Option V), σ = [some (.ref ra), some (.ref ua), some (.int (at_ : Int)), some (.ref D), some (.ref p), x5, x6, x7, none, none] ∧ Same H H4 ∧ H4 D = some (.lst (ks.map ((fun v => match v with | .int j => rs.getD j.toNat .non | _ => .non) ∘ fun (k : Nat) => V.int (k : Int)))) ∧ H4 p = some (.lst ps) ∧ Ens K H4 ps gs ∧ GV (L * W) ((h.giv.take i).map (giH W Xss ks)) gs) ⟨[], [], _, _, _, rfl, s13, hD3, p1, .nil, .nil⟩ (fun i σ H4 _ ⟨_, _, _, _, _, _, s, _⟩ => Same.seqT s g4) ?_ ?_⟩
      · rintro i y σ H4 hi ⟨ps, gs, x5, x6, x7, rfl, s4, hD4, p4, he, hg⟩
        obtain ⟨q, u, c, d, f, ey, ee, hq, hf⟩ := g5.get (n := i) (by have := (List.getElem?_eq_some_iff.mp hi).1; omega)
        obtain rfl : y = .ref q := by rw [ey] at hi; exact (Option.some.inj hi).symm
        refine g3_at (Same.seqT s4 hq) ?_
        walk_at "rs"
        obtain ⟨f1, f2, f3, f4, f5⟩ := gfit.all _ (List.mem_of_getElem? ee)
        dsimp only at f1 f2 f3 f4 f5
        have lk1 : 1 ≤ ks.length := by cases ks with
          | nil => exact absurd rfl kne
          | cons a b => rw [List.length_cons]; omega
        have dp : D ≠ p := fun z => by rw [← z, h2] at p0; cases p0
        have hp0 : H p = none := by
          cases e : H p with
          | none => rfl
          | some o => rw [Same.trans s1 s2 _ _ e] at p0; cases p0
        refine ⟨.inl ⟨rfl, _, SqL.of p4⟩, lc_list2 (K := K) (a := D) (fun Q q => ⟨_, rfl, q⟩) (SqL.of hD4) (fun i H ys => ∃ fs, Frs K H ys fs ∧ RowV L ((ks.take i).map fun k => (Xss.getD k []).getD d 0) fs) (by rw [List.length_map]; omega) (fun i H H' ys s ⟨fs, h1, h2⟩ => ⟨fs, h1.same s, h2⟩) (fun D i H ys zs o hp ⟨fs, h1, h2⟩ => ⟨fs, h1.upd hp, h2⟩) (fun H => ⟨[], .nil, rfl, fun i X f e => by cases i <;> cases e⟩) (fun j x H5 hj s5 hx => ?_) (gm_name 9) fun D2 H5 zs s5 D20 D21 lz ⟨fs, m1, m2⟩ => ?_⟩
        · rw [List.length_map] at hj
          rw [List.getElem?_map, List.getElem?_eq_getElem hj] at hx
          have hk0 := klt _ (List.getElem_mem hj)
          obtain ⟨r, Xs, er, eXs, hr2⟩ := hrs.get hk0
          have ex : rs.getD ((ks[j] : Nat) : Int).toNat .non = .ref r := by rw [Int.toNat_natCast, List.getD_eq_getElem?_getD, er]; rfl
          obtain rfl : x = .ref r := by
            have := Option.some.inj hx
            rw [← ex, ← this]
            rfl
          obtain ⟨lXs, limX⟩ := lim Xs (List.mem_of_getElem? eXs)
          obtain ⟨rxs, rfs, r1, r2, rv1, rv2⟩ := hr2.same (Same.trans s4 s5)
          obtain ⟨w2, z, ew, ez, hz⟩ := r2.get (n := d) (by omega)
          have eXd : Xs[d]? = some (Xs.getD d 0) := by rw [List.getD_eq_getElem?_getD, List.getElem?_eq_getElem (by omega)]; rfl
          refine ⟨Same.refl _, rfl, fun Q2 hq => ?_⟩
          walk_at "rs"
          refine ⟨_, r1, _, at_ofN rfl ew, hq _ H5 (Same.refl _) fun ys ⟨fs, h1, h3, h4⟩ => ⟨fs ++ [z], h1.app (Frs.one hz), ?_⟩⟩
          rw [← List.take_append_getElem hj, List.map_append]
          have eg : (Xss.getD ks[j] []).getD d 0 = Xs.getD d 0 := by rw [List.getD_eq_getElem?_getD (l := Xss), eXs]; rfl
          refine ⟨by rw [List.length_append, List.length_append, h3]; rfl, fun l X g el egl => ?_⟩
          by_cases c1 : l < fs.length
          · rw [List.getElem?_append_left (by omega)] at el
            rw [List.getElem?_append_left c1] at egl
            exact h4 l X g el egl
          · have jl : l = fs.length := by
              have := (List.getElem?_eq_some_iff.mp egl).1
              rw [List.length_append] at this
              simp only [List.length_cons, List.length_nil] at this
              omega
            subst jl
            rw [List.getElem?_append_right (by omega), h3, Nat.sub_self] at el
            rw [List.getElem?_append_right (by omega), Nat.sub_self] at egl
            cases el
            cases egl
            show Va L ((Xss.getD ks[j] []).getD d 0) z
            rw [eg]
            exact rv2 d _ z eXd ez
        · rw [List.length_map, List.take_length] at m2
          have lY : (ks.map fun k => (Xss.getD k []).getD d 0).length = ks.length := List.length_map ..
          have bY : ∀ Y ∈ ks.map fun k => (Xss.getD k []).getD d 0, Y.natAbs < 2 ^ 1500 := fun Y hY => by
            obtain ⟨k0, hk0, rfl⟩ := List.mem_map.mp hY
            have hk1 := klt k0 hk0
            have hX : Xss.getD k0 [] ∈ Xss := by
              rw [List.getD_eq_getElem?_getD, List.getElem?_eq_getElem hk1]
              exact List.getElem_mem hk1
            exact pow_le (getD_lim (Nat.two_pow_pos 455) (lim _ hX).2.2.2) (by decide)
          refine ⟨D2, zs, fs, L, _, rfl, .inl (SqL.of D21), m1, m2, limA.1, pow_le limA.2.1 (by decide), bY, by omega, by omega, fun t2 g H6 s6 ht2 va => ?_⟩
          rw [lY] at va
          have hd := f4 (ks.length : Int) (by omega) (by omega)
          obtain ⟨vd, n0⟩ := va.div f3 hd
          have s46 := Same.trans s5 s6
          have lm0 : 0 < L * (ks.length : Int) := Int.mul_pos limA.1 (by omega)
          have lm1 : (L * (ks.length : Int)).natAbs < 2 ^ 4000 := pow_le (wide_lt (a := 400) (b := 4) limA.2.1 (Nat.lt_of_le_of_lt (show ((ks.length : Int)).natAbs ≤ 9 by omega) (by decide))) (by decide)
          have bt : ((ks.map fun k => (Xss.getD k []).getD d 0).sum).natAbs < 2 ^ 4000 := pow_le (sum_all_lim bY) (by omega)
          have fq : f.2.natAbs < 2 ^ 4000 := by
            have dv : f.2 ∣ W := Int.dvd_trans (Int.dvd_mul_right f.2 1) (f4 1 (by decide) (by decide))
            exact pow_le (Nat.lt_of_le_of_lt (Nat.le_of_dvd (by have := gfit.W0; omega) (Int.natAbs_dvd_natAbs.mpr dv)) gfit.W1) (by decide)
          refine ⟨u, t2, f.1, f.2, g.1, g.2, rfl, Same.seqT (Same.trans s4 s46) hf, ht2, pow_le f5 (by decide), fq, Nat.lt_of_le_of_lt (va.num lm0) bt, Nat.lt_of_le_of_lt (va.den lm0) lm1, n0, fun t3 H7 s7 _ h7 => ⟨by decide, fun q1 H8 s8 q10 q11 => ?_⟩⟩
          have s48 := Same.trans s46 (Same.trans s7 s8)
          have p8 := s48 _ _ p4
          have lps := he.len
          refine ⟨ps, p8, Nat.lt_of_le_of_lt (show ps.length ≤ 1000 by
            have := hg.len
            rw [List.length_map, List.length_take] at this
            have := gfit.len
            omega) (by decide), _, gs ++ [(c, (frP (f.1 * g.1) (f.2 * g.2), frQ (f.1 * g.1) (f.2 * g.2)))], _, _, _, ⟨rfl, rfl, rfl⟩, fun b o e => ?_, by rw [upd_ne dp]; exact s48 _ _ hD4, upd_same, ?_, ?_⟩
          · have nb : b ≠ p := fun z => by rw [z, hp0] at e; cases e
            rw [upd_ne nb]
            exact Same.trans s4 s48 _ _ e
          · exact ((he.same s48).app (.cons (.inl (.inl q11)) (.inl (.inl (s8 _ _ h7))) .nil)).upd p8
          · obtain ⟨hk, e⟩ := List.getElem?_eq_some_iff.mp ee
            rw [← List.take_append_getElem hk, e, List.map_append]
            exact hg.app (.cons vd .nil)
      · rintro σ H4 ⟨ps, gs, x5, x6, x7, rfl, s4, hD4, p4, he, hg⟩
        rw [lys, List.take_length] at hg
        exact hN _ _ ⟨ps, gs, _, _, _, _, _, rfl, s4, p4, he, hg⟩
    · rintro σ H4 ⟨ps, gs, x5, x6, x7, x8, x9, rfl, s4, p4, he, hg⟩
      walk_at "rs"
      refine k p ps gs H4 s4 ?_ p4 he hg
      cases e : H p with
      | none => rfl
      | some o => rw [Same.trans s1 s2 _ _ e] at p0; cases p0
end
end LK

set_option Elab.async false
set_option linter.all false
set_option maxRecDepth 100000
namespace LK
open PySem PySem.Spec PyProof.Rows L2
local macro_rules | `(tactic| walk_at "rs") => `(tactic| simp only [cxK, cxNK, tCallZ, tAsg, tOp, rI0, rS0, rB0, rI, rU, tUn, rEq, rNe, rIxL, rIxT, rIxS, rSetL, rSlLU, rSlS, rSlU, rCatL, rCatU, rRepL, rIn, tVar, tC, gName, gSub, tIfS, tTest, tB, tAnd, tOr, tNot, tNotV, tAndV, tOrV, tIf, tCall, tCons, tNil, tCB, tDrop, tRet, tRetN, tNext, tLstU, tTupU, tM0, tM1, tPar, tPar3, tAug, ipI, tBM, tBM0, rAppend, rPop, tBreak, tCont, tChain, tSl, tPart, tNoPart, L2.start, List.map, List.length_cons, List.length_nil, List.replicate, List.cons_append, List.nil_append, List.append_nil, List.getElem?_cons_zero, List.getElem?_cons_succ, List.set_cons_zero, List.set_cons_succ, Option.some.injEq, V.int.injEq, V.ref.injEq, V.str.injEq, V.bl.injEq, exists_eq_left', exists_eq_left, exists_and_left, decide_eq_true_eq, List.cons.injEq, and_true, true_and, scal, Bool.not_eq_true', decide_eq_false_iff_not, Nat.zero_add, Nat.reduceAdd, Nat.reduceSub, reduceCtorEq, false_and, exists_false, false_or, or_false, CPow, CPowW, CMul, CDiv, Int.reduceToNat, ↓reduceIte, wipe, sw, List.nil_append, List.singleton_append])
local macro_rules | `(tactic| walk_at "st") => `(tactic| (refine seq_op fun N hN => ?_; walk_at "rs"))
local macro_rules | `(tactic| walk_at "sd") => `(tactic| first | assumption | decide | omega)
local macro_rules | `(tactic| walk_at "rd") => `(tactic| repeat (first
  | refine ⟨_, SqL.of (by assumption), ?_⟩ | refine ⟨_, SqL.of upd_same, ?_⟩ | refine ⟨_, .inl (SqL.of (by assumption)), ?_⟩ | refine ⟨_, (by assumption : _ = some (HO.lst _)), ?_⟩ | refine ⟨_, upd_same, ?_⟩
  | refine ⟨_, rfl, ?_⟩ | refine And.intro (by walk_at "sd") ?_))

/-! ### heads in whole numbers -/
def headG (W : Int) (M : Hd → Int) (hs : List Hd) (Xss : List (List Int)) (at_ : Nat) : List (Nat × Int) := hs.flatMap fun h => h.giv.map (giH W Xss (lookI (scRow (M h) h.sc Xss at_)))
def headR (W : Int) (M : Hd → Int) (hs : List Hd) (Xss : List (List Int)) (at_ : Nat) : List Int := (headG W M hs Xss at_).foldl addG ((Xss.getD at_ []).map (· * W))
def headRs (W : Int) (M : Hd → Int) (hs : List Hd) (Xss : List (List Int)) : List (List Int) := (List.range Xss.length).map (headR W M hs Xss)
structure HsFit (n : Nat) (M : Hd → Int) (W : Int) (hs : List Hd) : Prop where
  sc : ∀ h ∈ hs, ScFit n (M h) h.sc
  gv : ∀ h ∈ hs, GvFit n W h.giv
  len : hs.length ≤ 1000
  giv : (hs.map fun h => h.giv.length).sum ≤ 600
  W0 : 0 < W
  W1 : W.natAbs < 2 ^ 800
theorem tot_lim {n : Nat} {L : Int} {Xss : List (List Int)} (lim : ∀ Xs ∈ Xss, Xs.length = n ∧ LimS L Xs) (c : Nat) : ∀ {ks : List Nat}, (tot Xss ks c).natAbs < 2 ^ (455 + ks.length)
  | [] => Nat.two_pow_pos _
  | k :: ks => by
    have ih := tot_lim lim c (ks := ks)
    have g : ((Xss.getD k []).getD c 0).natAbs < 2 ^ 455 := by
      refine getD_lim (Nat.two_pow_pos 455) fun X hX => ?_
      rw [List.getD_eq_getElem?_getD] at hX
      cases e : Xss[k]? with
      | none => rw [e] at hX; cases hX
      | some Xs => rw [e] at hX; exact (lim Xs (List.mem_of_getElem? e)).2.2.2 X hX
    show ((Xss.getD k []).getD c 0 + tot Xss ks c).natAbs < _
    rw [List.length_cons, ← Nat.add_assoc]
    exact two_add (pow_le g (by omega)) ih
theorem giH_lim {n : Nat} {L W : Int} {Xss : List (List Int)} (lim : ∀ Xs ∈ Xss, Xs.length = n ∧ LimS L Xs) (lX : Xss.length ≤ 9) {ks : List Nat} (lk : ks.length ≤ 9) {es : List Sc} (g : GvFit n W es) {e : Sc} (he : e ∈ es) : (giH W Xss ks e).1 < n ∧ (giH W Xss ks e).2.natAbs < 2 ^ 1400 := by
  obtain ⟨f1, f2, f3, f4, f5⟩ := g.all e he
  refine ⟨f1, ?_⟩
  have a : (e.2.1 * (W / (e.2.2 * (ks.length : Int)))).natAbs < 2 ^ (64 + 800) := wide_lt f5 (Nat.lt_of_le_of_lt (Int.natAbs_ediv_le_natAbs _ _) g.W1)
  exact pow_le (wide_lt (tot_lim lim e.1.2 (ks := ks)) a) (by omega)
theorem headG_ok {n : Nat} {L W : Int} {M : Hd → Int} {hs : List Hd} {Xss : List (List Int)} {at_ : Nat} (lim : ∀ Xs ∈ Xss, Xs.length = n ∧ LimS L Xs) (lX : Xss.length ≤ 9) (f : HsFit n M W hs) : ∀ p ∈ headG W M hs Xss at_, p.1 < n ∧ p.2.natAbs < 2 ^ 1400 := by
  intro p hp
  obtain ⟨h, hh, hp⟩ := List.mem_flatMap.mp hp
  obtain ⟨e, he, rfl⟩ := List.mem_map.mp hp
  refine giH_lim lim lX ?_ (f.gv h hh) he
  refine Nat.le_trans (look_len _) ?_
  rw [show (scRow (M h) h.sc Xss at_).length = Xss.length from List.length_map ..]
  exact lX
theorem headG_len (W : Int) (M : Hd → Int) (Xss : List (List Int)) (at_ : Nat) : ∀ hs : List Hd, (headG W M hs Xss at_).length = (hs.map fun h => h.giv.length).sum
  | [] => rfl
  | h :: hs => by
    show (h.giv.map (giH W Xss (lookI (scRow (M h) h.sc Xss at_))) ++ headG W M hs Xss at_).length = _
    rw [List.length_append, List.length_map, headG_len W M Xss at_ hs, List.map_cons, List.sum_cons]
theorem headR_len {W : Int} {M : Hd → Int} {hs : List Hd} {Xss : List (List Int)} {at_ : Nat} : (headR W M hs Xss at_).length = (Xss.getD at_ []).length := by
  unfold headR
  rw [foldG_len, List.length_map]
section
variable {P : Program} {w : World} {K : PySem.W.Frag} {mg : Str → Option Value} {base : Heap}
def sp_heads (K : PySem.W.Frag) : Sp := fun vs H Q _ => ∃ (ra ua : Addr) (rs us : List V) (Xss : List (List Int)) (hs : List Hd) (n : Nat) (L W : Int) (M : Hd → Int), vs = [.ref ra, .ref ua] ∧ (SqL K H ra rs ∨ SqT K H ra rs) ∧ Rows K H L rs Xss ∧ (∀ Xs ∈ Xss, Xs.length = n ∧ LimS L Xs) ∧ Xss.length ≤ 9 ∧ (SqL K H ua us ∨ SqT K H ua us) ∧ Heads K H us hs ∧ HsFit n M W hs ∧
  ∀ (t : Addr) (ts : List V) H', Same H H' → H t = none → H' t = some (.lst ts) → Rows K H' (L * W) ts (headRs W M hs Xss) → Q (.ref t) H'
theorem ok_heads_done (T : Txt w K mg) : FnOk P w K mg base CX0 9 T.a_heads_done T.d_heads_done ["rows", "heads"] (sp_heads K) := by
  refine T.F_heads_done.ok sc_heads_done (fun vs H Q E h => ?_) (fun cdv A outer s H vs Q E hr h => ?_)
  · obtain ⟨ra, ua, rs, us, Xss, hs, n, L, W, M, rfl, _⟩ := h
    rfl
  · obtain ⟨ra, ua, rs, us, Xss, hs, n, L, W, M, rfl, hra, hrs, lim, lX, hua, hus, hf, k⟩ := h
    have hr_head_gifts : Room 8 _ := hr
    have G_head_gifts := ok_head_gifts (P := P) (base := base) T
    have hr_row_with : Room 5 _ := hr.mono (by decide)
    have G_row_with := ok_row_with (P := P) (base := base) T
    have lrs := hrs.len
    have lus := hus.len
    refine ⟨_, (pss_cons (ps_set (i := 2) sc_heads_done.nd rfl (Or.inl rfl) (pe_lstU pa_nil))
      (pss_cons (ps_for PassesOwn.never rfl (pi_enumLT (by rfl) T.n_enumerate (pa_cons (pv 0) pa_nil)) (pg_tup rfl (pgs_cons (pg_name (i := 3) sc_heads_done.nd rfl (Or.inr rfl)) (pgs_cons (pg_name (i := 4) sc_heads_done.nd rfl (Or.inl rfl)) pgs_nil))) (pss_cons (ps_setLc2 (i := 5) (own := [("head", 6), ("gift", 7)]) (vs1 := [7]) (g := gName 6) (g1 := gName 7) (tt := tYes) (tt1 := tYes) rfl sc_heads_done.nd rfl rfl (sw_true rfl rfl rfl (by decide +kernel)) (pi_lt (pv 1)) (blkOk_by (own := [("head", 6), ("gift", 7)]) (N := N_heads_done) (sc := defScope s_heads_done) (by decide +kernel)) (by decide) (fun _ _ _ _ _ => pg_name (i := 6) sc_heads_done.nd rfl (Or.inl rfl)) (fun _ _ _ _ _ => pts_nil) (fun _ _ _ _ _ => (pi_listK (K := K) rfl (pe_call G_head_gifts hr_head_gifts (by rfl) T.m_head_gifts T.F_head_gifts.kp T.B_head_gifts .nil pass0 (pa_cons (pv 0) (pa_cons (pv 6) (pa_cons (pv 3) pa_nil)))))) (fun _ _ _ _ _ => pg_name (i := 7) sc_heads_done.nd rfl (Or.inl rfl)) (fun _ _ _ _ _ => pts_nil) (fun _ _ _ _ _ => (pv 7)))
      (pss_one (ps_expr (pe_bm PySem.F.plainAttrs_list PySem.F.slot_list_append PySem.F.type_list_append mt_append (pv 2) (pa_cons (pe_call G_row_with hr_row_with (by rfl) T.m_row_with T.F_row_with.kp T.B_row_with .nil pass0 (pa_cons (pv 4) (pa_cons (pv 5) pa_nil))) pa_nil))))))
      (pss_one (ps_ret (pv 2))))), ?_⟩
    refine seq_op fun N hN => ?_
    walk_at "rs"
    refine ⟨Nat.zero_le _, fun o H1 s1 o0 o1 => hN _ _ ?_⟩
    clear hN N
    have no : ∀ {H' : Hp}, Same H H' → H' o = some (.lst []) → True := fun _ _ => trivial
    refine cut_seq (fun σ H2 => ∃ (ts : List V) (x3 x4 x5 x6 x7 : Option V), σ = [some (.ref ra), some (.ref ua), some (.ref o), x3, x4, x5, x6, x7] ∧ Same H H2 ∧ H2 o = some (.lst ts) ∧ Rows K H2 (L * W) ts (headRs W M hs Xss)) (fun N hN => ?_) ?_
    · let Pv : Nat → L2.St → Hp → Prop := fun i σ H2 => ∃ (ts : List V) (x3 x4 x5 x6 x7 : Option V), σ = [some (.ref ra), some (.ref ua), some (.ref o), x3, x4, x5, x6, x7] ∧ Same H H2 ∧ H2 o = some (.lst ts) ∧ Rows K H2 (L * W) ts ((List.range i).map (headR W M hs Xss))
      have h0 : Pv 0 [some (.ref ra), some (.ref ua), some (.ref o), none, none, none, none, none] H1 := ⟨[], _, _, _, _, _, rfl, s1, o1, .nil⟩
      rcases hra with hra' | hra'
      case' inl => refine .inl ⟨_, rfl, ra, rs, rfl, s1.seq hra', for_it walk_enum Pv h0 (fun i σ H2 _ ⟨_, _, _, _, _, _, _, s, _⟩ => s.seq hra') ?_ ?_⟩
      case' inr => refine .inr ⟨_, rfl, ra, rs, rfl, Same.seqT s1 hra', for_it walk_enumT Pv h0 (fun i σ H2 _ ⟨_, _, _, _, _, _, _, s, _⟩ => Same.seqT s hra') ?_ ?_⟩
      · rintro i x σ H2 H3 hi ⟨ts, x3, x4, x5, x6, x7, rfl, s2, o2, ht⟩ ⟨T0, y1, y2, rfl, hT, rfl, e1, e2⟩
        cases e1
        obtain ⟨r, Xs, er, eXs, hrow⟩ := hrs.get (n := i) (by omega)
        obtain rfl : y2 = .ref r := by
          have e2 : rs[i]? = some y2 := e2
          rw [er] at e2; exact (Option.some.inj e2).symm
        refine g2_at (K := K) (.inl (.inl upd_same)) ?_
        have sT : Same H2 (L2.upd H2 T0 (.tup [.int ((i : Nat) : Int), .ref r])) := same_upd hT
        generalize L2.upd H2 T0 (.tup [.int ((i : Nat) : Int), .ref r]) = H3 at *
        have s3 := Same.trans s2 sT
        obtain ⟨lXs, limX⟩ := lim Xs (List.mem_of_getElem? eXs)
        have eX : Xss.getD i [] = Xs := by rw [List.getD_eq_getElem?_getD, eXs]; rfl
        refine seq_op fun N hN => ?_
        walk_at "rs"
        refine lc2_lt (K := K) (a := ua) (xs := us) (fun Q q => ⟨_, rfl, q⟩) (hua.imp s3.seq (Same.seqT s3)) (fun k H zs => ∃ gs, Ens K H zs gs ∧ GV (L * W) (headG W M (hs.take k) Xss i) gs) (by have := hf.len; omega) (fun k H H' ys s ⟨gs, h1, h2⟩ => ⟨gs, h1.same s, h2⟩) (fun D k H ys zs o hp ⟨gs, h1, h2⟩ => ⟨gs, h1.upd hp, h2⟩) (fun H => ⟨[], .nil, .nil⟩) (fun x => rfl) (fun x y => rfl) (fun x y H Q q => ⟨_, rfl, q⟩) (fun k x H4 hx s4 Q1 q1 => ?_) (fun D H4 ys s4 D0 D1 ⟨gs, g1, g2⟩ => hN _ _ ?_)
        · walk_at "rs"
          obtain ⟨h, eh, hh⟩ := hus.get hx
          have mh := List.mem_of_getElem? eh
          have s14 := Same.trans s3 s4
          refine ⟨ra, x, rs, h, n, i, L, M h, W, Xss, rfl, .inr (Same.seqT s14 hra'), hrs.same s14, lim, lX, hh.same s14, hf.sc h mh, hf.gv h mh, by omega, fun p xs' gs' H5 s5 p0 p1 e1 g1 => q1 p xs' H5 s5 p0 p1 ?_ fun zs ⟨gs, h1, h2⟩ => ⟨gs ++ gs', h1.app e1, ?_⟩⟩
          · rw [e1.len, ← g1.len, List.length_map]
            exact (hf.gv h mh).len
          · obtain ⟨hk, rfl⟩ := List.getElem?_eq_some_iff.mp eh
            have e : headG W M (hs.take (k + 1)) Xss i = headG W M (hs.take k) Xss i ++ hs[k].giv.map (giH W Xss (lookI (scRow (M hs[k]) hs[k].sc Xss i))) := by
              unfold headG
              rw [← List.take_append_getElem hk, List.flatMap_append, List.flatMap_singleton]
            rw [e]
            exact h2.app g1
        · clear hN N
          walk_at "rs"
          have s13 := Same.trans s3 s4
          have o3 := s4 _ _ (sT _ _ o2)
          rw [lus, List.take_length] at g2
          have tl := ht.len
          rw [List.length_map, List.length_range] at tl
          refine ⟨.inl ⟨rfl, _, SqL.of o3⟩, r, D, ys, gs, headG W M hs Xss i, L * W, Xs.map (· * W), rfl, (hrow.same s13).scale W, D1, g1, g2, fun p hp => by
            rw [List.length_map, lXs]
            obtain ⟨a, b⟩ := headG_ok lim lX hf p hp
            exact ⟨a, pow_le b (by decide)⟩, by rw [headG_len]; exact hf.giv, Int.mul_pos limX.1 hf.W0, pow_le (wide_lt limX.2.1 hf.W1) (by decide), ?_, fun t H5 s5 hr5 => ⟨ts, s5 _ _ o3, ?_, _, _, _, _, _, _, rfl, ?_, upd_same, ?_⟩⟩
          · intro Y hY
            obtain ⟨X, hX, rfl⟩ := List.mem_map.mp hY
            exact pow_le (wide_lt (limX.2.2 X hX) hf.W1) (by decide)
          · exact Nat.lt_of_le_of_lt (show _ ≤ 1000000 by omega) (by decide)
          · intro p q e
            have nn : p ≠ o := fun z => by rw [z, o0] at e; cases e
            rw [upd_ne nn]; exact s5 _ _ (s13 _ _ e)
          · have e : (List.range (i + 1)).map (headR W M hs Xss) = (List.range i).map (headR W M hs Xss) ++ [headR W M hs Xss i] := by
              rw [List.range_succ, List.map_append]
              rfl
            rw [e]
            have hr6 : RowOk K H5 t (L * W) (headR W M hs Xss i) := by
              unfold headR
              rw [eX]
              exact hr5
            exact ((ht.same (Same.trans sT (Same.trans s4 s5))).app (.cons hr6 .nil)).upd (s5 _ _ o3)
      · rintro σ H2 ⟨ts, x3, x4, x5, x6, x7, rfl, s2, o2, ht⟩
        rw [lrs] at ht
        exact hN _ _ ⟨ts, _, _, _, _, _, rfl, s2, o2, ht⟩
      · rintro i x σ H2 H3 hi ⟨ts, x3, x4, x5, x6, x7, rfl, s2, o2, ht⟩ ⟨T0, y1, y2, rfl, hT, rfl, e1, e2⟩
        cases e1
        obtain ⟨r, Xs, er, eXs, hrow⟩ := hrs.get (n := i) (by omega)
        obtain rfl : y2 = .ref r := by
          have e2 : rs[i]? = some y2 := e2
          rw [er] at e2; exact (Option.some.inj e2).symm
        refine g2_at (K := K) (.inl (.inl upd_same)) ?_
        have sT : Same H2 (L2.upd H2 T0 (.tup [.int ((i : Nat) : Int), .ref r])) := same_upd hT
        generalize L2.upd H2 T0 (.tup [.int ((i : Nat) : Int), .ref r]) = H3 at *
        have s3 := Same.trans s2 sT
        obtain ⟨lXs, limX⟩ := lim Xs (List.mem_of_getElem? eXs)
        have eX : Xss.getD i [] = Xs := by rw [List.getD_eq_getElem?_getD, eXs]; rfl
        refine seq_op fun N hN => ?_
        walk_at "rs"
        refine lc2_lt (K := K) (a := ua) (xs := us) (fun Q q => ⟨_, rfl, q⟩) (hua.imp s3.seq (Same.seqT s3)) (fun k H zs => ∃ gs, Ens K H zs gs ∧ GV (L * W) (headG W M (hs.take k) Xss i) gs) (by have := hf.len; omega) (fun k H H' ys s ⟨gs, h1, h2⟩ => ⟨gs, h1.same s, h2⟩) (fun D k H ys zs o hp ⟨gs, h1, h2⟩ => ⟨gs, h1.upd hp, h2⟩) (fun H => ⟨[], .nil, .nil⟩) (fun x => rfl) (fun x y => rfl) (fun x y H Q q => ⟨_, rfl, q⟩) (fun k x H4 hx s4 Q1 q1 => ?_) (fun D H4 ys s4 D0 D1 ⟨gs, g1, g2⟩ => hN _ _ ?_)
        · walk_at "rs"
          obtain ⟨h, eh, hh⟩ := hus.get hx
          have mh := List.mem_of_getElem? eh
          have s14 := Same.trans s3 s4
          refine ⟨ra, x, rs, h, n, i, L, M h, W, Xss, rfl, .inl (s14.seq hra'), hrs.same s14, lim, lX, hh.same s14, hf.sc h mh, hf.gv h mh, by omega, fun p xs' gs' H5 s5 p0 p1 e1 g1 => q1 p xs' H5 s5 p0 p1 ?_ fun zs ⟨gs, h1, h2⟩ => ⟨gs ++ gs', h1.app e1, ?_⟩⟩
          · rw [e1.len, ← g1.len, List.length_map]
            exact (hf.gv h mh).len
          · obtain ⟨hk, rfl⟩ := List.getElem?_eq_some_iff.mp eh
            have e : headG W M (hs.take (k + 1)) Xss i = headG W M (hs.take k) Xss i ++ hs[k].giv.map (giH W Xss (lookI (scRow (M hs[k]) hs[k].sc Xss i))) := by
              unfold headG
              rw [← List.take_append_getElem hk, List.flatMap_append, List.flatMap_singleton]
            rw [e]
            exact h2.app g1
        · clear hN N
          walk_at "rs"
          have s13 := Same.trans s3 s4
          have o3 := s4 _ _ (sT _ _ o2)
          rw [lus, List.take_length] at g2
          have tl := ht.len
          rw [List.length_map, List.length_range] at tl
          refine ⟨.inl ⟨rfl, _, SqL.of o3⟩, r, D, ys, gs, headG W M hs Xss i, L * W, Xs.map (· * W), rfl, (hrow.same s13).scale W, D1, g1, g2, fun p hp => by
            rw [List.length_map, lXs]
            obtain ⟨a, b⟩ := headG_ok lim lX hf p hp
            exact ⟨a, pow_le b (by decide)⟩, by rw [headG_len]; exact hf.giv, Int.mul_pos limX.1 hf.W0, pow_le (wide_lt limX.2.1 hf.W1) (by decide), ?_, fun t H5 s5 hr5 => ⟨ts, s5 _ _ o3, ?_, _, _, _, _, _, _, rfl, ?_, upd_same, ?_⟩⟩
          · intro Y hY
            obtain ⟨X, hX, rfl⟩ := List.mem_map.mp hY
            exact pow_le (wide_lt (limX.2.2 X hX) hf.W1) (by decide)
          · exact Nat.lt_of_le_of_lt (show _ ≤ 1000000 by omega) (by decide)
          · intro p q e
            have nn : p ≠ o := fun z => by rw [z, o0] at e; cases e
            rw [upd_ne nn]; exact s5 _ _ (s13 _ _ e)
          · have e : (List.range (i + 1)).map (headR W M hs Xss) = (List.range i).map (headR W M hs Xss) ++ [headR W M hs Xss i] := by
              rw [List.range_succ, List.map_append]
              rfl
            rw [e]
            have hr6 : RowOk K H5 t (L * W) (headR W M hs Xss i) := by
              unfold headR
              rw [eX]
              exact hr5
            exact ((ht.same (Same.trans sT (Same.trans s4 s5))).app (.cons hr6 .nil)).upd (s5 _ _ o3)
      · rintro σ H2 ⟨ts, x3, x4, x5, x6, x7, rfl, s2, o2, ht⟩
        rw [lrs] at ht
        exact hN _ _ ⟨ts, _, _, _, _, _, rfl, s2, o2, ht⟩
    · rintro σ H2 ⟨ts, x3, x4, x5, x6, x7, rfl, s2, o2, ht⟩
      walk_at "rs"
      exact k o ts H2 s2 o0 o2 ht
end
end LK

set_option Elab.async false
set_option linter.all false
set_option maxRecDepth 100000
namespace LK
open PySem PySem.Spec PyProof.Rows L2
local macro_rules | `(tactic| walk_at "rs") => `(tactic| simp only [cxK, cxNK, tCallZ, tAsg, tOp, rI0, rS0, rB0, rI, rU, tUn, rEq, rNe, rIxL, rIxT, rIxS, rSetL, rSlLU, rSlS, rSlU, rCatL, rCatU, rRepL, rIn, tVar, tC, gName, gSub, tIfS, tTest, tB, tAnd, tOr, tNot, tNotV, tAndV, tOrV, tIf, tCall, tCons, tNil, tCB, tDrop, tRet, tRetN, tNext, tLstU, tTupU, tM0, tM1, tPar, tPar3, tAug, ipI, tBM, tBM0, rAppend, rPop, tBreak, tCont, tChain, tSl, tPart, tNoPart, L2.start, List.map, List.length_cons, List.length_nil, List.replicate, List.cons_append, List.nil_append, List.append_nil, List.getElem?_cons_zero, List.getElem?_cons_succ, List.set_cons_zero, List.set_cons_succ, Option.some.injEq, V.int.injEq, V.ref.injEq, V.str.injEq, V.bl.injEq, exists_eq_left', exists_eq_left, exists_and_left, decide_eq_true_eq, List.cons.injEq, and_true, true_and, scal, Bool.not_eq_true', decide_eq_false_iff_not, Nat.zero_add, Nat.reduceAdd, Nat.reduceSub, reduceCtorEq, false_and, exists_false, false_or, or_false, CPow, CPowW, CMul, CDiv, Int.reduceToNat, ↓reduceIte, wipe, sw, List.nil_append, List.singleton_append])
local macro_rules | `(tactic| walk_at "st") => `(tactic| (refine seq_op fun N hN => ?_; walk_at "rs"))
local macro_rules | `(tactic| walk_at "sd") => `(tactic| first | assumption | decide | omega)
local macro_rules | `(tactic| walk_at "rd") => `(tactic| repeat (first
  | refine ⟨_, SqL.of (by assumption), ?_⟩ | refine ⟨_, SqL.of upd_same, ?_⟩ | refine ⟨_, .inl (SqL.of (by assumption)), ?_⟩ | refine ⟨_, (by assumption : _ = some (HO.lst _)), ?_⟩ | refine ⟨_, upd_same, ?_⟩
  | refine ⟨_, rfl, ?_⟩ | refine And.intro (by walk_at "sd") ?_))

theorem dp_kitD {K : PySem.W.Frag} {H : Hp} {v : V} {d : PyData} (h : Dp K H v d) : PySem.W.kitOne K (.type (tyN d)) (.type "dict") = some false := by
  refine kit_ty ?_
  cases h <;> (simp only [tyN]; decide +kernel)
theorem call_isiDT3 {X : Cx} : CallR X (.builtin "isinstance") (fun xs H Q => ∃ x tp d, xs = [x, .ref tp] ∧ H tp = some (.tup [.ty "list", .ty "tuple", .ty "dict"]) ∧ Dp X.K H x d ∧ Q (.bl (isTy "list" d || isTy "tuple" d)) H) := cr_imp call_isiT fun xs H Q h => by
  obtain ⟨x, tp, d, rfl, ht, hd, q⟩ := h
  refine ⟨x, tp, _, .type (tyN d), [.type "list", .type "tuple", .type "dict"], _, rfl, ht, .cons (.ty _) (.cons (.ty _) (.cons (.ty _) .nil)), dp_ty hd, ?_, q⟩
  have h1 := dp_kit hd (T := "list") (by simp)
  have h2 := dp_kit hd (T := "tuple") (by simp)
  have h3 := dp_kitD hd
  unfold PySem.W.kitAny PySem.W.kitAny PySem.W.kitAny PySem.W.kitAny
  rw [h1, h2, h3]
  cases isTy "list" d <;> cases isTy "tuple" d <;> rfl
theorem dep_tup (ds : List PyData) : dep (.tuple ds) = depAll ds + 1 := rfl
theorem dep_lst (ds : List PyData) : dep (.list ds) = depAll ds + 1 := rfl
theorem depAll_get : ∀ {ds : List PyData} {i : Nat} {d : PyData}, ds[i]? = some d → dep d ≤ depAll ds
  | [], _, _, e => by simp at e
  | a :: r, 0, _, e => by simp at e; subst e; exact Nat.le_max_left _ _
  | a :: r, i + 1, _, e => Nat.le_trans (depAll_get (ds := r) (i := i) (by simpa using e)) (Nat.le_max_right _ _)
theorem dpa_get4 {K : PySem.W.Frag} {H : Hp} : ∀ {vs : List V} {ds : List PyData} {i : Nat} {v : V}, DpAll K H vs ds → vs[i]? = some v → ∃ d, ds[i]? = some d ∧ Dp K H v d
  | _, _, _, _, .nil, e => by simp at e
  | _, _, 0, _, .cons r _, e => by simp at e; subst e; exact ⟨_, rfl, r⟩
  | _, _, i + 1, _, .cons _ t, e => by
    obtain ⟨d, h1, h2⟩ := dpa_get4 (i := i) t (by simpa using e)
    exact ⟨d, by simpa using h1, h2⟩
theorem dpa_len4 {K : PySem.W.Frag} {H : Hp} : ∀ {vs : List V} {ds : List PyData}, DpAll K H vs ds → vs.length = ds.length
  | _, _, .nil => rfl
  | _, _, .cons _ t => by simp [dpa_len4 t]
theorem ok_get4 : ∀ {ds : List PyData} {i : Nat} {d : PyData}, okAll ds = true → ds[i]? = some d → okD d = true
  | [], _, _, _, e => by simp at e
  | a :: r, 0, _, h, e => by
    simp at e; subst e
    unfold okAll at h; rw [Bool.and_eq_true] at h; exact h.1
  | a :: r, i + 1, _, h, e => by
    unfold okAll at h; rw [Bool.and_eq_true] at h
    exact ok_get4 (i := i) h.2 (by simpa using e)
theorem isTy_leaf {d : PyData} (h1 : ∀ ds, d ≠ .list ds) (h2 : ∀ ds, d ≠ .tuple ds) : isTy "list" d = false ∧ isTy "tuple" d = false := by
  cases d <;> simp [isTy] <;> first | exact absurd rfl (h1 _) | exact absurd rfl (h2 _)
theorem walk_zipT {K : PySem.W.Frag} {a b : Addr} {xs ys : List V} {n : Nat} (hx : xs.length = n) (hy : ys.length = n) : Walk (RZ.ItzT K a b) n (fun H => SqT K H a xs ∧ SqT K H b ys) (YPair (fun i => xs[i]?) (fun i => ys[i]?)) := by
  refine ⟨fun i _ hi q => ?_, fun _ q => ⟨xs, ys, q.1, q.2, by omega⟩, fun i H v H' _ q y => ?_⟩
  · have h1 : i < xs.length := by omega
    have h2 : i < ys.length := by omega
    exact ⟨xs, ys, xs[i], ys[i], q.1, q.2, by simp [h1], by simp [h2]⟩
  · obtain ⟨T, x, z, h1, h2, h3, h4, h5⟩ := y
    exact ⟨T, x, z, h1, h2, h3, h4 xs q.1, h5 ys q.2⟩
section
variable {P : Program} {w : World} {K : PySem.W.Frag} {mg : Str → Option Value} {base : Heap}
theorem like_step (T : Txt w K mg) (n : Nat) (ih : ∀ m, m + 1 = n → FnOk P w K mg base CX0 (m + 1) T.a__law_like T.d__law_like ["found", "due"] (sp__law_like K m)) : FnOk P w K mg base CX0 (n + 1) T.a__law_like T.d__law_like ["found", "due"] (sp__law_like K n) := by
  refine T.F__law_like.ok sc__law_like (fun vs H Q E h => ?_) (fun cdv A outer s H vs Q E hr h => ?_)
  · obtain ⟨v, u, d, rfl, _⟩ := h
    rfl
  · obtain ⟨v, u, d, rfl, hv, hu, hok, hdep, k⟩ := h
    have leaf : isTy "list" d = false ∧ isTy "tuple" d = false ∨ (∃ ds, (d = .list ds ∨ d = .tuple ds)) := by
      cases d <;> first | exact .inr ⟨_, .inl rfl⟩ | exact .inr ⟨_, .inr rfl⟩ | exact .inl ⟨rfl, rfl⟩
    rcases leaf with ⟨el, et⟩ | ⟨ds, hds⟩
    · refine ⟨_, (pss_cons (ps_if (pt_val (pe_callB call_isiDT (by rfl) T.n_isinstance (by decide +kernel) (pa_cons (pv 1) (pa_cons (pe_tupU (pa_cons (pe_bltn (v := .ty "list") (u := .type "list") (by rfl) T.n_list (by decide +kernel) rfl) (pa_cons (pe_bltn (v := .ty "tuple") (u := .type "tuple") (by rfl) T.n_tuple (by decide +kernel) rfl) pa_nil))) pa_nil)))) pss_never pss_nil) (pss_cons (ps_if (PW.pt (pw_or (pt_cmpR op_isN (pv 1) pe_non (nomark _)) (pw_or1 (pt_cmpR op_isN (pv 0) pe_non (nomark _))))) (pss_one (ps_ret (pe_and (pe_cmpR op_isN (pv 1) pe_non (nomark _)) (pe_one (pe_cmpR op_isN (pv 0) pe_non (nomark _)))))) pss_nil)
      (pss_cons (ps_if (PW.pt (pw_or (pt_val (pe_callB call_isiDT3 (by rfl) T.n_isinstance (by decide +kernel) (pa_cons (pv 0) (pa_cons (pe_tupU (pa_cons (pe_bltn (v := .ty "list") (u := .type "list") (by rfl) T.n_list (by decide +kernel) rfl) (pa_cons (pe_bltn (v := .ty "tuple") (u := .type "tuple") (by rfl) T.n_tuple (by decide +kernel) rfl) (pa_cons (pe_bltn (v := .ty "dict") (u := .type "dict") (by rfl) T.n_dict (by decide +kernel) rfl) pa_nil)))) pa_nil)))) (pw_or1 (pt_cmpR op_neB (pe_callB (call_isiDK (K := K) rfl) (by rfl) T.n_isinstance (by decide +kernel) (pa_cons (pv 0) (pa_cons (pe_bltn (v := .ty "bool") (u := .type "bool") (by rfl) T.n_bool (by decide +kernel) rfl) pa_nil))) (pe_callB (call_isiDK (K := K) rfl) (by rfl) T.n_isinstance (by decide +kernel) (pa_cons (pv 1) (pa_cons (pe_bltn (v := .ty "bool") (u := .type "bool") (by rfl) T.n_bool (by decide +kernel) rfl) pa_nil))) (nomark _))))) (pss_one (ps_ret pe_bl)) pss_nil)
      (pss_cons (ps_if (PW.pt (pw_or (pt_cmpR op_neB (pe_callB (call_isiDK (K := K) rfl) (by rfl) T.n_isinstance (by decide +kernel) (pa_cons (pv 0) (pa_cons (pe_bltn (v := .ty "str") (u := .type "str") (by rfl) T.n_str (by decide +kernel) rfl) pa_nil))) (pe_callB (call_isiDK (K := K) rfl) (by rfl) T.n_isinstance (by decide +kernel) (pa_cons (pv 1) (pa_cons (pe_bltn (v := .ty "str") (u := .type "str") (by rfl) T.n_str (by decide +kernel) rfl) pa_nil))) (nomark _)) (pw_or1 (pt_cmpR op_neB (pe_callB (call_isiDK (K := K) rfl) (by rfl) T.n_isinstance (by decide +kernel) (pa_cons (pv 0) (pa_cons (pe_bltn (v := .ty "int") (u := .type "int") (by rfl) T.n_int (by decide +kernel) rfl) pa_nil))) (pe_callB (call_isiDK (K := K) rfl) (by rfl) T.n_isinstance (by decide +kernel) (pa_cons (pv 1) (pa_cons (pe_bltn (v := .ty "int") (u := .type "int") (by rfl) T.n_int (by decide +kernel) rfl) pa_nil))) (nomark _))))) (pss_one (ps_ret pe_bl)) pss_nil)
      (pss_one (ps_ret (pe_cmpR op_eq (pv 0) (pv 1) (nomark _)))))))), ?_⟩
      refine seq_op fun N hN => ?_
      walk_at "rs"
      refine ⟨by decide, fun p H1 s1 h0 h1 => ⟨_, p, ⟨rfl, rfl⟩, h1, _, dp_same s1 hu, iteFF (by rw [el, et]; decide) (hN _ _ ?_)⟩⟩
      clear hN N h1
      have hv1 := dp_same s1 hv
      have hu1 := dp_same s1 hu
      have k1 := fun H' (s : Same H1 H') => k H' (Same.trans s1 s)
      refine seq_op fun N hN => ?_
      walk_at "rs"
      by_cases cn : d = .none
      · subst cn
        cases hu
        cases hv
        exact iteTT rfl (iteTT rfl (k1 H1 (Same.refl _)))
      · have vn : v ≠ .non := fun e => by subst e; cases hv; exact cn rfl
        have un : u ≠ .non := fun e => by subst e; cases hu; exact cn rfl
        refine iteFF un (iteFF vn (hN _ _ ?_))
        clear hN N
        refine seq_op fun N hN => ?_
        walk_at "rs"
        refine ⟨by decide, fun p2 H2 s2 h02 h12 => ⟨_, p2, ⟨rfl, rfl⟩, h12, _, dp_same s2 hv1, iteFF (by rw [el, et]; decide) ?_⟩⟩
        refine ⟨_, "bool", ⟨rfl, rfl⟩, _, dp_same s2 hv1, by simp, _, "bool", ⟨rfl, rfl⟩, _, dp_same s2 hu1, by simp, iteFF (by simp) (hN _ _ ?_)⟩
        clear hN N
        refine seq_op fun N hN => ?_
        walk_at "rs"
        refine ⟨_, "str", ⟨rfl, rfl⟩, _, dp_same s2 hv1, by simp, _, "str", ⟨rfl, rfl⟩, _, dp_same s2 hu1, by simp, iteFF (by simp) ?_⟩
        refine ⟨_, "int", ⟨rfl, rfl⟩, _, dp_same s2 hv1, by simp, _, "int", ⟨rfl, rfl⟩, _, dp_same s2 hu1, by simp, iteFF (by simp) (hN _ _ ?_)⟩
        clear hN N
        walk_at "rs"
        have kk := k1 H2 s2
        have fin : scal v u = true ∧ Q (.bl (decide (v = u))) H2 := by
          cases hv with
          | non => exact absurd rfl cn
          | bl b => cases hu; exact ⟨rfl, by rw [decide_eq_true rfl]; exact kk⟩
          | int b => cases hu; exact ⟨rfl, by rw [decide_eq_true rfl]; exact kk⟩
          | str b => cases hu; exact ⟨rfl, by rw [decide_eq_true rfl]; exact kk⟩
          | lst _ _ => simp [isTy] at el
          | tup _ _ => simp [isTy] at et
        exact fin
    · obtain ⟨m, rfl⟩ : ∃ m, n = m + 1 := by
        rcases hds with rfl | rfl
        · rw [dep_lst] at hdep; exact ⟨n - 1, by omega⟩
        · rw [dep_tup] at hdep; exact ⟨n - 1, by omega⟩
      have hr__law_like : Room (m + 1) _ := hr
      have G__law_like := ih m rfl
      have hdm : depAll ds ≤ m := by
        rcases hds with rfl | rfl
        · rw [dep_lst] at hdep; omega
        · rw [dep_tup] at hdep; omega
      refine ⟨_, (pss_cons (ps_if (pt_val (pe_callB call_isiDT (by rfl) T.n_isinstance (by decide +kernel) (pa_cons (pv 1) (pa_cons (pe_tupU (pa_cons (pe_bltn (v := .ty "list") (u := .type "list") (by rfl) T.n_list (by decide +kernel) rfl) (pa_cons (pe_bltn (v := .ty "tuple") (u := .type "tuple") (by rfl) T.n_tuple (by decide +kernel) rfl) pa_nil))) pa_nil)))) (pss_cons (ps_if (PW.pt (pw_or (pt_cmpR op_neB (pe_callB (call_isiDK (K := K) rfl) (by rfl) T.n_isinstance (by decide +kernel) (pa_cons (pv 0) (pa_cons (pe_bltn (v := .ty "list") (u := .type "list") (by rfl) T.n_list (by decide +kernel) rfl) pa_nil))) (pe_callB (call_isiDK (K := K) rfl) (by rfl) T.n_isinstance (by decide +kernel) (pa_cons (pv 1) (pa_cons (pe_bltn (v := .ty "list") (u := .type "list") (by rfl) T.n_list (by decide +kernel) rfl) pa_nil))) (nomark _)) (pw_or1 (pt_cmpR op_neB (pe_callB (call_isiDK (K := K) rfl) (by rfl) T.n_isinstance (by decide +kernel) (pa_cons (pv 0) (pa_cons (pe_bltn (v := .ty "tuple") (u := .type "tuple") (by rfl) T.n_tuple (by decide +kernel) rfl) pa_nil))) (pe_callB (call_isiDK (K := K) rfl) (by rfl) T.n_isinstance (by decide +kernel) (pa_cons (pv 1) (pa_cons (pe_bltn (v := .ty "tuple") (u := .type "tuple") (by rfl) T.n_tuple (by decide +kernel) rfl) pa_nil))) (nomark _))))) (pss_one (ps_ret pe_bl)) pss_nil)
      (pss_one (ps_ret (pe_and (pe_cmpR op_eqI (pe_callB call_lenD (by rfl) T.n_len (by decide +kernel) (pa_cons (pv 0) pa_nil)) (pe_callB call_lenD (by rfl) T.n_len (by decide +kernel) (pa_cons (pv 1) pa_nil)) (nomark _)) (pe_one (pe_callB (cr_all rfl) (by rfl) T.n_all (by decide +kernel) (pa_cons (pe_lc (own := [("one", 2), ("two", 3)]) (g := gTup K 2 (gCons (gName 2) (gCons (gName 3) (gNil)))) (tt := tYes) rfl sc__law_like.nd (RZ.pi_zipA (by rfl) T.n_zip (pa_cons (pv 0) (pa_cons (pv 1) pa_nil))) (blkOk_by (own := [("one", 2), ("two", 3)]) (N := N__law_like) (sc := defScope s__law_like) (by decide +kernel)) (fun _ _ _ _ _ => by exact (pg_tup rfl (pgs_cons (pg_name (i := 2) sc__law_like.nd rfl (Or.inl rfl)) (pgs_cons (pg_name (i := 3) sc__law_like.nd rfl (Or.inl rfl)) pgs_nil)))) (fun _ _ _ _ _ => pts_nil) (fun _ _ _ _ _ => (pe_call G__law_like hr__law_like (by rfl) T.m__law_like T.F__law_like.kp T.B__law_like .nil pass0 (pa_cons (pv 2) (pa_cons (pv 3) pa_nil))))) pa_nil))))))) pss_nil) pss_never), ?_⟩
      refine seq_op fun N hN => ?_
      clear hN
      walk_at "rs"
      refine ⟨by decide, fun p H1 s1 h0 h1 => ⟨_, p, ⟨rfl, rfl⟩, h1, _, dp_same s1 hu, iteTT (by rcases hds with rfl | rfl <;> simp [isTy]) ?_⟩⟩
      clear h1
      have hv1 := dp_same s1 hv
      have hu1 := dp_same s1 hu
      have k1 := fun H' (s : Same H1 H') => k H' (Same.trans s1 s)
      refine seq_op fun N2 hN2 => ?_
      walk_at "rs"
      refine ⟨_, "list", ⟨rfl, rfl⟩, _, hv1, by simp, _, "list", ⟨rfl, rfl⟩, _, hu1, by simp, iteFF (by simp) ?_⟩
      refine ⟨_, "tuple", ⟨rfl, rfl⟩, _, hv1, by simp, _, "tuple", ⟨rfl, rfl⟩, _, hu1, by simp, iteFF (by simp) (hN2 _ _ ?_)⟩
      clear hN2 N2
      walk_at "rs"
      have gm : ∀ (x : V) (σ0 : L2.St) (H0 : Hp) (Q0 Q1 : L2.St → Hp → Prop), (∀ σ2 H2, Q0 σ2 H2 → Q1 σ2 H2) → gTup K 2 (gCons (gName 2) (gCons (gName 3) gNil)) x σ0 H0 Q0 → gTup K 2 (gCons (gName 2) (gCons (gName 3) gNil)) x σ0 H0 Q1 :=
        fun x σ0 H0 Q0 Q1 h ⟨a, xs, e1, e2, e3, v, r, e4, v2, r2, e5, e6, q⟩ => ⟨a, xs, e1, e2, e3, v, r, e4, v2, r2, e5, e6, h _ _ q⟩
      have turn : ∀ {xs ys : List V} (hx : DpAll K H1 xs ds) (hy : DpAll K H1 ys ds) (i : Nat) (x : V) (H2 H' : Hp), Same H1 H2 → YPair (fun i => xs[i]?) (fun i => ys[i]?) i H2 x H' →
          gTup K 2 (gCons (gName 2) (gCons (gName 3) gNil)) x (wipe [some v, some u, none, none] [2, 3]) H' fun σ2 H3 => Same H2 H3 ∧ wipe σ2 [2, 3] = wipe [some v, some u, none, none] [2, 3] ∧ ∀ Q2 : V → Hp → Prop, (∀ H4, Same H3 H4 → Q2 (.bl true) H4) → tCall (sp__law_like K m) [] E0 (tCons (tVar 2) (tCons (tVar 3) tNil)) σ2 H3 Q2 := by
        rintro xs ys hx hy i x H2 H' s2 ⟨T0, y1, y2, rfl, hT, rfl, h1, h2⟩
        obtain ⟨d1, e1, hd1⟩ := dpa_get4 hx h1
        obtain ⟨d2, e2, hd2⟩ := dpa_get4 hy h2
        rw [e1] at e2
        cases e2
        have s3 := Same.trans s2 (same_upd (o := .tup [y1, y2]) hT)
        refine ⟨T0, [y1, y2], rfl, .inl (.inl upd_same), rfl, y1, [y2], rfl, y2, [], rfl, rfl, same_upd hT, rfl, fun Q2 hq => ?_⟩
        refine ⟨_, rfl, _, rfl, y1, y2, d1, rfl, dp_same s3 hd1, dp_same s3 hd2, ?_, Nat.le_trans (depAll_get e1) hdm, hq⟩
        refine ok_get4 ?_ e1
        rcases hds with rfl | rfl
        · exact (okD_lst.mp hok).2
        · exact (okD_tup.mp hok).2
      have fin : ∀ {D : Addr} {H' : Hp} {n : Nat}, Same H1 H' → H' D = some (.lst ((List.range n).map fun _ => V.bl true)) → rAll K [V.ref D] H' Q := by
        intro D H' n s h
        refine ⟨D, (List.range n).map fun _ => true, rfl, SqL.of (by rw [h, List.map_map]; rfl), ?_⟩
        rw [all_map_id]
        have e : ((List.range n).all fun _ => true) = true := by simp
        rw [e]
        exact k1 H' s
      refine ⟨_, hv1, .inl ⟨ds, hds, _, hu1, .inl ⟨ds, hds, iteTT rfl ?_⟩⟩⟩
      rcases hds with rfl | rfl
      · cases hv1 with
        | @lst a xs _ ha hda =>
          cases hu1 with
          | @lst b ys _ hb hdb =>
            have lx := dpa_len4 hda
            have ly := dpa_len4 hdb
            have small : ds.length ≤ 1000000 := Nat.le_trans (okD_lst.mp hok).1 (by decide)
            exact ⟨_, rfl, _, rfl, a, b, xs, ys, rfl, .inl ⟨ha, hb, fun D hD => lc_pure (walk_zip (n := ds.length) (by omega)) hD small (fun _ => .bl true) (fun H s => ⟨Same.seq s ha, Same.seq s hb⟩) (fun i x H2 H' _ s2 y => turn hda hdb i x H2 H' s2 y) gm fun H' s h => fin s h⟩⟩
      · cases hv1 with
        | @tup a xs _ ha hda =>
          cases hu1 with
          | @tup b ys _ hb hdb =>
            have lx := dpa_len4 hda
            have ly := dpa_len4 hdb
            have small : ds.length ≤ 1000000 := Nat.le_trans (okD_tup.mp hok).1 (by decide)
            exact ⟨_, rfl, _, rfl, a, b, xs, ys, rfl, .inr ⟨ha, hb, fun D hD => lc_pure (walk_zipT (n := ds.length) lx ly) hD small (fun _ => .bl true) (fun H s => ⟨Same.seqT s ha, Same.seqT s hb⟩) (fun i x H2 H' _ s2 y => turn hda hdb i x H2 H' s2 y) gm fun H' s h => fin s h⟩⟩
theorem ok__law_like (T : Txt w K mg) : ∀ n : Nat, FnOk P w K mg base CX0 (n + 1) T.a__law_like T.d__law_like ["found", "due"] (sp__law_like K n) := by
  intro n
  induction n with
  | zero => exact like_step T 0 fun m e => by omega
  | succ n ih =>
    refine like_step T (n + 1) fun m e => ?_
    obtain rfl : m = n := by omega
    exact ih
end
end LK

set_option Elab.async false
set_option linter.all false
set_option maxRecDepth 100000
namespace LK
open PySem PySem.Spec PyProof.Rows L2
local macro_rules | `(tactic| walk_at "rs") => `(tactic| simp only [cxK, cxNK, tCallZ, tAsg, tOp, rI0, rS0, rB0, rI, rU, tUn, rEq, rNe, rIxL, rIxT, rIxS, rSetL, rSlLU, rSlS, rSlU, rCatL, rCatU, rRepL, rIn, tVar, tC, gName, gSub, tIfS, tTest, tB, tAnd, tOr, tNot, tNotV, tAndV, tOrV, tIf, tCall, tCons, tNil, tCB, tDrop, tRet, tRetN, tNext, tLstU, tTupU, tM0, tM1, tPar, tPar3, tAug, ipI, tBM, tBM0, rAppend, rPop, tBreak, tCont, tChain, tSl, tPart, tNoPart, L2.start, List.map, List.length_cons, List.length_nil, List.replicate, List.cons_append, List.nil_append, List.append_nil, List.getElem?_cons_zero, List.getElem?_cons_succ, List.set_cons_zero, List.set_cons_succ, Option.some.injEq, V.int.injEq, V.ref.injEq, V.str.injEq, V.bl.injEq, exists_eq_left', exists_eq_left, exists_and_left, decide_eq_true_eq, List.cons.injEq, and_true, true_and, scal, Bool.not_eq_true', decide_eq_false_iff_not, Nat.zero_add, Nat.reduceAdd, Nat.reduceSub, reduceCtorEq, false_and, exists_false, false_or, or_false, CPow, CPowW, CMul, CDiv, Int.reduceToNat, ↓reduceIte, wipe, sw, List.nil_append, List.singleton_append])
local macro_rules | `(tactic| walk_at "st") => `(tactic| (refine seq_op fun N hN => ?_; walk_at "rs"))
local macro_rules | `(tactic| walk_at "sd") => `(tactic| first | assumption | decide | omega)
local macro_rules | `(tactic| walk_at "rd") => `(tactic| repeat (first
  | refine ⟨_, SqL.of (by assumption), ?_⟩ | refine ⟨_, SqL.of upd_same, ?_⟩ | refine ⟨_, .inl (SqL.of (by assumption)), ?_⟩ | refine ⟨_, (by assumption : _ = some (HO.lst _)), ?_⟩ | refine ⟨_, upd_same, ?_⟩
  | refine ⟨_, rfl, ?_⟩ | refine And.intro (by walk_at "sd") ?_))

section
variable {P : Program} {w : World} {K : PySem.W.Frag} {mg : Str → Option Value} {base : Heap}
def sp_lights (K : PySem.W.Frag) : Sp := fun vs H Q _ => ∃ (b c : Addr) (N m : Nat) (n : Int), vs = [.ref b, .int 2, .int n, .int (m : Int)] ∧ Bag (N + 1 + 6 * m) H b c ∧ 0 < n ∧ n < 1000 ∧ m ≤ 5 ∧
  ∀ (p : Addr) (xs : List V) (es : List Sc) H', Bag N H' b c → Kp b H H' → H p = none → H' p = some (.lst xs) → Tris K H' xs es → es.length ≤ m → (∀ q ∈ es, (q.1.1 : Int) < n ∧ (q.1.2 : Int) < n ∧ okB 2000 97 q.2) → Q (.ref p) H'
theorem ok__law_lights (T : Txt w K mg) : FnOk P w K mg base CX0 4 T.a__law_lights T.d__law_lights ["bag", "many", "width", "most"] (sp_lights K) := by
  refine T.F__law_lights.ok sc__law_lights (fun vs H Q E h => ?_) (fun cdv A outer s H vs Q E hr h => ?_)
  · obtain ⟨b, c, N, m, n, rfl, _⟩ := h
    rfl
  · obtain ⟨b, c, N0, m, n, rfl, B, n0, n1, m5, k⟩ := h
    have hr__law_draw : Room 1 _ := hr.mono (by decide)
    have G__law_draw := ok__law_draw (P := P) (base := base) T
    have hr__law_light : Room 3 _ := hr
    have G__law_light := ok__law_light (P := P) (base := base) T
    refine ⟨_, (pss_cons (ps_set (i := 4) sc__law_lights.nd rfl (Or.inl rfl) (pe_lstU pa_nil))
      (pss_cons (ps_for PassesOwn.never rfl (pi_range1 (by rfl) T.n_range (pa_cons (pe_call G__law_draw hr__law_draw (by rfl) T.m__law_draw T.F__law_draw.kp T.B__law_draw .nil pass0 (pa_cons (pv 0) (pa_cons (pe_op op_add (pv 3) pe_int) pa_nil))) pa_nil)) (pg_name (i := 5) sc__law_lights.nd rfl (Or.inl rfl)) (pss_one (ps_expr (pe_bm PySem.F.plainAttrs_list PySem.F.slot_list_append PySem.F.type_list_append mt_append (pv 4) (pa_cons (pe_op op_catU (pe_callTy call_tupleN (by rfl) T.n_tuple (by decide +kernel) (pa_cons (pe_lc (own := [("j", 6)]) (g := gName 6) (tt := tYes) rfl sc__law_lights.nd (pi_range1 (by rfl) T.n_range (pa_cons (pv 1) pa_nil)) (blkOk_by (own := [("j", 6)]) (N := N__law_lights) (sc := defScope s__law_lights) (by decide +kernel)) (fun _ _ _ _ _ => pg_name (i := 6) sc__law_lights.nd rfl (Or.inl rfl)) (fun _ _ _ _ _ => pts_nil) (fun _ _ _ _ _ => (pe_call G__law_draw hr__law_draw (by rfl) T.m__law_draw T.F__law_draw.kp T.B__law_draw .nil pass0 (pa_cons (pv 0) (pa_cons (pv 2) pa_nil))))) pa_nil)) (pe_tupU (pa_cons (pe_call G__law_light hr__law_light (by rfl) T.m__law_light T.F__law_light.kp T.B__law_light .nil pass0 (pa_cons (pv 0) pa_nil)) pa_nil))) pa_nil)))))
      (pss_one (ps_ret (pv 4))))), ?_⟩
    refine seq_op fun N hN => ?_
    walk_at "rs"
    refine ⟨by decide, fun p H1 s1 p0 p1 => hN _ _ ?_⟩
    clear hN N
    have B1 := B.same s1
    have pb := new_ne B p0
    refine cut_seq (fun σ H2 => ∃ (x5 x6 : Option V) (xs : List V) (es : List Sc), σ = [some (.ref b), some (.int 2), some (.int n), some (.int (m : Int)), some (.ref p), x5, x6] ∧ Bag N0 H2 b c ∧ Kp b H H2 ∧ H2 p = some (.lst xs) ∧ Tris K H2 xs es ∧ es.length ≤ m ∧ ∀ q ∈ es, (q.1.1 : Int) < n ∧ (q.1.2 : Int) < n ∧ okB 2000 97 q.2) (fun N hN => ?_) ?_
    · walk_at "rs"
      refine ⟨_, rfl, _, rfl, (m : Int), 1, rfl, rfl, b, c, (m : Int) + 1, N0 + 6 * m, rfl, B1.le (by omega), by omega, by omega, fun r H2 r0 r1 B2 K2 => ⟨r, rfl, by omega, by omega, for_range (lo := 0) (n := r.toNat) (fun i σ H3 => ∃ (x5 x6 : Option V) (xs : List V) (es : List Sc), σ = [some (.ref b), some (.int 2), some (.int n), some (.int (m : Int)), some (.ref p), x5, x6] ∧ Bag (N0 + (6 * m - 6 * i)) H3 b c ∧ Kp b H H3 ∧ H3 p = some (.lst xs) ∧ Tris K H3 xs es ∧ es.length = i ∧ ∀ q ∈ es, (q.1.1 : Int) < n ∧ (q.1.2 : Int) < n ∧ okB 2000 97 q.2) ⟨_, _, [], [], rfl, B2, Same.trans (Kp.of s1) K2, K2.get pb p1, .nil, rfl, fun q hq => absurd hq (by simp)⟩ ?_ ?_⟩⟩
      · rintro i σ H3 hi ⟨x5, x6, xs, es, rfl, B3, K3, h3, he, hl, hw⟩
        have hi3 : i < m := by omega
        walk_at "rs"
        have B3' : Bag ((N0 + (6 * m - 6 * (i + 1)) + 4) + (2 : Int).toNat * 1) H3 b c := B3.le (show _ + 2 ≤ _ by omega)
        refine ⟨.inl ⟨rfl, _, SqL.of h3⟩, ⟨_, rfl, 2, rfl, by decide, by decide, fun D hD => lc_draw (n := (2 : Int).toNat) walk_range (fun _ v => ∃ j : Nat, v = V.int (j : Int) ∧ (j : Int) < n) (fun _ _ _ _ h => h) hD B3' (by decide) (fun _ _ _ _ y => y.1) (fun _ _ => trivial) (fun x H4 M K4 B4 Q2 hq => ?_) fun H4 ys B4 K4 hD4 hl4 hy4 => ?_⟩⟩
        · exact ⟨_, rfl, _, rfl, b, c, n, M, rfl, B4, n0, by omega, fun r1 H5 r10 r11 B5 K5 => hq _ _ B5 K5 ⟨r1.toNat, by rw [Int.toNat_of_nonneg r10], by rw [Int.toNat_of_nonneg r10]; exact r11⟩⟩
        · obtain ⟨v, v2, rfl⟩ : ∃ v v2, ys = [v, v2] := by
            rcases ys with _ | ⟨v, _ | ⟨v2, _ | ⟨v3, r⟩⟩⟩
            · simp at hl4
            · simp at hl4
            · exact ⟨v, v2, rfl⟩
            · simp at hl4
          obtain ⟨j, rfl, jn⟩ := hy4 v List.mem_cons_self
          obtain ⟨j2, rfl, jn2⟩ := hy4 v2 (List.mem_cons_of_mem _ List.mem_cons_self)
          refine ⟨D, rfl, _, SqL.of hD4, fun q5 H5 s5 q50 q51 => ⟨b, c, N0 + (6 * m - 6 * (i + 1)), rfl, B4.same s5, fun t f H6 okf t0 t1 B6 K6 => ⟨by decide, fun p7 H7 s7 _ h7 => ?_⟩⟩⟩
          have B5 := B4.same s5
          have q5b := new_ne B4 q50
          have h36 := K6.get (new_ne B4 q50) q51
          refine ⟨_, .inl (.inl (s7 _ _ h36)), _, .inl (.inl h7), (show 2 + 1 ≤ sizeLine by decide), fun q8 H8 s8 h8 => ?_⟩
          have K38 : Kp b H3 H8 := Same.trans K4 (Same.trans (Kp.of s5) (Same.trans K6 (Same.trans (Kp.of s7) (Kp.of s8))))
          have h38 := K38.get pb h3
          have pc : c ≠ p := fun e => by
            obtain ⟨xc, ec⟩ := B.at2
            rw [← e, ec] at p0; cases p0
          have B8 := ((B6.same s7).same s8).upd (o := .lst (xs ++ [.ref q8])) (Ne.symm pb) pc
          have he8 := he.kp B3 K38
          have tb8 : Pr K H8 t f.1 f.2 := .inl (.inl (s8 _ _ (s7 _ _ t1)))
          refine ⟨xs, h38, ?_, _, _, ⟨rfl, rfl⟩, B8, Kp.upd2 (Same.trans K3 K38) p0, _, upd_same, es ++ [((j, j2), f)], (he8.upd h38).app (.cons (seqT_upd h38 h8) (seqT_upd h38 tb8) .nil), by rw [List.length_append, hl]; rfl, fun q hq => ?_⟩
          · have := he.len
            exact Nat.lt_of_le_of_lt (show _ ≤ 1000000 by omega) (by decide)
          · rcases List.mem_append.mp hq with hq | hq
            · exact hw q hq
            · obtain rfl := List.mem_singleton.mp hq
              exact ⟨jn, jn2, okf⟩
      · rintro σ H3 ⟨x5, x6, xs, es, rfl, B3, K3, h3, he, hl, hw⟩
        exact hN _ _ ⟨_, _, xs, es, rfl, B3.le (by omega), K3, h3, he, by omega, hw⟩
    · rintro σ H2 ⟨x5, x6, xs, es, rfl, B2, K2, h2, h3, h4, h5⟩
      walk_at "rs"
      exact k p xs es H2 B2 K2 p0 h2 h3 h4 h5
end
end LK

set_option Elab.async false
set_option linter.all false
set_option maxRecDepth 100000
namespace LK
open PySem PySem.Spec PyProof.Rows L2
local macro_rules | `(tactic| walk_at "rs") => `(tactic| simp only [cxK, cxNK, tCallZ, tAsg, tOp, rI0, rS0, rB0, rI, rU, tUn, rEq, rNe, rIxL, rIxT, rIxS, rSetL, rSlLU, rSlS, rSlU, rCatL, rCatU, rRepL, rIn, tVar, tC, gName, gSub, tIfS, tTest, tB, tAnd, tOr, tNot, tNotV, tAndV, tOrV, tIf, tCall, tCons, tNil, tCB, tDrop, tRet, tRetN, tNext, tLstU, tTupU, tM0, tM1, tPar, tPar3, tAug, ipI, tBM, tBM0, rAppend, rPop, tBreak, tCont, tChain, tSl, tPart, tNoPart, L2.start, List.map, List.length_cons, List.length_nil, List.replicate, List.cons_append, List.nil_append, List.append_nil, List.getElem?_cons_zero, List.getElem?_cons_succ, List.set_cons_zero, List.set_cons_succ, Option.some.injEq, V.int.injEq, V.ref.injEq, V.str.injEq, V.bl.injEq, exists_eq_left', exists_eq_left, exists_and_left, decide_eq_true_eq, List.cons.injEq, and_true, true_and, scal, Bool.not_eq_true', decide_eq_false_iff_not, Nat.zero_add, Nat.reduceAdd, Nat.reduceSub, reduceCtorEq, false_and, exists_false, false_or, or_false, CPow, CPowW, CMul, CDiv, Int.reduceToNat, ↓reduceIte, wipe, sw, List.nil_append, List.singleton_append])
local macro_rules | `(tactic| walk_at "st") => `(tactic| (refine seq_op fun N hN => ?_; walk_at "rs"))
local macro_rules | `(tactic| walk_at "sd") => `(tactic| first | assumption | decide | omega)
local macro_rules | `(tactic| walk_at "rd") => `(tactic| repeat (first
  | refine ⟨_, SqL.of (by assumption), ?_⟩ | refine ⟨_, SqL.of upd_same, ?_⟩ | refine ⟨_, .inl (SqL.of (by assumption)), ?_⟩ | refine ⟨_, (by assumption : _ = some (HO.lst _)), ?_⟩ | refine ⟨_, upd_same, ?_⟩
  | refine ⟨_, rfl, ?_⟩ | refine And.intro (by walk_at "sd") ?_))

section
variable {P : Program} {w : World} {K : PySem.W.Frag} {mg : Str → Option Value} {base : Heap}
/-! ### the law's own scores -/
theorem lc_dens3 {tl : TE} {i : Nat} {σ : L2.St} {H : Hp} {Q : VK} {ta : Addr} {xs : List V} {es : List Sc} (hi : i < σ.length) (hv : ∀ Q : VK, Q (.ref ta) H → tl σ H Q) (ht : SqT K H ta xs) (he : Tris K H xs es) (hl : es.length ≤ 100) (k : ∀ p ys H', Same H H' → H p = none → H' p = some (.lst ys) → Frs K H' ys (es.map (·.2)) → Q (.ref p) H') :
    tLc (iTup K tl) (gName i) tYes (tOp (rIxT K) (tVar i) (tC (.int 2))) [i] σ H Q := by
  have le := he.len
  refine hv _ ⟨ta, rfl, ⟨xs, ht⟩, fun D hD => lc_acc walk_tup (fun j H ys => Frs K H ys ((es.take j).map fun (p : Sc) => p.2)) hD (by omega) (fun j H H' ys s f => f.same s) (fun j H ys zs o hp f => f.upd hp) .nil (fun H' s => Same.seqT s ht) (fun j x H2 H3 hj s y => ?_) (fun x σ0 H0 Q0 Q1 h q => h _ _ q) fun H' ys s h1 h2 f => k D ys H' s hD h1 (by rw [le, List.take_length] at f; exact f)⟩
  obtain ⟨rfl, hx⟩ := y
  obtain ⟨a, u, c, c2, f, e1, e2, h1, h2⟩ := he.get (n := j) (by omega)
  obtain rfl : x = .ref a := by rw [e1] at hx; exact (Option.some.inj hx).symm
  refine ⟨Same.refl _, ?_, fun Q2 hq => ?_⟩
  · show ((σ.set i none).set i (some _)).set i none = σ.set i none
    rw [List.set_set, List.set_set]
  · have h1' := Same.seqT s h1
    refine ⟨.ref a, ?_, a, _, 2, .ref u, rfl, rfl, h1', rfl, hq _ _ (Same.refl _) fun ys hy => ?_⟩
    · show ((σ.set i none).set i (some (.ref a)))[i]? = _
      rw [List.getElem?_set_self (by rw [List.length_set]; exact hi)]
    · obtain ⟨hk, e⟩ := List.getElem?_eq_some_iff.mp e2
      have e3 : (es.take (j + 1)).map (·.2) = (es.take j).map (·.2) ++ [f] := by
        rw [← List.take_append_getElem hk, List.map_append, e]
        rfl
      rw [e3]
      exact hy.app (.cons (Same.seqT s h2) .nil)
def mOf (es : List Sc) : Int := comI (es.map (·.2))
theorem rep0 : ∀ (Xss : List (List Int)), (List.replicate Xss.length [V.int 0]).flatten = Xss.map fun _ => V.int 0
  | [] => rfl
  | X :: Xss => by
    rw [List.length_cons, List.replicate_succ, List.flatten_cons, rep0 Xss]
    rfl
def sp_scored (K : PySem.W.Frag) : Sp := fun vs H Q _ => ∃ (sv v : V) (h : Hd) (at_ n : Nat) (L : Int) (Xss : List (List Int)), vs = [sv, v, .int (at_ : Int)] ∧ StateAt K H sv L Xss ∧ HeadAt K H v h ∧ (∀ Xs ∈ Xss, Xs.length = n ∧ LimS L Xs) ∧ Xss.length ≤ 9 ∧ ScFit n (mOf h.sc) h.sc ∧ prodD (h.sc.map (·.2)) < 2 ^ 100 ∧ at_ < Xss.length ∧
  ∀ (t p : Addr) H', Same H H' → H' t = some (.tup [.ref p, .int (mOf h.sc * L * L)]) → H p = none → H' p = some (.lst ((scRow (mOf h.sc) h.sc Xss at_).map V.int)) → Q (.ref t) H'
theorem ok__law_scored (T : Txt w K mg) : FnOk P w K mg base CX0 3 T.a__law_scored T.d__law_scored ["state", "head_z", "at_z"] (sp_scored K) := by
  refine T.F__law_scored.ok sc__law_scored (fun vs H Q E h => ?_) (fun cdv A outer s H vs Q E hr h => ?_)
  · obtain ⟨sv, v, h, at_, n, L, Xss, rfl, _⟩ := h
    rfl
  · obtain ⟨sv, v, h, at_, n, L, Xss, rfl, ⟨sa, pa, ps, rfl, hsa, hpa, hps⟩, ⟨ua, ta, ga, xs, ys, rfl, g1, g2, g3, g4, g5⟩, lim, lX, fit, pd, hat, k⟩ := h
    have hr__law_common : Room 2 _ := hr
    have G__law_common := ok__law_common (P := P) (base := base) T
    have lps := hps.len
    have lxs := g3.len
    refine ⟨_, (pss_cons (ps_asg (pv 0) (pg_tup rfl (pgs_cons (pg_name (i := 3) sc__law_scored.nd rfl (Or.inl rfl)) (pgs_cons (pg_name (i := 4) sc__law_scored.nd rfl (Or.inl rfl)) pgs_nil))))
      (pss_cons (ps_set (i := 5) sc__law_scored.nd rfl (Or.inl rfl) (pe_call G__law_common hr__law_common (by rfl) T.m__law_common T.F__law_common.kp T.B__law_common .nil pass0 (pa_cons (pe_lc (own := [("one", 7)]) (g := gName 7) (tt := tYes) rfl sc__law_scored.nd (pi_tup (pe_ix ix_tup (pv 1) pe_int (fun _ _ => rfl))) (blkOk_by (own := [("one", 7)]) (N := N__law_scored) (sc := defScope s__law_scored) (by decide +kernel)) (fun _ _ _ _ _ => pg_name (i := 7) sc__law_scored.nd rfl (Or.inl rfl)) (fun _ _ _ _ _ => pts_nil) (fun _ _ _ _ _ => (pe_ix (ix_tupK (K := K) rfl) (pv 7) pe_int (fun _ _ => rfl)))) pa_nil)))
      (pss_cons (ps_set (i := 6) sc__law_scored.nd rfl (Or.inl rfl) (pe_op op_repL (pe_lstU (pa_cons pe_int pa_nil)) (pe_callB call_len_seq (by rfl) T.n_len (by decide +kernel) (pa_cons (pv 4) pa_nil))))
      (pss_cons (ps_for PassesOwn.never rfl (pi_tup (pe_ix ix_tup (pv 1) pe_int (fun _ _ => rfl))) (pg_name (i := 7) sc__law_scored.nd rfl (Or.inr rfl)) (pss_cons (ps_set (i := 8) sc__law_scored.nd rfl (Or.inr rfl) (pe_op op_mulW (pe_op op_mulW (pe_ix ix_list (pe_ix ix_list (pv 4) (pv 2) (fun _ _ => rfl)) (pe_ix ix_tup (pv 7) pe_int (fun _ _ => rfl)) (fun _ _ => rfl)) (pe_ix ix_tup (pe_ix ix_tup (pv 7) pe_int (fun _ _ => rfl)) pe_int (fun _ _ => rfl))) (pe_op op_fdivF (pv 5) (pe_ix ix_tup (pe_ix ix_tup (pv 7) pe_int (fun _ _ => rfl)) pe_int (fun _ _ => rfl)))))
      (pss_one (ps_if (pt_cmpR op_neI (pv 8) pe_int (nomark _)) (pss_one (ps_setLc (i := 6) (own := [("old", 9), ("row", 10)]) (g := gTup K 2 (gCons (gName 9) (gCons (gName 10) (gNil)))) (tt := tYes) rfl sc__law_scored.nd rfl rfl (sw_true rfl rfl rfl (by decide +kernel)) (pi_zip (by rfl) T.n_zip (pa_cons (pv 6) (pa_cons (pv 4) pa_nil))) (blkOk_by (own := [("old", 9), ("row", 10)]) (N := N__law_scored) (sc := defScope s__law_scored) (by decide +kernel)) (fun _ _ _ _ _ => by exact (pg_tup rfl (pgs_cons (pg_name (i := 9) sc__law_scored.nd rfl (Or.inl rfl)) (pgs_cons (pg_name (i := 10) sc__law_scored.nd rfl (Or.inl rfl)) pgs_nil)))) (fun _ _ _ _ _ => pts_nil) (fun _ _ _ _ _ => (pe_op op_add (pv 9) (pe_op op_mulW (pv 8) (pe_ix (ix_listK (K := K) rfl) (pv 10) (pe_ix (ix_tupK (K := K) rfl) (pv 7) pe_int (fun _ _ => rfl)) (fun _ _ => rfl))))))) pss_nil))))
      (pss_one (ps_ret (pe_tupU (pa_cons (pv 6) (pa_cons (pe_op op_mulW (pe_op op_mulW (pv 5) (pv 3)) (pv 3)) pa_nil))))))))), ?_⟩
    refine seq_op fun N hN => ?_
    walk_at "rs"
    refine ⟨_, _, rfl, hsa, rfl, ?_⟩
    unfold gCons gNil
    walk_at "rs"
    refine ⟨_, _, ⟨rfl, rfl⟩, _, _, rfl, rfl, hN _ _ ?_⟩
    clear hN N
    refine seq_op fun N hN => ?_
    walk_at "rs"
    have d1 : ∀ f ∈ h.sc.map (·.2), 1 ≤ f.2 := fun f hf => by
      obtain ⟨e, he, rfl⟩ := List.mem_map.mp hf
      exact (fit.all e he).2.2.1.1
    refine lc_dens3 (K := K) (by simp) (fun Q q => ⟨_, rfl, ua, _, 0, .ref ta, rfl, rfl, g1, rfl, q⟩) g2 g3 fit.len fun p1 zs H1 s1 _ q1 f1 => ?_
    refine ⟨p1, zs, h.sc.map (·.2), rfl, .inl (SqL.of q1), f1, d1, pow_le pd (by decide), fun H2 s2 => hN _ _ ?_⟩
    clear hN N
    have s12 := Same.trans s1 s2
    refine seq_op fun N hN => ?_
    walk_at "rs"
    refine ⟨by decide, fun p3 H3 s3 _ q3 => ⟨_, .inl (s3.seq (s12.seq hpa)), [.int 0], q3, by omega, by omega, ?_, fun p4 H4 s4 p40 q4 => hN _ _ ?_⟩⟩
    · show 1 * _ ≤ _
      exact Nat.le_trans (show _ ≤ 1000 by omega) (by decide)
    clear hN N
    have s14 := Same.trans s12 (Same.trans s3 s4)
    have lM : (comI (h.sc.map (·.2))).natAbs < 2 ^ 64 := fit.M1
    have M0 : 0 < comI (h.sc.map (·.2)) := fit.M0
    have fall := fit.all
    have eM : mOf h.sc = comI (h.sc.map (·.2)) := rfl
    rw [eM] at k fall
    generalize comI (h.sc.map (·.2)) = M at *
    obtain ⟨ra, Xa, er, eXa, hra⟩ := hps.get hat
    obtain ⟨lXa, limA⟩ := lim Xa (List.mem_of_getElem? eXa)
    have eA : Xss.getD at_ [] = Xa := by rw [List.getD_eq_getElem?_getD, eXa]; rfl
    refine cut_seq (fun σ H5 => ∃ (p : Addr) (x7 x8 x9 x10 : Option V), σ = [some (.ref sa), some (.ref ua), some (.int (at_ : Int)), some (.int L), some (.ref pa), some (.int M), some (.ref p), x7, x8, x9, x10] ∧ Same H H5 ∧ H p = none ∧ H5 p = some (.lst ((scRow M h.sc Xss at_).map V.int))) (fun N hN => ?_) ?_
    · refine ⟨_, rfl, ua, _, 0, .ref ta, rfl, rfl, Same.seqT s14 g1, rfl, ta, rfl, ⟨xs, Same.seqT s14 g2⟩, for_tup (K := K) (a := ta) (xs := xs) (fun i σ H5 => ∃ (p : Addr) (x7 x8 x9 x10 : Option V), σ = [some (.ref sa), some (.ref ua), some (.int (at_ : Int)), some (.int L), some (.ref pa), some (.int M), some (.ref p), x7, x8, x9, x10] ∧ Same H H5 ∧ H p = none ∧ H5 p = some (.lst ((scRow M (h.sc.take i) Xss at_).map V.int)) ∧ x9 = none ∧ x10 = none) ⟨p4, _, _, _, _, rfl, s14, ?_, ?_, rfl, rfl⟩ (fun i σ H4 _ ⟨_, _, _, _, _, _, s, _⟩ => Same.seqT s g2) ?_ ?_⟩
      · cases e : H p4 with
        | none => rfl
        | some o => rw [Same.trans s12 s3 _ _ e] at p40; cases p40
      · rw [q4, Int.toNat_natCast, lps, rep0]
        unfold scRow
        rw [List.map_map]
        rfl
      · rintro i y σ H5 hi ⟨p, x7, x8, _, _, rfl, s5, p0, h5, rfl, rfl⟩
        obtain ⟨q, u, c, d, f, ey, ee, hq, hf⟩ := g3.get (n := i) (by have := (List.getElem?_eq_some_iff.mp hi).1; omega)
        obtain rfl : y = .ref q := by rw [ey] at hi; exact (Option.some.inj hi).symm
        obtain ⟨f1, f2, f3, f4, f5, f6⟩ := fall _ (List.mem_of_getElem? ee)
        dsimp only at f1 f2 f3 f4 f5 f6
        refine seq_op fun N hN => ?_
        walk_at "rs"
        have hq5 := Same.seqT s5 hq
        have hf5 : Pr K H5 u f.1 f.2 := Same.seqT s5 hf
        have ec : (Xa.map V.int)[c]? = some (V.int (Xa.getD c 0)) := by
          rw [List.getElem?_map, List.getD_eq_getElem?_getD, List.getElem?_eq_getElem (by omega)]
          rfl
        have bX : (Xa.getD c 0).natAbs < 2 ^ 455 := getD_lim (Nat.two_pow_pos 455) limA.2.2
        have ed : M.fdiv f.2 = M / f.2 := Int.fdiv_eq_ediv_of_nonneg _ (by have := f3.1; omega)
        have bD : (M.fdiv f.2).natAbs < 2 ^ 64 := by rw [ed]; exact Nat.lt_of_le_of_lt (Int.natAbs_ediv_le_natAbs _ _) lM
        have bq : f.2.natAbs < 2 ^ 64 := Nat.lt_of_le_of_lt (Nat.le_of_dvd (by omega) (Int.natAbs_dvd_natAbs.mpr f4)) lM
        have bXf : (Xa.getD c 0 * f.1).natAbs < 2 ^ (455 + 64) := wide_lt bX f6
        refine ⟨ps, s5.seq hpa, _, at_ofN rfl er, _, hq5, _, rfl, ra, rfl, _, (c : Int), rfl, s5.seq hra, _, at_ofN rfl ec, _, hq5, _, rfl, u, rfl, _, hf5, _, rfl, _, rfl, _, rfl, mulW (pow_le bX (by decide)) (pow_le f6 (by decide)), _, hq5, _, rfl, u, rfl, _, hf5, _, rfl, _, rfl, ⟨by have := f3.1; omega, logL bq (by decide) (by decide)⟩, mulW (pow_le bXf (by decide)) (pow_le bD (by decide)), hN _ _ ?_⟩
        clear hN N
        have eh : Xa.getD c 0 * f.1 * M.fdiv f.2 = Xa.getD c 0 * num M f := by
          rw [ed, Int.mul_assoc]
          rfl
        rw [eh]
        have bh : (Xa.getD c 0 * num M f).natAbs < 2 ^ (455 + 64) := wide_lt bX f5
        generalize hhe : Xa.getD c 0 * num M f = he at *
        obtain ⟨hk, ee2⟩ := List.getElem?_eq_some_iff.mp ee
        have en : ∀ Xs : List Int, scI M (h.sc.take (i + 1)) Xa Xs = scI M (h.sc.take i) Xa Xs + Xs.getD d 0 * he := fun Xs => by
          unfold scI
          rw [← List.take_append_getElem hk, ee2, List.map_append, List.sum_append]
          show _ + (Xs.getD d 0 * (Xa.getD c 0 * num M f) + 0) = _
          rw [hhe, Int.add_zero]
        walk_at "rs"
        have ld := fit.len
        have bS : ∀ Xs ∈ Xss, (scI M (h.sc.take i) Xa Xs).natAbs < 2 ^ 4000 := fun Xs hX => pow_le (sc_lim (n := n) (fun e he => (fall e (List.mem_of_mem_take he)).2.2.2.2.1) limA (lim Xs hX).2) (by rw [List.length_take]; omega)
        refine ite2 (fun hne => ?_) (fun hz => ⟨p, _, _, _, _, ⟨rfl, rfl, rfl, rfl, rfl⟩, s5, p0, ?_, rfl, rfl⟩)
        · refine ⟨_, rfl, _, rfl, p, pa, (scRow M (h.sc.take i) Xss at_).map V.int, ps, rfl, SqL.of h5, s5.seq hpa, fun D hD => lc_pure (walk_zip (n := Xss.length) (by
            unfold scRow
            rw [List.length_map, List.length_map, lps]
            omega)) hD (by omega) (fun j => .int (scI M (h.sc.take i) Xa (Xss.getD j []) + he * (Xss.getD j []).getD d 0)) (fun H6 s6 => ⟨s6.seq (SqL.of h5), s6.seq (s5.seq hpa)⟩) (fun j x H6 H7 hj s6 y => ?_) (gm2 9 10) fun H6 s6 h6 => ⟨D, _, _, _, _, ⟨rfl, rfl, rfl, rfl, rfl⟩, Same.trans s5 s6, ?_, ?_, rfl, rfl⟩⟩
          · obtain ⟨T0, y1, y2, rfl, hT, rfl, e1, e2⟩ := y
            have eXs : Xss[j]? = some Xss[j] := List.getElem?_eq_getElem hj
            have eg : Xss.getD j [] = Xss[j] := by rw [List.getD_eq_getElem?_getD, eXs]; rfl
            obtain ⟨r, Xs, er2, eX2, hr2⟩ := hps.get (n := j) hj
            obtain rfl : Xss[j] = Xs := by rw [eXs] at eX2; exact Option.some.inj eX2
            obtain ⟨lXs, limX⟩ := lim _ (List.getElem_mem hj)
            have e1' : y1 = .int (scI M (h.sc.take i) Xa Xss[j]) := by
              have e1 : ((scRow M (h.sc.take i) Xss at_).map V.int)[j]? = some y1 := e1
              unfold scRow at e1
              rw [eA, List.getElem?_map, List.getElem?_map, eXs] at e1
              exact (Option.some.inj e1).symm
            subst e1'
            have e2' : y2 = .ref r := by
              have e2 : ps[j]? = some y2 := e2
              rw [er2] at e2; exact (Option.some.inj e2).symm
            subst e2'
            have sT := same_upd (o := .tup [.int (scI M (h.sc.take i) Xa Xss[j]), .ref r]) hT
            refine g2_at (.inl (.inl upd_same)) ⟨sT, rfl, fun Q2 hq2 => ?_⟩
            have s7 := Same.trans s6 sT
            have ed2 : (Xss[j].map V.int)[d]? = some (V.int (Xss[j].getD d 0)) := by
              rw [List.getElem?_map, List.getD_eq_getElem?_getD, List.getElem?_eq_getElem (by omega)]
              rfl
            rw [eg] at hq2
            walk_at "rs"
            exact ⟨_, Same.seqT s7 hq5, _, rfl, _, (d : Int), rfl, s7.seq (s5.seq hr2), _, at_ofN rfl ed2, _, rfl, mulW (pow_le bh (by decide)) (pow_le (getD_lim (Nat.two_pow_pos 455) limX.2.2) (by decide)), hq2 _ (Same.refl _)⟩
          · cases e : H D with
            | none => rfl
            | some o => rw [s5 _ _ e] at hD; cases hD
          · rw [h6]
            unfold scRow
            rw [eA, List.map_map]
            refine congrArg (fun z => some (HO.lst z)) (List.ext_getElem (by simp) fun j h1 h2 => ?_)
            have hj : j < Xss.length := by simpa using h1
            have eg : Xss.getD j [] = Xss[j] := by rw [List.getD_eq_getElem?_getD, List.getElem?_eq_getElem hj]; rfl
            rw [List.getElem_map, List.getElem_map, List.getElem_range, eg]
            show V.int _ = V.int (scI M (h.sc.take (i + 1)) Xa Xss[j])
            rw [en, Int.mul_comm he]
        · have z : he = 0 := by
            by_cases z : he = 0
            · exact z
            · exact absurd z hz
          rw [h5]
          unfold scRow
          rw [eA]
          refine congrArg (fun z => some (HO.lst (List.map V.int z))) (List.map_congr_left fun Xs _ => ?_)
          rw [en, z, Int.mul_zero, Int.add_zero]
      · rintro σ H5 ⟨p, x7, x8, x9, x10, rfl, s5, p0, h5, _⟩
        rw [lxs, List.take_length] at h5
        exact hN _ _ ⟨p, _, _, _, _, rfl, s5, p0, h5⟩
    · rintro σ H5 ⟨p, x7, x8, x9, x10, rfl, s5, p0, h5⟩
      walk_at "rs"
      have bM : (M * L).natAbs < 2 ^ (64 + 400) := wide_lt lM limA.2.1
      exact ⟨mulW (pow_le lM (by decide)) (pow_le limA.2.1 (by decide)), mulW (pow_le bM (by decide)) (pow_le limA.2.1 (by decide)), by decide, fun t H6 s6 _ t1 => k t p H6 (Same.trans s5 s6) t1 p0 (s6 _ _ h5)⟩
end
end LK

set_option Elab.async false
set_option linter.all false
set_option maxRecDepth 100000
namespace LK
open PySem PySem.Spec PyProof.Rows L2
local macro_rules | `(tactic| walk_at "rs") => `(tactic| simp only [cxK, cxNK, tCallZ, tAsg, tOp, rI0, rS0, rB0, rI, rU, tUn, rEq, rNe, rIxL, rIxT, rIxS, rSetL, rSlLU, rSlS, rSlU, rCatL, rCatU, rRepL, rIn, tVar, tC, gName, gSub, tIfS, tTest, tB, tAnd, tOr, tNot, tNotV, tAndV, tOrV, tIf, tCall, tCons, tNil, tCB, tDrop, tRet, tRetN, tNext, tLstU, tTupU, tM0, tM1, tPar, tPar3, tAug, ipI, tBM, tBM0, rAppend, rPop, tBreak, tCont, tChain, tSl, tPart, tNoPart, L2.start, List.map, List.length_cons, List.length_nil, List.replicate, List.cons_append, List.nil_append, List.append_nil, List.getElem?_cons_zero, List.getElem?_cons_succ, List.set_cons_zero, List.set_cons_succ, Option.some.injEq, V.int.injEq, V.ref.injEq, V.str.injEq, V.bl.injEq, exists_eq_left', exists_eq_left, exists_and_left, decide_eq_true_eq, List.cons.injEq, and_true, true_and, scal, Bool.not_eq_true', decide_eq_false_iff_not, Nat.zero_add, Nat.reduceAdd, Nat.reduceSub, reduceCtorEq, false_and, exists_false, false_or, or_false, CPow, CPowW, CMul, CDiv, Int.reduceToNat, ↓reduceIte, wipe, sw, List.nil_append, List.singleton_append])
local macro_rules | `(tactic| walk_at "st") => `(tactic| (refine seq_op fun N hN => ?_; walk_at "rs"))
local macro_rules | `(tactic| walk_at "sd") => `(tactic| first | assumption | decide | omega)
local macro_rules | `(tactic| walk_at "rd") => `(tactic| repeat (first
  | refine ⟨_, SqL.of (by assumption), ?_⟩ | refine ⟨_, SqL.of upd_same, ?_⟩ | refine ⟨_, .inl (SqL.of (by assumption)), ?_⟩ | refine ⟨_, (by assumption : _ = some (HO.lst _)), ?_⟩ | refine ⟨_, upd_same, ?_⟩
  | refine ⟨_, rfl, ?_⟩ | refine And.intro (by walk_at "sd") ?_))

section
variable {P : Program} {w : World} {K : PySem.W.Frag} {mg : Str → Option Value} {base : Heap}
def sp_seen (K : PySem.W.Frag) : Sp := fun vs H Q _ => ∃ (sv v : V) (h : Hd) (at_ n : Nat) (L : Int) (Xss : List (List Int)), vs = [sv, v, .int (at_ : Int)] ∧ StateAt K H sv L Xss ∧ HeadAt K H v h ∧ (∀ Xs ∈ Xss, Xs.length = n ∧ LimS L Xs) ∧ Xss.length ≤ 9 ∧ ScFit n (mOf h.sc) h.sc ∧ prodD (h.sc.map (·.2)) < 2 ^ 100 ∧ at_ < Xss.length ∧
  ∀ (p : Addr) H', Same H H' → H p = none → H' p = some (.lst ((lookI (scRow (mOf h.sc) h.sc Xss at_)).map fun (k : Nat) => V.int (k : Int))) → Q (.ref p) H'
theorem ok__law_seen (T : Txt w K mg) : FnOk P w K mg base CX0 4 T.a__law_seen T.d__law_seen ["state", "head_z", "at_z"] (sp_seen K) := by
  refine T.F__law_seen.ok sc__law_seen (fun vs H Q E h => ?_) (fun cdv A outer s H vs Q E hr h => ?_)
  · obtain ⟨sv, v, h, at_, n, L, Xss, rfl, _⟩ := h
    rfl
  · obtain ⟨sv, v, h, at_, n, L, Xss, rfl, hst, hh, lim, lX, fit, pd, hat, k⟩ := h
    have hr__law_scored : Room 3 _ := hr
    have G__law_scored := ok__law_scored (P := P) (base := base) T
    refine ⟨_, (pss_cons (ps_set (i := 3) sc__law_seen.nd rfl (Or.inr rfl) (pe_ix ix_tup (pe_call G__law_scored hr__law_scored (by rfl) T.m__law_scored T.F__law_scored.kp T.B__law_scored .nil pass0 (pa_cons (pv 0) (pa_cons (pv 1) (pa_cons (pv 2) pa_nil)))) pe_int (fun _ _ => rfl)))
      (pss_cons (ps_set (i := 4) sc__law_seen.nd rfl (Or.inr rfl) (pe_callB (cr_max rfl) (by rfl) T.n_max (by decide +kernel) (pa_cons (pv 3) pa_nil)))
      (pss_one (ps_ret (pe_lc (own := [("k", 5)]) (g := gName 5) (tt := _) rfl sc__law_seen.nd (pi_range1 (by rfl) T.n_range (pa_cons (pe_callB call_len_seq (by rfl) T.n_len (by decide +kernel) (pa_cons (pv 3) pa_nil)) pa_nil)) (blkOk_by (own := [("k", 5)]) (N := N__law_seen) (sc := defScope s__law_seen) (by decide +kernel)) (fun _ _ _ _ _ => pg_name (i := 5) sc__law_seen.nd rfl (Or.inl rfl)) (fun _ _ _ _ _ => pts_one (pt_cmpR op_eqI (pe_ix (ix_listK (K := K) rfl) (pv 3) (pv 5) (fun _ _ => rfl)) (pv 4) (nomark _))) (fun _ _ _ _ _ => (pv 5))))))), ?_⟩
    refine seq_op fun N hN => ?_
    walk_at "rs"
    refine ⟨sv, v, h, at_, n, L, Xss, rfl, hst, hh, lim, lX, fit, pd, hat, fun t p H1 s1 t1 p0 p1 => ⟨t, rfl, _, .inl (.inl t1), _, rfl, hN _ _ ?_⟩⟩
    clear hN N
    have lS : (scRow (mOf h.sc) h.sc Xss at_).length = Xss.length := List.length_map ..
    generalize scRow (mOf h.sc) h.sc Xss at_ = S at *
    refine seq_op fun N hN => ?_
    walk_at "rs"
    refine ⟨p, S, rfl, SqL.of p1, by omega, fun m m1 m2 => hN _ _ ?_⟩
    clear hN N
    have em := best_uniq m1 m2
    subst em
    walk_at "rs"
    have lm : (S.map V.int).length = S.length := List.length_map ..
    refine ⟨_, rfl, p, rfl, _, .inl (SqL.of p1), ((S.map V.int).length : Int), rfl, by omega, by omega, fun D hD => lc_filt (n := (((S.map V.int).length : Int)).toNat) walk_range (fun k => decide (S.getD k 0 = bestI S)) (fun (k : Nat) => .int (0 + (k : Int))) hD (by omega) (fun _ _ => trivial) (fun i x H2 H3 hi s2 y => ?_) (gm_name 5) fun H2 s2 h2 => ?_⟩
    · obtain ⟨rfl, rfl⟩ := y
      have iS : i < S.length := by omega
      have e : (S.map V.int)[i]? = some (V.int (S.getD i 0)) := by
        rw [List.getElem?_map, List.getD_eq_getElem?_getD, List.getElem?_eq_getElem iS]
        rfl
      refine ⟨Same.refl _, rfl, fun Qt hq => ?_, fun H4 s4 Q2 hq => ⟨_, rfl, hq _ (Same.refl _)⟩⟩
      walk_at "rs"
      exact ⟨_, s2.seq (SqL.of p1), _, at_ofN (Int.zero_add _) e, _, rfl, hq _ (Same.refl _)⟩
    · refine k D H2 (Same.trans s1 s2) ?_ ?_
      · cases e : H D with
        | none => rfl
        | some o => rw [s1 _ _ e] at hD; cases hD
      · rw [h2, Int.toNat_natCast, lm]
        unfold lookI
        refine congrArg (fun z => some (HO.lst z)) (List.map_congr_left fun k _ => ?_)
        rw [Int.zero_add]
end
end LK

set_option Elab.async false
set_option linter.all false
set_option maxRecDepth 100000
namespace LK
open PySem PySem.Spec PyProof.Rows L2
local macro_rules | `(tactic| walk_at "rs") => `(tactic| simp only [cxK, cxNK, tCallZ, tAsg, tOp, rI0, rS0, rB0, rI, rU, tUn, rEq, rNe, rIxL, rIxT, rIxS, rSetL, rSlLU, rSlS, rSlU, rCatL, rCatU, rRepL, rIn, tVar, tC, gName, gSub, tIfS, tTest, tB, tAnd, tOr, tNot, tNotV, tAndV, tOrV, tIf, tCall, tCons, tNil, tCB, tDrop, tRet, tRetN, tNext, tLstU, tTupU, tM0, tM1, tPar, tPar3, tAug, ipI, tBM, tBM0, rAppend, rPop, tBreak, tCont, tChain, tSl, tPart, tNoPart, L2.start, List.map, List.length_cons, List.length_nil, List.replicate, List.cons_append, List.nil_append, List.append_nil, List.getElem?_cons_zero, List.getElem?_cons_succ, List.set_cons_zero, List.set_cons_succ, Option.some.injEq, V.int.injEq, V.ref.injEq, V.str.injEq, V.bl.injEq, exists_eq_left', exists_eq_left, exists_and_left, decide_eq_true_eq, List.cons.injEq, and_true, true_and, scal, Bool.not_eq_true', decide_eq_false_iff_not, Nat.zero_add, Nat.reduceAdd, Nat.reduceSub, reduceCtorEq, false_and, exists_false, false_or, or_false, CPow, CPowW, CMul, CDiv, Int.reduceToNat, ↓reduceIte, wipe, sw, List.nil_append, List.singleton_append])
local macro_rules | `(tactic| walk_at "st") => `(tactic| (refine seq_op fun N hN => ?_; walk_at "rs"))
local macro_rules | `(tactic| walk_at "sd") => `(tactic| first | assumption | decide | omega)
local macro_rules | `(tactic| walk_at "rd") => `(tactic| repeat (first
  | refine ⟨_, SqL.of (by assumption), ?_⟩ | refine ⟨_, SqL.of upd_same, ?_⟩ | refine ⟨_, .inl (SqL.of (by assumption)), ?_⟩ | refine ⟨_, (by assumption : _ = some (HO.lst _)), ?_⟩ | refine ⟨_, upd_same, ?_⟩
  | refine ⟨_, rfl, ?_⟩ | refine And.intro (by walk_at "sd") ?_))

def rGetL (K : PySem.W.Frag) : V → V → Hp → VK → Prop := fun o i H Q => ∃ (p : Addr) (xs : List V) (j : Nat) (v : V), o = .ref p ∧ i = .int (j : Int) ∧ SqL K H p xs ∧ xs[j]? = some v ∧ Q v H
theorem get_list {X : Cx} : PGet X (rGetL X.K) := by
  rintro pins s σ H o i ov iv Q I ro ri ⟨p, xs, j, v, rfl, rfl, hq, he, q⟩
  cases ro
  obtain ⟨t, rfl⟩ := ri
  obtain ⟨its, r, pl, hz⟩ := I.list hq
  obtain ⟨u, eu, ru⟩ := r.get he
  have hl := r.length
  have hn := line63
  have hj : j < xs.length := (List.getElem?_eq_some_iff.mp he).1
  exact wpAny_getItem_list pl.isList (Int.natCast_nonneg j) (by omega) (by simpa using eu) ⟨v, H, I, ru, q⟩
/-- a comprehension whose items are told by R, which holds ahead of each turn -/
theorem lc_accE {J : It} {n : Nat} {G : Hp → Prop} {Y : Nat → Hp → V → Hp → Prop} (w : Walk J n G Y) {g : TG} {te : TE} {vs : List Nat} {σ : L2.St} {H1 : Hp} {D : Addr} {Qd : Hp → Prop} (R : Nat → Hp → List V → Prop) (hD : H1 D = none) (hn : n ≤ 1000000)
    (up : ∀ i H ys o, R i H ys → R i (L2.upd H D o) ys) (r0 : ∀ H, R 0 H []) (hG : ∀ H, Same H1 H → G H)
    (hs : ∀ i x H H' ys, i < n → Same H1 H → H D = some (.lst ys) → R i H ys → Y i H x H' → g x (wipe σ vs) H' fun σ2 H2 => Same H H2 ∧ wipe σ2 vs = wipe σ vs ∧ ∀ Q2 : V → Hp → Prop, (∀ v H3, Same H2 H3 → R (i + 1) H3 (ys ++ [v]) → Q2 v H3) → te σ2 H2 Q2)
    (gm : ∀ x σ0 H0 Q0 Q1, (∀ σ2 H2, Q0 σ2 H2 → Q1 σ2 H2) → g x σ0 H0 Q0 → g x σ0 H0 Q1)
    (hq : ∀ H' ys, Same H1 H' → H' D = some (.lst ys) → ys.length = n → R n H' ys → Qd H') :
    ∃ W : Nat → Nat → Hp → Prop, (∃ m, W 0 m (L2.upd H1 D (.lst []))) ∧ ∀ i m H, W i m H →
      (J.stop i H ∧ Qd H) ∨ (J.go i H ∧ ∃ Nx : Hp → Prop, (∀ H', Nx H' → ∃ m', m' < m ∧ W (i + 1) m' H') ∧ ∀ x H', J.yld i H x H' → g x (wipe σ vs) H' fun σ2 H2 => wipe σ2 vs = wipe σ vs ∧ tYes σ2 H2 fun b H3 =>
        if b = true then te σ2 H3 fun y H4 => ∃ acc, H4 D = some (.lst acc) ∧ acc.length < sizeLine ∧ Nx (L2.upd H4 D (.lst (acc ++ [y]))) else Nx H3) := by
  have keep : ∀ {H : Hp} {o : HO}, Same H1 H → Same H1 (L2.upd H D o) := fun s a u e => by
    rw [upd_ne (ne_of_none e hD)]; exact s _ _ e
  refine lc_it w (fun i H => Same H1 H ∧ ∃ ys, H D = some (.lst ys) ∧ ys.length = i ∧ R i H ys) ⟨keep (Same.refl _), [], upd_same, rfl, r0 _⟩ (fun i H _ h => hG H h.1) (fun i x H H' hi ⟨s1, ys, h1, hl, hr⟩ hY => ?_) (fun H ⟨s1, ys, h1, hl, hr⟩ => hq H ys s1 h1 hl hr)
  refine gm _ _ _ _ _ (fun σ2 H2 ⟨s2, e2, kq⟩ => ⟨e2, ?_⟩) (hs i x H H' ys hi s1 h1 hr hY)
  simp only [tYes, eq_self, ite_true]
  refine kq _ fun v H3 s3 st => ?_
  have hD3 := Same.trans s2 s3 _ _ h1
  refine ⟨ys, hD3, ?_, keep (Same.trans s1 (Same.trans s2 s3)), ys ++ [v], upd_same, by rw [List.length_append, hl]; rfl, up _ _ _ _ st⟩
  rw [hl]
  exact Nat.lt_of_lt_of_le (Nat.lt_of_lt_of_le hi hn) (by decide)
def Sole (ms : List V) : Prop := ∀ (i j : Nat) (v : V), ms[i]? = some v → ms[j]? = some v → i = j
theorem Sole.app {ms : List V} {v : V} (h : Sole ms) (n : ∀ i : Nat, ms[i]? ≠ some v) : Sole (ms ++ [v]) := by
  intro i j u e1 e2
  rw [List.getElem?_append] at e1 e2
  split at e1
  · split at e2
    · exact h i j u e1 e2
    · obtain ⟨l, g⟩ := List.getElem?_eq_some_iff.mp e2
      have : u = v := by rw [← g]; simp
      exact absurd (this ▸ e1) (n i)
  · split at e2
    · obtain ⟨l, g⟩ := List.getElem?_eq_some_iff.mp e1
      have : u = v := by rw [← g]; simp
      exact absurd (this ▸ e2) (n j)
    · obtain ⟨l, _⟩ := List.getElem?_eq_some_iff.mp e1
      obtain ⟨l2, _⟩ := List.getElem?_eq_some_iff.mp e2
      simp at l l2
      omega
/-- the lists that `made` holds -/
structure Made (H0 H : Hp) (D : Addr) (ms : List V) (Yss : List (List Int)) : Prop where
  same : Same H0 H
  d0 : H0 D = none
  dl : H D = some (.lst ms)
  len : ms.length = Yss.length
  nd : Sole ms
  row : ∀ (j : Nat) (v : V) (Ys : List Int), ms[j]? = some v → Yss[j]? = some Ys → ∃ r, v = .ref r ∧ r ≠ D ∧ H0 r = none ∧ H r = some (.lst (Ys.map V.int))
theorem Made.upd {H0 H : Hp} {D : Addr} {ms : List V} {Yss : List (List Int)} (m : Made H0 H D ms Yss) {j : Nat} {r : Addr} {Ys : List Int} (hm : ms[j]? = some (.ref r)) (hY : Yss[j]? = some Ys) (Zs : List Int) : Made H0 (L2.upd H r (.lst (Zs.map V.int))) D ms (Yss.set j Zs) := by
  obtain ⟨r', e', n1, n2, n3⟩ := m.row j _ _ hm hY
  cases e'
  refine ⟨fun p o e => ?_, m.d0, by rw [upd_ne (Ne.symm n1)]; exact m.dl, by rw [List.length_set]; exact m.len, m.nd, fun i v Ws h1 h2 => ?_⟩
  · have n : p ≠ r := fun z => by rw [z, n2] at e; cases e
    rw [upd_ne n]; exact m.same _ _ e
  · rw [List.getElem?_set] at h2
    by_cases c : j = i
    · subst c
      rw [hm] at h1
      cases h1
      rw [if_pos rfl] at h2
      split at h2
      · cases h2
        exact ⟨r, rfl, n1, n2, upd_same⟩
      · cases h2
    · rw [if_neg c] at h2
      obtain ⟨q, e, k1, k2, k3⟩ := m.row i v Ws h1 h2
      refine ⟨q, e, k1, k2, ?_⟩
      have n : q ≠ r := fun z => by
        subst e
        rw [z] at h1
        exact c (m.nd _ _ _ hm h1)
      rw [upd_ne n]; exact k3
theorem Made.mono {H0 H H' : Hp} {D : Addr} {ms : List V} {Yss : List (List Int)} (m : Made H0 H D ms Yss) (s : Same H H') : Made H0 H' D ms Yss := ⟨Same.trans m.same s, m.d0, s _ _ m.dl, m.len, m.nd, fun j v Ys e1 e2 => by
  obtain ⟨r, k1, k2, k3, k4⟩ := m.row j v Ys e1 e2
  exact ⟨r, k1, k2, k3, s _ _ k4⟩⟩
theorem parts_of {K : PySem.W.Frag} {H : Hp} : ∀ {ms : List V} {Yss : List (List Int)}, ms.length = Yss.length → (∀ (j : Nat) (v : V) (Ys : List Int), ms[j]? = some v → Yss[j]? = some Ys → ∃ r, v = .ref r ∧ H r = some (.lst (Ys.map V.int))) → Parts K H ms Yss
  | [], [], _, _ => .nil
  | v :: ms, Ys :: Yss, hl, h => by
    obtain ⟨r, rfl, hr⟩ := h 0 v Ys rfl rfl
    exact .cons (SqL.of hr) (parts_of (by simpa using hl) fun j u Zs e1 e2 => h (j + 1) u Zs e1 e2)
  | [], _ :: _, hl, _ => by cases hl
  | _ :: _, [], hl, _ => by cases hl
theorem natAbs_pos {M : Int} (h : 0 < M) : 0 < M.natAbs := by omega
theorem set_self {α : Type} {l : List α} {m : Nat} {a : α} (e : l[m]? = some a) : l.set m a = l := by
  refine List.ext_getElem? fun j => ?_
  rw [List.getElem?_set]
  by_cases c : m = j
  · subst c
    rw [if_pos rfl, if_pos (List.getElem?_eq_some_iff.mp e).1, e]
  · rw [if_neg c]
/-! ### the law's own denominators of heads -/
def gOf (h : Hd) : Int := 2520 * comI (h.giv.map (·.2))
def moreH (l : Int) (hs : List Hd) : Int := hs.foldl (fun m h => comI [(1, m), (1, gOf h)]) l
def prodH (h : Hd) : Nat := 2520 * prodD (h.giv.map (·.2))
def prodHs : List Hd → Nat
  | [] => 1
  | h :: hs => prodH h * prodHs hs
structure HB (n : Nat) (h : Hd) : Prop where
  sc : ScFit n (mOf h.sc) h.sc
  pb : prodD (h.sc.map (·.2)) < 2 ^ 100
  gl : h.giv.length ≤ 100
  giv : ∀ e ∈ h.giv, e.1.1 < n ∧ e.1.2 < n ∧ low e.2 ∧ e.2.1.natAbs < 2 ^ 64
  qb : prodD (h.giv.map (·.2)) < 2 ^ 100
theorem HB.d2 {n : Nat} {h : Hd} (b : HB n h) : ∀ f ∈ h.giv.map (·.2), 1 ≤ f.2 := fun f hf => by
  obtain ⟨p, hp, rfl⟩ := List.mem_map.mp hf
  exact (b.giv p hp).2.2.1.1
theorem more_stepH {m : Int} (hm : 0 < m) {n : Nat} {h : Hd} (b : HB n h) : 0 < comI [(1, m), (1, gOf h)] ∧ m ∣ comI [(1, m), (1, gOf h)] ∧ gOf h ∣ comI [(1, m), (1, gOf h)] ∧ (comI [(1, m), (1, gOf h)]).natAbs ≤ m.natAbs * prodH h ∧ prodD [(1, m), (1, gOf h)] ≤ m.natAbs * prodH h := by
  obtain ⟨b1, _, b3⟩ := comI_spec b.d2
  have p0 : 0 < gOf h := Int.mul_pos (by decide) b1
  have pl : (gOf h).natAbs ≤ prodH h := by
    unfold gOf prodH
    rw [Int.natAbs_mul]
    exact Nat.mul_le_mul (by decide) b3
  obtain ⟨c1, c2, c3⟩ := comI_spec (fs := [(1, m), (1, gOf h)]) fun f hf => by
    simp only [List.mem_cons, List.not_mem_nil, or_false] at hf
    rcases hf with rfl | rfl
    · exact hm
    · exact p0
  have pd : prodD [(1, m), (1, gOf h)] ≤ m.natAbs * prodH h := by
    show m.natAbs * ((gOf h).natAbs * 1) ≤ _
    rw [Nat.mul_one]
    exact Nat.mul_le_mul_left _ pl
  exact ⟨c1, c2 (1, m) (by simp), c2 (1, gOf h) (by simp), Nat.le_trans c3 pd, pd⟩
theorem moreH_spec {n : Nat} : ∀ {hs : List Hd} {m : Int}, 0 < m → (∀ h ∈ hs, HB n h) → 0 < moreH m hs ∧ m ∣ moreH m hs ∧ (∀ h ∈ hs, gOf h ∣ moreH m hs) ∧ (moreH m hs).natAbs ≤ m.natAbs * prodHs hs
  | [], m, hm, _ => ⟨hm, Int.dvd_refl _, fun u hu => absurd hu (by simp), by show m.natAbs ≤ m.natAbs * 1; omega⟩
  | u :: us, m, hm, h => by
    obtain ⟨p, d1, d2, l, _⟩ := more_stepH hm (h u List.mem_cons_self)
    obtain ⟨q, e1, e2, k⟩ := moreH_spec (hs := us) p fun v hv => h v (List.mem_cons_of_mem _ hv)
    refine ⟨q, Int.dvd_trans d1 e1, fun v hv => ?_, ?_⟩
    · rcases List.mem_cons.mp hv with rfl | hv
      · exact Int.dvd_trans d2 e1
      · exact e2 v hv
    · refine Nat.le_trans k ?_
      show _ ≤ m.natAbs * (prodH u * prodHs us)
      rw [← Nat.mul_assoc]
      exact Nat.mul_le_mul_right _ l
theorem moreH_next {m : Int} {hs : List Hd} {i : Nat} {h : Hd} (e : hs[i]? = some h) : moreH m (hs.take (i + 1)) = comI [(1, moreH m (hs.take i)), (1, gOf h)] := by
  obtain ⟨hi, rfl⟩ := List.getElem?_eq_some_iff.mp e
  unfold moreH
  rw [← List.take_append_getElem hi, List.foldl_append]
  rfl
theorem prodH_pos {n : Nat} {h : Hd} (b : HB n h) : 1 ≤ prodH h := Nat.mul_pos (by decide) (prodD_pos b.d2)
theorem prodHs_pos {n : Nat} : ∀ {hs : List Hd}, (∀ h ∈ hs, HB n h) → 1 ≤ prodHs hs
  | [], _ => Nat.le_refl _
  | u :: us, h => Nat.mul_pos (prodH_pos (h u List.mem_cons_self)) (prodHs_pos fun v hv => h v (List.mem_cons_of_mem _ hv))
theorem prodHs_step {n : Nat} : ∀ {hs : List Hd} {i : Nat} {u : Hd}, (∀ h ∈ hs, HB n h) → hs[i]? = some u → prodHs (hs.take i) * prodH u ≤ prodHs hs
  | v :: us, 0, u, h, e => by
    cases e
    rw [List.take_zero]
    show 1 * prodH v ≤ prodH v * prodHs us
    rw [Nat.one_mul]
    exact Nat.le_mul_of_pos_right _ (prodHs_pos fun v hv => h v (List.mem_cons_of_mem _ hv))
  | v :: us, i + 1, u, h, e => by
    show prodH v * prodHs (us.take i) * prodH u ≤ prodH v * prodHs us
    rw [Nat.mul_assoc]
    exact Nat.mul_le_mul_left _ (prodHs_step (hs := us) (i := i) (fun v hv => h v (List.mem_cons_of_mem _ hv)) e)
theorem div9 {m : Int} (h1 : 1 ≤ m) (h2 : m ≤ 9) : m ∣ 2520 := by
  have : m = 1 ∨ m = 2 ∨ m = 3 ∨ m = 4 ∨ m = 5 ∨ m = 6 ∨ m = 7 ∨ m = 8 ∨ m = 9 := by omega
  rcases this with rfl | rfl | rfl | rfl | rfl | rfl | rfl | rfl | rfl <;> decide
theorem gvfit_of {n : Nat} {W : Int} {h : Hd} (b : HB n h) (w0 : 0 < W) (w1 : W.natAbs < 2 ^ 800) (hd : gOf h ∣ W) : GvFit n W h.giv := by
  obtain ⟨b1, b2, b3⟩ := comI_spec b.d2
  refine ⟨b.gl, w0, w1, fun e he => ?_⟩
  obtain ⟨c1, c2, c3, c4⟩ := b.giv e he
  refine ⟨c1, c2, c3, fun m m1 m2 => Int.dvd_trans ?_ hd, c4⟩
  unfold gOf
  rw [Int.mul_comm]
  exact Int.mul_dvd_mul (div9 m1 m2) (b2 _ (List.mem_map_of_mem he))
abbrev mH : Hd → Int := fun h => mOf h.sc
theorem hsfit_of {n : Nat} {hs : List Hd} (h : ∀ u ∈ hs, HB n u) (hp : prodHs hs < 2 ^ 800) (hl : hs.length ≤ 1000) (hg : (hs.map fun u => u.giv.length).sum ≤ 600) : HsFit n mH (moreH 1 hs) hs := by
  obtain ⟨w0, _, wd, wl⟩ := moreH_spec (m := 1) (by decide) h
  have w1 : (moreH 1 hs).natAbs < 2 ^ 800 := Nat.lt_of_le_of_lt wl (by rw [show (1 : Int).natAbs = 1 from rfl, Nat.one_mul]; exact hp)
  exact ⟨fun u hu => (h u hu).sc, fun u hu => gvfit_of (h u hu) w0 w1 (wd u hu), hl, hg, w0, w1⟩
/-! the rows of `made` under way -/
def rowKH (W : Int) (hs : List Hd) (Xss : List (List Int)) (k j : Nat) : List Int := (headG W mH (hs.take k) Xss j).foldl addG ((Xss.getD j []).map (· * W))
def rowsAtH (W : Int) (hs : List Hd) (Xss : List (List Int)) (k m : Nat) : List (List Int) := (List.range Xss.length).map fun j => rowKH W hs Xss (if j < m then k + 1 else k) j
section
variable {W : Int} {hs : List Hd} {Xss : List (List Int)} {k m : Nat}
theorem rowsAtH_0 : rowsAtH W hs Xss k 0 = (List.range Xss.length).map (rowKH W hs Xss k) := by
  unfold rowsAtH
  simp only [Nat.not_lt_zero, if_false]
theorem rowsAtH_n : rowsAtH W hs Xss k Xss.length = (List.range Xss.length).map (rowKH W hs Xss (k + 1)) := by
  unfold rowsAtH
  refine List.map_congr_left fun j hj => ?_
  rw [if_pos (List.mem_range.mp hj)]
theorem rowsAtH_get (h : m < Xss.length) : (rowsAtH W hs Xss k m)[m]? = some (rowKH W hs Xss k m) := by
  unfold rowsAtH
  rw [List.getElem?_map, List.getElem?_range h]
  simp
theorem rowsAtH_set (h : m < Xss.length) : (rowsAtH W hs Xss k m).set m (rowKH W hs Xss (k + 1) m) = rowsAtH W hs Xss k (m + 1) := by
  unfold rowsAtH
  refine List.ext_getElem (by simp) fun j h1 h2 => ?_
  rw [List.getElem_set]
  simp only [List.getElem_map, List.getElem_range]
  by_cases c : m = j
  · subst c
    rw [if_pos rfl, if_pos (Nat.lt_succ_self _)]
  · rw [if_neg c]
    by_cases d : j < m
    · rw [if_pos d, if_pos (by omega)]
    · rw [if_neg d, if_neg (by omega)]
theorem rowKH_0 : (List.range Xss.length).map (rowKH W hs Xss 0) = Xss.map fun Xs => Xs.map (· * W) := map_getD Xss fun Xs => Xs.map (· * W)
theorem rowKH_all : (List.range Xss.length).map (rowKH W hs Xss hs.length) = headRs W mH hs Xss := by
  unfold headRs
  refine List.map_congr_left fun j _ => ?_
  unfold rowKH headR
  rw [List.take_length]
theorem rowKH_next {h : Hd} (e : hs[k]? = some h) (j : Nat) : rowKH W hs Xss (k + 1) j = (h.giv.map (giH W Xss (lookI (scRow (mOf h.sc) h.sc Xss j)))).foldl addG (rowKH W hs Xss k j) := by
  obtain ⟨hk, rfl⟩ := List.getElem?_eq_some_iff.mp e
  unfold rowKH headG
  rw [← List.take_append_getElem hk, List.flatMap_append, List.flatMap_singleton, List.foldl_append]
theorem rowKH_len (j : Nat) : (rowKH W hs Xss k j).length = (Xss.getD j []).length := by
  unfold rowKH
  rw [foldG_len, List.length_map]
end
end LK

set_option Elab.async false
set_option linter.all false
set_option maxRecDepth 100000
namespace LK
open PySem PySem.Spec PyProof.Rows L2
local macro_rules | `(tactic| walk_at "rs") => `(tactic| simp only [cxK, cxNK, tCallZ, tAsg, tOp, rI0, rS0, rB0, rI, rU, tUn, rEq, rNe, rIxL, rIxT, rIxS, rSetL, rSlLU, rSlS, rSlU, rCatL, rCatU, rRepL, rIn, tVar, tC, gName, gSub, tIfS, tTest, tB, tAnd, tOr, tNot, tNotV, tAndV, tOrV, tIf, tCall, tCons, tNil, tCB, tDrop, tRet, tRetN, tNext, tLstU, tTupU, tM0, tM1, tPar, tPar3, tAug, ipI, tBM, tBM0, rAppend, rPop, tBreak, tCont, tChain, tSl, tPart, tNoPart, L2.start, List.map, List.length_cons, List.length_nil, List.replicate, List.cons_append, List.nil_append, List.append_nil, List.getElem?_cons_zero, List.getElem?_cons_succ, List.set_cons_zero, List.set_cons_succ, Option.some.injEq, V.int.injEq, V.ref.injEq, V.str.injEq, V.bl.injEq, exists_eq_left', exists_eq_left, exists_and_left, decide_eq_true_eq, List.cons.injEq, and_true, true_and, scal, Bool.not_eq_true', decide_eq_false_iff_not, Nat.zero_add, Nat.reduceAdd, Nat.reduceSub, reduceCtorEq, false_and, exists_false, false_or, or_false, CPow, CPowW, CMul, CDiv, Int.reduceToNat, ↓reduceIte, wipe, sw, List.nil_append, List.singleton_append])
local macro_rules | `(tactic| walk_at "st") => `(tactic| (refine seq_op fun N hN => ?_; walk_at "rs"))
local macro_rules | `(tactic| walk_at "sd") => `(tactic| first | assumption | decide | omega)
local macro_rules | `(tactic| walk_at "rd") => `(tactic| repeat (first
  | refine ⟨_, SqL.of (by assumption), ?_⟩ | refine ⟨_, SqL.of upd_same, ?_⟩ | refine ⟨_, .inl (SqL.of (by assumption)), ?_⟩ | refine ⟨_, (by assumption : _ = some (HO.lst _)), ?_⟩ | refine ⟨_, upd_same, ?_⟩
  | refine ⟨_, rfl, ?_⟩ | refine And.intro (by walk_at "sd") ?_))

theorem none_of {H H' : Hp} {a : Addr} (s : Same H H') (h : H' a = none) : H a = none := Same.dom s a h
section
variable {P : Program} {w : World} {K : PySem.W.Frag} {mg : Str → Option Value} {base : Heap}
def sp_afterH (K : PySem.W.Frag) : Sp := fun vs H Q _ => ∃ (sv : V) (ua : Addr) (us : List V) (hs : List Hd) (Xss : List (List Int)) (n : Nat) (L : Int), vs = [sv, .ref ua] ∧ StateAt K H sv L Xss ∧ (∀ Xs ∈ Xss, Xs.length = n ∧ LimS L Xs) ∧ 0 < L ∧ L.natAbs < 2 ^ 400 ∧ Xss.length ≤ 9 ∧ n ≤ 1000 ∧ (SqL K H ua us ∨ SqT K H ua us) ∧ Heads K H us hs ∧ (∀ u ∈ hs, HB n u) ∧ prodHs hs < 2 ^ 800 ∧ hs.length ≤ 1000 ∧ (hs.map fun u => u.giv.length).sum ≤ 600 ∧
  ∀ (v : V) H', Same H H' → StateAt K H' v (L * moreH 1 hs) (headRs (moreH 1 hs) mH hs Xss) → Q v H'
theorem ok__law_after_heads (T : Txt w K mg) : FnOk P w K mg base CX0 5 T.a__law_after_heads T.d__law_after_heads ["state", "heads_y"] (sp_afterH K) := by
  refine T.F__law_after_heads.ok sc__law_after_heads (fun vs H Q E h => ?_) (fun cdv A outer s H vs Q E hr h => ?_)
  · obtain ⟨sv, ua, us, hs, Xss, n, L, rfl, _⟩ := h
    rfl
  · obtain ⟨sv, ua, us, hs, Xss, n, L, rfl, hst, lim, L0, lL, lX, ln, hua, hus, ub, pU, lw, lg, k⟩ := h
    obtain ⟨sa, pa, ps, rfl, hsa, hpa, hps⟩ := id hst
    have hr__law_common : Room 2 _ := hr.mono (by decide)
    have G__law_common := ok__law_common (P := P) (base := base) T
    have hr__law_seen : Room 4 _ := hr
    have G__law_seen := ok__law_seen (P := P) (base := base) T
    have uf := hsfit_of ub pU lw lg
    have lu := hus.len
    have lp := hps.len
    refine ⟨_, (pss_cons (ps_asg (pv 0) (pg_tup rfl (pgs_cons (pg_name (i := 2) sc__law_after_heads.nd rfl (Or.inl rfl)) (pgs_cons (pg_name (i := 3) sc__law_after_heads.nd rfl (Or.inr rfl)) pgs_nil))))
      (pss_cons (ps_set (i := 4) sc__law_after_heads.nd rfl (Or.inr rfl) pe_int)
      (pss_cons (ps_for PassesOwn.never rfl (pi_lt (pv 1)) (pg_name (i := 5) sc__law_after_heads.nd rfl (Or.inl rfl)) (pss_one (ps_set (i := 4) sc__law_after_heads.nd rfl (Or.inr rfl) (pe_call G__law_common hr__law_common (by rfl) T.m__law_common T.F__law_common.kp T.B__law_common .nil pass0 (pa_cons (pe_lstU (pa_cons (pe_tupU (pa_cons pe_int (pa_cons (pv 4) pa_nil))) (pa_cons (pe_tupU (pa_cons pe_int (pa_cons (pe_op op_mulW pe_int (pe_call G__law_common hr__law_common (by rfl) T.m__law_common T.F__law_common.kp T.B__law_common .nil pass0 (pa_cons (pe_lc (own := [("one", 9)]) (g := gName 9) (tt := tYes) rfl sc__law_after_heads.nd (pi_tup (pe_ix ix_tup (pv 5) pe_int (fun _ _ => rfl))) (blkOk_by (own := [("one", 9)]) (N := N__law_after_heads) (sc := defScope s__law_after_heads) (by decide +kernel)) (fun _ _ _ _ _ => pg_name (i := 9) sc__law_after_heads.nd rfl (Or.inl rfl)) (fun _ _ _ _ _ => pts_nil) (fun _ _ _ _ _ => (pe_ix (ix_tupK (K := K) rfl) (pv 9) pe_int (fun _ _ => rfl)))) pa_nil))) pa_nil))) pa_nil))) pa_nil)))))
      (pss_cons (ps_setLc (i := 6) (own := [("row", 11)]) (g := gName 11) (tt := tYes) rfl sc__law_after_heads.nd rfl rfl (sw_true rfl rfl rfl (by decide +kernel)) (pi_list (pv 3)) (blkOk_by (own := [("row", 11)]) (N := N__law_after_heads) (sc := defScope s__law_after_heads) (by decide +kernel)) (fun _ _ _ _ _ => pg_name (i := 11) sc__law_after_heads.nd rfl (Or.inl rfl)) (fun _ _ _ _ _ => pts_nil) (fun _ _ _ _ _ => (pe_lc (own := [("one", 9)]) (g := gName 9) (tt := tYes) rfl sc__law_after_heads.nd (pi_listK (K := K) rfl (pv 11)) (blkOk_by (own := [("one", 9)]) (N := N__law_after_heads) (by kernel_rfl)) (fun _ _ _ _ _ => pg_name (i := 9) sc__law_after_heads.nd rfl (Or.inl rfl)) (fun _ _ _ _ _ => pts_nil) (fun _ _ _ _ _ => (pe_op op_mulW (pv 9) (pv 4))))))
      (pss_cons (ps_for PassesOwn.never rfl (pi_lt (pv 1)) (pg_name (i := 5) sc__law_after_heads.nd rfl (Or.inl rfl)) (pss_one (ps_for PassesOwn.never rfl (pi_range1 (by rfl) T.n_range (pa_cons (pe_callB call_len_seq (by rfl) T.n_len (by decide +kernel) (pa_cons (pv 3) pa_nil)) pa_nil)) (pg_name (i := 7) sc__law_after_heads.nd rfl (Or.inl rfl)) (pss_cons (ps_set (i := 8) sc__law_after_heads.nd rfl (Or.inl rfl) (pe_call G__law_seen hr__law_seen (by rfl) T.m__law_seen T.F__law_seen.kp T.B__law_seen .nil pass0 (pa_cons (pv 0) (pa_cons (pv 5) (pa_cons (pv 7) pa_nil)))))
      (pss_one (ps_for PassesOwn.never rfl (pi_tup (pe_ix ix_tup (pv 5) pe_int (fun _ _ => rfl))) (pg_name (i := 9) sc__law_after_heads.nd rfl (Or.inr rfl)) (pss_cons (ps_set (i := 10) sc__law_after_heads.nd rfl (Or.inl rfl) (pe_callB (cr_sum rfl) (by rfl) T.n_sum (by decide +kernel) (pa_cons (pe_lc (own := [("k", 12)]) (g := gName 12) (tt := tYes) rfl sc__law_after_heads.nd (pi_list (pv 8)) (blkOk_by (own := [("k", 12)]) (N := N__law_after_heads) (sc := defScope s__law_after_heads) (by decide +kernel)) (fun _ _ _ _ _ => pg_name (i := 12) sc__law_after_heads.nd rfl (Or.inl rfl)) (fun _ _ _ _ _ => pts_nil) (fun _ _ _ _ _ => (pe_ix (ix_listK (K := K) rfl) (pe_ix (ix_listK (K := K) rfl) (pv 3) (pv 12) (fun _ _ => rfl)) (pe_ix (ix_tupK (K := K) rfl) (pv 9) pe_int (fun _ _ => rfl)) (fun _ _ => rfl)))) pa_nil)))
      (pss_one (ps_augS (pe_ix ix_list (pv 6) (pv 7) (fun _ _ => rfl)) (pe_ix ix_tup (pv 9) pe_int (fun _ _ => rfl)) get_list (pe_op op_mulW (pe_op op_mulW (pv 10) (pe_ix ix_tup (pe_ix ix_tup (pv 9) pe_int (fun _ _ => rfl)) pe_int (fun _ _ => rfl))) (pe_op op_fdivF (pv 4) (pe_op op_mulW (pe_ix ix_tup (pe_ix ix_tup (pv 9) pe_int (fun _ _ => rfl)) pe_int (fun _ _ => rfl)) (pe_callB call_len_seq (by rfl) T.n_len (by decide +kernel) (pa_cons (pv 8) pa_nil))))) ip_add set_list)))))))))
      (pss_one (ps_ret (pe_tupU (pa_cons (pe_op op_mulW (pv 2) (pv 4)) (pa_cons (pv 6) pa_nil)))))))))), ?_⟩
    refine seq_op fun N hN => ?_
    walk_at "rs"
    refine ⟨_, _, rfl, hsa, rfl, ?_⟩
    unfold gCons gNil
    walk_at "rs"
    refine ⟨_, _, ⟨rfl, rfl⟩, _, _, rfl, rfl, hN _ _ ?_⟩
    clear hN N
    refine seq_op fun N hN => ?_
    walk_at "rs"
    refine hN _ _ ?_
    clear hN N
    refine cut_seq (fun σ H2 => ∃ x5 x9 : Option V, σ = [some (.ref sa), some (.ref ua), some (.int L), some (.ref pa), some (.int (moreH 1 hs)), x5, none, none, none, x9, none, none, none] ∧ Same H H2) (fun N hN => ?_) ?_
    · refine for_lt (K := K) (a := ua) (xs := us) (fun Q q => ⟨_, rfl, q⟩) hua (fun i σ H2 => ∃ x5 x9 : Option V, σ = [some (.ref sa), some (.ref ua), some (.int L), some (.ref pa), some (.int (moreH 1 (hs.take i))), x5, none, none, none, x9, none, none, none] ∧ Same H H2) ⟨_, _, rfl, Same.refl _⟩ (fun i σ H2 ⟨_, _, _, s⟩ => s) ?_ ?_
      · rintro i y σ H2 hi ⟨x5, x9, rfl, s2⟩
        obtain ⟨u, eu, hu⟩ := hus.get hi
        have b := ub u (List.mem_of_getElem? eu)
        obtain ⟨m0, _, _, ml⟩ := moreH_spec (m := 1) (hs := hs.take i) (by decide) fun v hv => ub v (List.mem_of_mem_take hv)
        obtain ⟨va, ta, ga, xs, ys, rfl, h1, h2, h3, h5, h6⟩ := hu.same s2
        walk_at "rs"
        refine ⟨by decide, fun pt H5 s5 _ t5 => ?_⟩
        refine lc_dens3 (K := K) (by simp) (fun Q q => ⟨_, rfl, va, _, 1, .ref ga, rfl, rfl, Same.seqT s5 h1, rfl, q⟩) (Same.seqT s5 h5) (h6.same s5) b.gl fun p6 zs6 H6 s6 _ q6 f6 => ?_
        obtain ⟨b1, _, b3⟩ := comI_spec b.d2
        have gl : (comI (u.giv.map (·.2))).natAbs < 2 ^ 100 := Nat.lt_of_le_of_lt b3 b.qb
        obtain ⟨c1, _, _, _, c5⟩ := more_stepH m0 b
        have pr : prodD [(1, moreH 1 (hs.take i)), (1, gOf u)] < 2 ^ 4000 := by
          refine pow_le (a := 800) (Nat.lt_of_le_of_lt (Nat.le_trans c5 ?_) pU) (by decide)
          refine Nat.le_trans (Nat.mul_le_mul_right _ ml) ?_
          rw [show (1 : Int).natAbs = 1 from rfl, Nat.one_mul]
          exact prodHs_step ub eu
        refine ⟨p6, zs6, u.giv.map (·.2), rfl, .inl (SqL.of q6), f6, b.d2, pow_le (a := 100) b.qb (by decide), fun H7 s7 => ⟨_, rfl, mulW (Nat.lt_of_lt_of_le (show (2520 : Int).natAbs < 2 ^ 12 by decide) (Nat.pow_le_pow_right (by decide) (by decide))) (pow_le gl (by decide)), by decide, fun p8 H8 s8 _ t8 => ⟨by decide, fun p9 H9 s9 _ t9 => ?_⟩⟩⟩
        have s79 := Same.trans s7 (Same.trans s8 s9)
        refine ⟨p9, _, [(1, moreH 1 (hs.take i)), (1, gOf u)], rfl, .inl (SqL.of t9), .cons (.inl (.inl (s79 _ _ (s6 _ _ t5)))) (.cons (.inl (.inl (s9 _ _ t8))) .nil), fun f hf => ?_, pr, fun H10 s10 => ⟨_, _, ⟨by rw [moreH_next eu], rfl, rfl⟩, Same.trans s2 (Same.trans s5 (Same.trans s6 (Same.trans s79 s10)))⟩⟩
        simp only [List.mem_cons, List.not_mem_nil, or_false] at hf
        rcases hf with rfl | rfl
        · exact m0
        · exact Int.mul_pos (by decide) b1
      · rintro σ H2 ⟨x5, x9, rfl, s2⟩
        refine hN _ _ ⟨x5, x9, ?_, s2⟩
        rw [lu, List.take_length]
    · rintro σ H2 ⟨x5, x9, rfl, s2⟩
      generalize hW : moreH 1 hs = W at *
      refine seq_op fun N hN => ?_
      walk_at "rs"
      refine ⟨_, rfl, pa, rfl, ⟨ps, s2.seq hpa⟩, fun D hD => lc_accE walk_list (fun i H ys => ys.length = i ∧ Sole ys ∧ ∀ (j : Nat) (v : V) (Ys : List Int), ys[j]? = some v → (Xss.map fun (Xs : List Int) => Xs.map (· * W))[j]? = some Ys → ∃ r, v = .ref r ∧ r ≠ D ∧ H2 r = none ∧ H r = some (.lst (Ys.map V.int))) hD (by omega) (fun i H ys o ⟨p0, p1, p2⟩ => ⟨p0, p1, fun j v Ys e1 e2 => ?_⟩) (fun H => ⟨rfl, fun i j v e _ => by simp at e, fun j v Ys e1 e2 => by simp at e1⟩) (fun H s => s.seq (s2.seq hpa)) (fun i x H3 H4 ys hi s3 hD3 ⟨p0, p1, p2⟩ y => ?_) (fun x σ0 H0 Q0 Q1 h q => h _ _ q) fun H3 ms s3 h3 hl ⟨p0, p1, p2⟩ => hN _ _ ?_⟩
      · obtain ⟨r, k1, k2, k3, k4⟩ := p2 j v Ys e1 e2
        exact ⟨r, k1, k2, k3, by rw [upd_ne k2]; exact k4⟩
      · obtain ⟨rfl, hx⟩ := y
        obtain ⟨q, Xs, eq, eX, hq⟩ := hps.get (n := i) (by omega)
        obtain rfl : x = .ref q := by rw [eq] at hx; exact (Option.some.inj hx).symm
        have s04 := Same.trans s2 s3
        obtain ⟨xl, xm⟩ := lim Xs (List.mem_of_getElem? eX)
        refine ⟨Same.refl _, rfl, fun Q2 hq2 => ?_⟩
        refine ⟨_, rfl, q, rfl, ⟨_, s04.seq hq⟩, fun D1 hD1 => lc_pure walk_list hD1 (by rw [List.length_map]; omega) (fun j => .int (Xs.getD j 0 * W)) (fun H5 s5 => (Same.trans s04 s5).seq hq) (fun j y H5 H6 hj s5 yy => ?_) (fun x σ0 H0 Q0 Q1 h q => h _ _ q) fun H5 s5 h5 => hq2 _ _ s5 ⟨by rw [List.length_append, p0]; rfl, p1.app ?_, fun j v Ys e1 e2 => ?_⟩⟩
        · obtain ⟨rfl, hy⟩ := yy
          rw [List.length_map] at hj
          have ej : Xs[j]? = some Xs[j] := List.getElem?_eq_getElem hj
          obtain rfl : y = .int Xs[j] := by rw [List.getElem?_map, ej] at hy; exact (Option.some.inj hy).symm
          have eg : Xs.getD j 0 = Xs[j] := by rw [List.getD_eq_getElem?_getD, ej]; rfl
          refine ⟨Same.refl _, rfl, fun Q3 hq3 => ?_⟩
          rw [eg] at hq3
          refine ⟨_, rfl, _, rfl, Xs[j], W, rfl, rfl, mulW (pow_le (xm.2.2 _ (List.getElem_mem hj)) (by decide)) (pow_le uf.W1 (by decide)), hq3 _ (Same.refl _)⟩
        · intro j e
          have lj : j < Xss.length := by
            have := (List.getElem?_eq_some_iff.mp e).1
            omega
          obtain ⟨r, k1, _, _, k4⟩ := p2 j _ _ e (by rw [List.getElem?_map, List.getElem?_eq_getElem lj]; rfl)
          cases k1
          rw [hD1] at k4
          cases k4
        · rw [List.getElem?_append] at e1
          split at e1
          · obtain ⟨r, k1, k2, k3, k4⟩ := p2 j v Ys e1 e2
            exact ⟨r, k1, k2, k3, s5 _ _ k4⟩
          · obtain ⟨l, g⟩ := List.getElem?_eq_some_iff.mp e1
            have ev : v = .ref D1 := by rw [← g]; simp
            have ej : j = i := by simp at l; omega
            subst ej
            rw [List.getElem?_map, eX] at e2
            cases e2
            refine ⟨D1, ev, (fun z => by rw [z, hD3] at hD1; cases hD1), none_of s3 hD1, ?_⟩
            rw [h5, List.length_map, map_getD Xs (fun z => V.int (z * W)), List.map_map]
            rfl
      · clear hN N
        have md : Made H2 H3 D ms (Xss.map fun (Xs : List Int) => Xs.map (· * W)) := ⟨s3, hD, h3, by rw [hl, List.length_map]; exact lp, p1, p2⟩
        clear p0 p1 p2 hl h3
        refine cut_seq (fun σ H4 => ∃ x5 x7 x8 x9 x10 : Option V, σ = [some (.ref sa), some (.ref ua), some (.int L), some (.ref pa), some (.int W), x5, some (.ref D), x7, x8, x9, x10, none, none] ∧ Made H2 H4 D ms (headRs W mH hs Xss)) (fun N hN => ?_) ?_
        · refine for_lt (K := K) (a := ua) (xs := us) (fun Q q => ⟨_, rfl, q⟩) hua (fun i σ H4 => ∃ x5 x7 x8 x9 x10 : Option V, σ = [some (.ref sa), some (.ref ua), some (.int L), some (.ref pa), some (.int W), x5, some (.ref D), x7, x8, x9, x10, none, none] ∧ Made H2 H4 D ms ((List.range Xss.length).map (rowKH W hs Xss i))) ⟨_, _, _, _, _, rfl, by rw [rowKH_0]; exact md⟩ (fun i σ H4 ⟨_, _, _, _, _, _, m4⟩ => Same.trans s2 m4.same) ?_ ?_
          · rintro i y σ H4 hi ⟨x5, x7, x8, x9, x10, rfl, m4⟩
            obtain ⟨u, eu, hu⟩ := hus.get hi
            have b := ub u (List.mem_of_getElem? eu)
            have gv := uf.gv u (List.mem_of_getElem? eu)
            obtain ⟨va, ta, ga, xs, ys, rfl, g1, g2, g3, g5, g6⟩ := id hu
            have le6 := g6.len
            walk_at "rs"
            refine ⟨_, rfl, pa, rfl, ps, .inl ((Same.trans s2 m4.same).seq hpa), (ps.length : Int), rfl, by omega, by omega, for_range (lo := 0) (n := ((ps.length : Int)).toNat) (fun m σ H7 => ∃ x7 x8 x9 x10 : Option V, σ = [some (.ref sa), some (.ref ua), some (.int L), some (.ref pa), some (.int W), some (.ref va), some (.ref D), x7, x8, x9, x10, none, none] ∧ Made H2 H7 D ms (rowsAtH W hs Xss i m)) ⟨_, _, _, _, rfl, by rw [rowsAtH_0]; exact m4⟩ ?_ ?_⟩
            · rintro m σ H7 hm ⟨x7, x8, x9, x10, rfl, m7⟩
              have hm' : m < Xss.length := by omega
              refine seq_op fun N hN => ?_
              walk_at "rs"
              have s7 := Same.trans s2 m7.same
              refine ⟨.ref sa, .ref va, u, m, n, L, Xss, by rw [Int.zero_add], hst.same s7, hu.same s7, lim, lX, b.sc, b.pb, hm', fun p H8 s8 p0 p1 => hN _ _ ?_⟩
              clear hN N
              have lS : (scRow (mOf u.sc) u.sc Xss m).length = Xss.length := List.length_map ..
              have kne : lookI (scRow (mOf u.sc) u.sc Xss m) ≠ [] := look_ne fun e => by rw [e, List.length_nil] at lS; omega
              have klt : ∀ k ∈ lookI (scRow (mOf u.sc) u.sc Xss m), k < Xss.length := fun k hk => by rw [← lS]; exact look_lt hk
              have kle : (lookI (scRow (mOf u.sc) u.sc Xss m)).length ≤ Xss.length := by rw [← lS]; exact look_len _
              have rn := rowKH_next (W := W) (Xss := Xss) eu m
              generalize lookI (scRow (mOf u.sc) u.sc Xss m) = ks at *
              have lk1 : 1 ≤ ks.length := by cases ks with
                | nil => exact absurd rfl kne
                | cons a b => rw [List.length_cons]; omega
              have mX := rowsAtH_get (W := W) (hs := hs) (k := i) hm'
              obtain ⟨v, ev⟩ : ∃ v, ms[m]? = some v := ⟨_, List.getElem?_eq_getElem (by rw [m7.len]; unfold rowsAtH; simpa using hm')⟩
              obtain ⟨r, er, r1, r2, r3⟩ := m7.row m v _ ev mX
              subst er
              have pr : r ≠ p := fun z => by rw [← z, r3] at p0; cases p0
              have m8 := m7.mono s8
              have lm : m < (rowsAtH W hs Xss i m).length := (List.getElem?_eq_some_iff.mp mX).1
              refine ⟨_, rfl, va, _, 1, .ref ga, rfl, rfl, Same.seqT (Same.trans s7 s8) g1, rfl, ga, rfl, ⟨ys, Same.seqT (Same.trans s7 s8) g5⟩, for_tup (K := K) (a := ga) (xs := ys) (fun t σ H9 => ∃ x9 x10 : Option V, σ = [some (.ref sa), some (.ref ua), some (.int L), some (.ref pa), some (.int W), some (.ref va), some (.ref D), some (.int (0 + (m : Int))), some (.ref p), x9, x10, none, none] ∧ Made H2 H9 D ms ((rowsAtH W hs Xss i m).set m (((u.giv.take t).map (giH W Xss ks)).foldl addG (rowKH W hs Xss i m))) ∧ H9 p = some (.lst (ks.map fun (k : Nat) => V.int (k : Int)))) ⟨_, _, rfl, ?_, p1⟩ (fun t σ H9 _ ⟨_, _, _, m9, _⟩ => Same.seqT (Same.trans s2 m9.same) g5) ?_ ?_⟩
              · rw [List.take_zero]
                show Made H2 _ D ms ((rowsAtH W hs Xss i m).set m (rowKH W hs Xss i m))
                rw [set_self mX]
                exact m8
              · rintro t y σ H9 ht ⟨x9, x10, rfl, m9, p9⟩
                obtain ⟨a1, u1, c, d, f, e1, e2, k1, k2⟩ := g6.get (n := t) (by have := (List.getElem?_eq_some_iff.mp ht).1; omega)
                obtain rfl : y = .ref a1 := by rw [e1] at ht; exact (Option.some.inj ht).symm
                obtain ⟨c1, c2, c3, c4, c5⟩ := gv.all _ (List.mem_of_getElem? e2)
                dsimp only at c1 c2 c3 c4 c5
                have s9 := Same.trans s2 m9.same
                refine seq_op fun N hN => ?_
                walk_at "rs"
                refine ⟨_, rfl, p, rfl, ⟨_, SqL.of p9⟩, fun D2 hD2 => lc_map (n := (ks.map fun (k : Nat) => V.int (k : Int)).length) walk_list (ks.map fun (k : Nat) => V.int (k : Int)) (fun v => match v with | .int j => .int ((Xss.getD j.toNat []).getD d 0) | _ => .non) hD2 (by rw [List.length_map]; omega) rfl (fun i H2 x H3 hi y => y) (fun H s => s.seq (SqL.of p9)) (fun x H10 hx s10 Q2 hq => ?_) fun H10 s10 h10 => ?_⟩
                · obtain ⟨k0, hk0, rfl⟩ := List.mem_map.mp hx
                  have hk1 := klt k0 hk0
                  obtain ⟨q, Xs, eq, eX, hq2⟩ := hps.get (n := k0) hk1
                  obtain ⟨xl, li⟩ := lim Xs (List.mem_of_getElem? eX)
                  have s90 := Same.trans s9 s10
                  have eg : Xss.getD k0 [] = Xs := by rw [List.getD_eq_getElem?_getD, eX]; rfl
                  have eV : (Xs.map V.int)[d]? = some (.int (Xs.getD d 0)) := by
                    rw [List.getElem?_map, List.getD_eq_getElem?_getD, List.getElem?_eq_getElem (by omega)]
                    rfl
                  walk_at "rs"
                  refine ⟨_, s90.seq hpa, _, at_ofN rfl eq, _, Same.seqT s90 k1, _, rfl, q, rfl, _, (d : Int), rfl, s90.seq hq2, _, at_ofN rfl eV, ?_⟩
                  have this : Q2 (V.int ((Xss.getD ((k0 : Int)).toNat []).getD d 0)) H10 := hq H10 (Same.refl _)
                  rw [show ((k0 : Int)).toNat = k0 from Int.toNat_natCast k0, eg] at this
                  exact this
                · rw [List.map_map] at h10
                  have h11 : H10 D2 = some (.lst ((ks.map fun k => (Xss.getD k []).getD d 0).map V.int)) := by
                    rw [h10, List.map_map]
                    rfl
                  refine ⟨D2, _, rfl, SqL.of h11, hN _ _ ?_⟩
                  clear hN N
                  show _
                  have bt := tot_lim lim d (ks := ks)
                  have et : (ks.map fun k => (Xss.getD k []).getD d 0).sum = tot Xss ks d := rfl
                  rw [et]
                  have m10 := m9.mono s10
                  have p10 := s10 _ _ p9
                  have s0 := Same.trans s2 m10.same
                  obtain ⟨r', er', _, _, r8⟩ := m10.row m (.ref r) _ ev (List.getElem?_set_self lm)
                  cases er'
                  simp only [tAugS, rGetL]
                  walk_at "rs"
                  generalize hY : ((u.giv.take t).map (giH W Xss ks)).foldl addG (rowKH W hs Xss i m) = Ys at m10 r8
                  have ly : Ys.length = n := by
                    rw [← hY, foldG_len, rowKH_len, List.getD_eq_getElem?_getD, List.getElem?_eq_getElem hm']
                    exact (lim _ (List.getElem_mem hm')).1
                  have eY : (Ys.map V.int)[c]? = some (.int (Ys.getD c 0)) := by
                    rw [List.getElem?_map, List.getD_eq_getElem?_getD, List.getElem?_eq_getElem (by omega)]
                    rfl
                  have k1' := Same.seqT (Same.trans s9 s10) k1
                  have k2' : Pr K H10 u1 f.1 f.2 := Same.seqT (Same.trans s9 s10) k2
                  have W1 := uf.W1
                  have W0 := uf.W0
                  have hd := c4 (ks.length : Int) (by omega) (by omega)
                  have f0 : 0 < f.2 := c3.1
                  have p0' : 0 < f.2 * (ks.length : Int) := Int.mul_pos f0 (by omega)
                  have pl : (f.2 * (ks.length : Int)).natAbs < 2 ^ 800 := Nat.lt_of_le_of_lt (Nat.le_of_dvd (natAbs_pos W0) (Int.natAbs_dvd_natAbs.mpr hd)) W1
                  have fl : f.2.natAbs < 2 ^ 800 := Nat.lt_of_le_of_lt (Nat.le_of_dvd (natAbs_pos W0) (Int.natAbs_dvd_natAbs.mpr (Int.dvd_trans (Int.dvd_mul_right _ _) hd))) W1
                  have ef2 : W.fdiv (f.2 * (ks.length : Int)) = W / (f.2 * (ks.length : Int)) := Int.fdiv_eq_ediv_of_nonneg _ (by omega)
                  have wl : (W / (f.2 * (ks.length : Int))).natAbs < 2 ^ 800 := Nat.lt_of_le_of_lt (Int.natAbs_ediv_le_natAbs _ _) W1
                  have b1 : (tot Xss ks d * f.1).natAbs < 2 ^ (455 + ks.length + 64) := wide_lt bt c5
                  have lkl : ((ks.length : Int)).natAbs < 2 ^ 4000 := pow_le (a := 4) (Nat.lt_of_le_of_lt (show ((ks.length : Int)).natAbs ≤ 9 by omega) (by decide)) (by decide)
                  have lmap : (ks.map fun (k : Nat) => V.int (k : Int)).length = ks.length := List.length_map ..
                  refine ⟨_, SqL.of m10.dl, _, at_ofN (by omega) ev, _, k1', _, rfl, r, rfl, _, c, rfl, SqL.of r8, _, eY, _, k1', _, rfl, u1, rfl, _, k2', _, rfl, f.1, rfl, mulW (pow_le bt (by omega)) (pow_le c5 (by decide)), _, k1', _, rfl, u1, rfl, _, k2', _, rfl, _, .inl (SqL.of p10), f.2, rfl, ?_⟩
                  rw [lmap]
                  refine ⟨mulW (pow_le fl (by decide)) lkl, ⟨by omega, logL pl (by decide) (by decide)⟩, ?_⟩
                  rw [ef2]
                  refine ⟨mulW (pow_le b1 (by omega)) (pow_le wl (by decide)), _, rfl, r, rfl, _, (c : Int), rfl, r8, c, ixN_nat (by rw [List.length_map]; omega), ?_⟩
                  have e3 : ((u.giv.take (t + 1)).map (giH W Xss ks)).foldl addG (rowKH W hs Xss i m) = Ys.set c (Ys.getD c 0 + tot Xss ks d * f.1 * (W / (f.2 * (ks.length : Int)))) := by
                    obtain ⟨hk, e⟩ := List.getElem?_eq_some_iff.mp e2
                    rw [← List.take_append_getElem hk, List.map_append, List.foldl_append, hY, e, Int.mul_assoc]
                    rfl
                  have m11 := m10.upd (j := m) ev (List.getElem?_set_self lm) (Ys.set c (Ys.getD c 0 + tot Xss ks d * f.1 * (W / (f.2 * (ks.length : Int)))))
                  rw [List.set_set, List.map_set] at m11
                  rw [e3]
                  refine ⟨_, _, ⟨rfl, rfl⟩, m11, ?_⟩
                  rw [upd_ne pr.symm]
                  exact p10
              · rintro σ H9 ⟨x9, x10, rfl, m9, p9⟩
                rw [le6, List.take_length, ← rn, rowsAtH_set hm'] at m9
                exact ⟨_, _, _, _, rfl, m9⟩
            · rintro σ H7 ⟨x7, x8, x9, x10, rfl, m7⟩
              have e : ((ps.length : Int)).toNat = Xss.length := by omega
              rw [e, rowsAtH_n] at m7
              exact ⟨_, _, _, _, _, rfl, m7⟩
          · rintro σ H4 ⟨x5, x7, x8, x9, x10, rfl, m4⟩
            rw [lu, rowKH_all] at m4
            exact hN _ _ ⟨x5, x7, x8, x9, x10, rfl, m4⟩
        · rintro σ H4 ⟨x5, x7, x8, x9, x10, rfl, m4⟩
          walk_at "rs"
          refine ⟨mulW (pow_le lL (by decide)) (pow_le uf.W1 (by decide)), by decide, fun p H5 s5 _ h5 => k _ _ (Same.trans s2 (Same.trans m4.same s5)) ⟨p, D, ms, rfl, .inl (.inl h5), SqL.of (s5 _ _ m4.dl), ?_⟩⟩
          exact parts_of m4.len fun j v Ys e1 e2 => by
            obtain ⟨r, k1, _, _, k4⟩ := m4.row j v Ys e1 e2
            exact ⟨r, k1, s5 _ _ k4⟩
end
end LK

set_option Elab.async false
set_option linter.all false
set_option maxRecDepth 100000
namespace LK
open PySem PySem.Spec PyProof.Rows L2
local macro_rules | `(tactic| walk_at "rs") => `(tactic| simp only [cxK, cxNK, tCallZ, tAsg, tOp, rI0, rS0, rB0, rI, rU, tUn, rEq, rNe, rIxL, rIxT, rIxS, rSetL, rSlLU, rSlS, rSlU, rCatL, rCatU, rRepL, rIn, tVar, tC, gName, gSub, tIfS, tTest, tB, tAnd, tOr, tNot, tNotV, tAndV, tOrV, tIf, tCall, tCons, tNil, tCB, tDrop, tRet, tRetN, tNext, tLstU, tTupU, tM0, tM1, tPar, tPar3, tAug, ipI, tBM, tBM0, rAppend, rPop, tBreak, tCont, tChain, tSl, tPart, tNoPart, L2.start, List.map, List.length_cons, List.length_nil, List.replicate, List.cons_append, List.nil_append, List.append_nil, List.getElem?_cons_zero, List.getElem?_cons_succ, List.set_cons_zero, List.set_cons_succ, Option.some.injEq, V.int.injEq, V.ref.injEq, V.str.injEq, V.bl.injEq, exists_eq_left', exists_eq_left, exists_and_left, decide_eq_true_eq, List.cons.injEq, and_true, true_and, scal, Bool.not_eq_true', decide_eq_false_iff_not, Nat.zero_add, Nat.reduceAdd, Nat.reduceSub, reduceCtorEq, false_and, exists_false, false_or, or_false, CPow, CPowW, CMul, CDiv, Int.reduceToNat, ↓reduceIte, wipe, sw, List.nil_append, List.singleton_append])
local macro_rules | `(tactic| walk_at "st") => `(tactic| (refine seq_op fun N hN => ?_; walk_at "rs"))
local macro_rules | `(tactic| walk_at "sd") => `(tactic| first | assumption | decide | omega)
local macro_rules | `(tactic| walk_at "rd") => `(tactic| repeat (first
  | refine ⟨_, SqL.of (by assumption), ?_⟩ | refine ⟨_, SqL.of upd_same, ?_⟩ | refine ⟨_, .inl (SqL.of (by assumption)), ?_⟩ | refine ⟨_, (by assumption : _ = some (HO.lst _)), ?_⟩ | refine ⟨_, upd_same, ?_⟩
  | refine ⟨_, rfl, ?_⟩ | refine And.intro (by walk_at "sd") ?_))

section
variable {P : Program} {w : World} {K : PySem.W.Frag} {mg : Str → Option Value} {base : Heap}
theorem FRows.kp {K : PySem.W.Frag} {N : Nat} {H H' : Hp} {b c : Addr} (B : Bag N H b c) (k : Kp b H H') : ∀ {xs : List V} {fss : List (List Fr)}, FRows K H xs fss → FRows K H' xs fss
  | _, _, .nil => .nil
  | _, _, .cons h h2 q => .cons (seqT_kp B k h) (h2.kp B k) (q.kp B k)
theorem FRows.upd2 {K : PySem.W.Frag} {H : Hp} {p : Addr} {zs : List V} {o : HO} (hp : H p = some (.lst zs)) : ∀ {xs : List V} {fss : List (List Fr)}, FRows K H xs fss → FRows K (L2.upd H p o) xs fss
  | _, _, .nil => .nil
  | _, _, .cons h h2 q => .cons (seqT_upd hp h) (h2.upd hp) (q.upd2 hp)
theorem FRows.app {K : PySem.W.Frag} {H : Hp} : ∀ {xs ys : List V} {fss gss : List (List Fr)}, FRows K H xs fss → FRows K H ys gss → FRows K H (xs ++ ys) (fss ++ gss)
  | _, _, _, _, .nil, r => r
  | _, _, _, _, .cons h h2 q, r => .cons h h2 (q.app r)
theorem FRows.mem {K : PySem.W.Frag} {H : Hp} {xs : List V} {fss : List (List Fr)} (f : FRows K H xs fss) {y : V} (h : y ∈ xs) : ∃ a ys fs, y = .ref a ∧ fs ∈ fss ∧ SqT K H a ys ∧ Frs K H ys fs := by
  obtain ⟨n, hn⟩ := List.getElem?_of_mem h
  have l := (List.getElem?_eq_some_iff.mp hn).1
  obtain ⟨a, ys, fs, e1, e2, e3, e4⟩ := f.get (n := n) (by rw [← f.len]; exact l)
  rw [hn] at e1
  exact ⟨a, ys, fs, Option.some.inj e1, List.mem_of_getElem? e2, e3, e4⟩
def FrD (K : PySem.W.Frag) (G : Hp) (v : V) : Prop := ∃ (t : Addr) (f : Fr), v = .ref t ∧ Pr K G t f.1 f.2 ∧ okB 2000 97 f
theorem frD_mono {K : PySem.W.Frag} (G G' : Hp) (v : V) (s : Same G G') : FrD K G v → FrD K G' v := fun ⟨t, f, h1, h2, h3⟩ => ⟨t, f, h1, Same.seqT s h2, h3⟩
theorem frD_all {K : PySem.W.Frag} {G : Hp} : ∀ {ys : List V}, (∀ v ∈ ys, FrD K G v) → ∃ fs, Frs K G ys fs ∧ ∀ f ∈ fs, okB 2000 97 f
  | [], _ => ⟨[], .nil, fun f hf => absurd hf (by simp)⟩
  | v :: ys, h => by
    obtain ⟨t, f, rfl, h2, h3⟩ := h v List.mem_cons_self
    obtain ⟨fs, g1, g2⟩ := frD_all (ys := ys) fun u hu => h u (List.mem_cons_of_mem _ hu)
    refine ⟨f :: fs, .cons h2 g1, fun g hg => ?_⟩
    rcases List.mem_cons.mp hg with rfl | hg
    · exact h3
    · exact g2 g hg
def GoodR (n : Nat) (fs : List Fr) : Prop := fs.length = n ∧ ∀ f ∈ fs, okB 2000 97 f
def sp_rowsD (K : PySem.W.Frag) : Sp := fun vs H Q _ => ∃ (b c : Addr) (N m n : Nat), vs = [.ref b, .int (m : Int), .int (n : Int)] ∧ Bag (N + m * 26) H b c ∧ m ≤ 9 ∧ 1 ≤ n ∧ n ≤ 5 ∧
  ∀ (p : Addr) (rs : List V) (fss : List (List Fr)) H', Bag N H' b c → Kp b H H' → H p = none → H' p = some (.lst rs) → FRows K H' rs fss → fss.length = m → (∀ fs ∈ fss, GoodR n fs) → Q (.ref p) H'
theorem ok__law_rows (T : Txt w K mg) : FnOk P w K mg base CX0 4 T.a__law_rows T.d__law_rows ["bag", "many", "width"] (sp_rowsD K) := by
  refine T.F__law_rows.ok sc__law_rows (fun vs H Q E h => ?_) (fun cdv A outer s H vs Q E hr h => ?_)
  · obtain ⟨b, c, N, m, n, rfl, _⟩ := h
    rfl
  · obtain ⟨b, c, N0, m, n, rfl, B, m9, n1, n5, k⟩ := h
    have hr__law_draw : Room 1 _ := hr.mono (by decide)
    have G__law_draw := ok__law_draw (P := P) (base := base) T
    have hr__law_of : Room 2 _ := hr.mono (by decide)
    have G__law_of := ok__law_of (P := P) (base := base) T
    have hr__law_light : Room 3 _ := hr
    have G__law_light := ok__law_light (P := P) (base := base) T
    refine ⟨_, (pss_cons (ps_set (i := 3) sc__law_rows.nd rfl (Or.inl rfl) (pe_lstU pa_nil))
      (pss_cons (ps_for PassesOwn.never rfl (pi_range1 (by rfl) T.n_range (pa_cons (pv 1) pa_nil)) (pg_name (i := 4) sc__law_rows.nd rfl (Or.inl rfl)) (pss_cons (ps_set (i := 5) sc__law_rows.nd rfl (Or.inl rfl) (pe_call G__law_draw hr__law_draw (by rfl) T.m__law_draw T.F__law_draw.kp T.B__law_draw .nil pass0 (pa_cons (pv 0) (pa_cons pe_int pa_nil))))
      (pss_cons (ps_if (PW.pt (pw_and (pt_cmpR op_gt (pv 5) pe_int (nomark _)) (pw_and1 (pt_cmpR op_gt (pv 4) pe_int (nomark _))))) (pss_cons (ps_set (i := 6) sc__law_rows.nd rfl (Or.inl rfl) (pe_callTy call_listU (by rfl) T.n_list (by decide +kernel) (pa_cons (pe_call G__law_of hr__law_of (by rfl) T.m__law_of T.F__law_of.kp T.B__law_of .nil pass0 (pa_cons (pv 0) (pa_cons (pv 3) pa_nil))) pa_nil)))
      (pss_one (ps_if (pt_cmpR op_eqI (pv 5) pe_int (nomark _)) (pss_one (ps_asg (pe_call G__law_light hr__law_light (by rfl) T.m__law_light T.F__law_light.kp T.B__law_light .nil pass0 (pa_cons (pv 0) pa_nil)) (pg_sub (pv 6) (pe_call G__law_draw hr__law_draw (by rfl) T.m__law_draw T.F__law_draw.kp T.B__law_draw .nil pass0 (pa_cons (pv 0) (pa_cons (pv 2) pa_nil))) set_list))) pss_nil))) (pss_one (ps_setLc (i := 6) (own := [("j", 7)]) (g := gName 7) (tt := tYes) rfl sc__law_rows.nd rfl rfl (sw_true rfl rfl rfl (by decide +kernel)) (pi_range1 (by rfl) T.n_range (pa_cons (pv 2) pa_nil)) (blkOk_by (own := [("j", 7)]) (N := N__law_rows) (sc := defScope s__law_rows) (by decide +kernel)) (fun _ _ _ _ _ => pg_name (i := 7) sc__law_rows.nd rfl (Or.inl rfl)) (fun _ _ _ _ _ => pts_nil) (fun _ _ _ _ _ => (pe_call G__law_light hr__law_light (by rfl) T.m__law_light T.F__law_light.kp T.B__law_light .nil pass0 (pa_cons (pv 0) pa_nil))))))
      (pss_one (ps_expr (pe_bm PySem.F.plainAttrs_list PySem.F.slot_list_append PySem.F.type_list_append mt_append (pv 3) (pa_cons (pe_callTy call_tupleN (by rfl) T.n_tuple (by decide +kernel) (pa_cons (pv 6) pa_nil)) pa_nil)))))))
      (pss_one (ps_ret (pv 3))))), ?_⟩
    refine seq_op fun N hN => ?_
    walk_at "rs"
    refine ⟨Nat.zero_le _, fun p H1 s1 p0 p1 => hN _ _ ?_⟩
    clear hN N
    have pb := new_ne B p0
    have pc : c ≠ p := fun e => by
      obtain ⟨xc, ec⟩ := B.at2
      rw [← e, ec] at p0; cases p0
    refine cut_seq (fun σ H2 => ∃ (x4 x5 x6 x7 : Option V) (rs : List V) (fss : List (List Fr)), σ = [some (.ref b), some (.int (m : Int)), some (.int (n : Int)), some (.ref p), x4, x5, x6, x7] ∧ Bag N0 H2 b c ∧ Kp b H H2 ∧ H2 p = some (.lst rs) ∧ FRows K H2 rs fss ∧ fss.length = m ∧ ∀ fs ∈ fss, GoodR n fs) (fun N hN => ?_) ?_
    · walk_at "rs"
      refine ⟨_, rfl, (m : Int), rfl, by omega, by omega, for_range (lo := 0) (n := ((m : Int)).toNat) (fun i σ H2 => ∃ (x4 x5 x6 : Option V) (rs : List V) (fss : List (List Fr)), σ = [some (.ref b), some (.int (m : Int)), some (.int (n : Int)), some (.ref p), x4, x5, x6, none] ∧ Bag (N0 + (m - i) * 26) H2 b c ∧ Kp b H H2 ∧ H2 p = some (.lst rs) ∧ FRows K H2 rs fss ∧ fss.length = i ∧ ∀ fs ∈ fss, GoodR n fs) ⟨_, _, _, [], [], rfl, (B.same s1).le (by omega), Kp.of s1, p1, .nil, rfl, fun fs h => absurd h (by simp)⟩ ?_ ?_⟩
      · rintro i σ H2 hi ⟨x4, x5, x6, rs, fss, rfl, B2, K2, p2, fr, lf, gd⟩
        have hi' : i < m := by omega
        have hm : (m - i) * 26 = (m - (i + 1)) * 26 + 26 := by
          have : m - i = (m - (i + 1)) + 1 := by omega
          rw [this, Nat.add_mul, Nat.one_mul]
        have lrs := fr.len
        refine seq_op fun N hN => ?_
        walk_at "rs"
        refine ⟨b, c, 4, N0 + (m - (i + 1)) * 26 + 25, rfl, B2.le (by omega), by decide, by decide, fun r H3 r0 r1 B3 K3 => hN _ _ ?_⟩
        clear hN N
        have p3 := K3.get pb p2
        have fr3 := fr.kp B2 K3
        refine cut_seq (fun σ H4 => ∃ (q : Addr) (zs : List V) (fs : List Fr), σ = [some (.ref b), some (.int (m : Int)), some (.int (n : Int)), some (.ref p), some (.int (0 + (i : Int))), some (.int r), some (.ref q), none] ∧ Bag (N0 + (m - (i + 1)) * 26) H4 b c ∧ Kp b H3 H4 ∧ H4 q = some (.lst zs) ∧ q ≠ p ∧ Frs K H4 zs fs ∧ GoodR n fs) (fun N hN => ?_) ?_
        · walk_at "rs"
          refine ite2 (fun _ => ite2 (fun hk => ?_) (fun _ => ?_)) (fun _ => ?_)
          · refine seq_op fun N1 hN1 => ?_
            walk_at "rs"
            have fne : rs ≠ [] := fun e => by
              rw [e, List.length_nil] at lrs
              omega
            have hb3 : hb H3 b p = some (.lst rs) := by rw [hb_ne pb]; exact p3
            refine ⟨b, c, .ref p, rs, N0 + (m - (i + 1)) * 26 + 24, rfl, B3.le (by omega), .inl ⟨p, rfl, SqL.of p3⟩, .inl ⟨p, rfl, SqL.of hb3⟩, fne, by omega, fun y H4 my B4 K4 => ?_⟩
            obtain ⟨a, ys, fs, rfl, mfs, ha, hys⟩ := (fr3.kp B3 K4).mem my
            refine ⟨a, rfl, ys, .inr ha, fun q H5 s5 q0 q1 => hN1 _ _ ?_⟩
            clear hN1 N1
            have K35 := Same.trans K4 (Kp.of s5)
            have qp : q ≠ p := fun e => by
              have := K4.get pb p3
              rw [e, this] at q0; cases q0
            have qb := new_ne B4 q0
            have qc : c ≠ q := fun e => by
              obtain ⟨xc, ec⟩ := B4.at2
              rw [← e, ec] at q0; cases q0
            have gfs := gd fs mfs
            have hys5 := hys.same s5
            walk_at "rs"
            refine ite2 (fun _ => ?_) (fun _ => hN _ _ ⟨q, ys, fs, rfl, (B4.same s5).le (by omega), K35, q1, qp, hys5, gfs⟩)
            refine ⟨b, c, N0 + (m - (i + 1)) * 26 + 1, rfl, (B4.same s5).le (by omega), fun t f H6 okf t0 t1 B6 K6 => ⟨b, c, n, N0 + (m - (i + 1)) * 26, rfl, B6, by omega, by omega, fun j H7 j0 j1 B7 K7 => ?_⟩⟩
            have q7 := K7.get qb (K6.get qb q1)
            have lys : ys.length = n := by rw [hys.len]; exact gfs.1
            obtain ⟨j2, rfl⟩ : ∃ j2 : Nat, j = (j2 : Int) := ⟨j.toNat, by omega⟩
            have B5 := B4.same s5
            have t7 := (seqT_kp B6 K7 (.inl (.inl t1)) : Pr K H7 t f.1 f.2)
            refine ⟨ys, _, rfl, q7, j2, ixN_nat (by omega), hN _ _ ⟨q, ys.set j2 (.ref t), fs.set j2 f, rfl, B7.upd qb.symm qc, Kp.upd2 (Same.trans K35 (Same.trans K6 K7)) (Kp.bn K4 B4.at.choose_spec q0), upd_same, qp, (((hys5.kp B5 K6).kp B6 K7).set (K := K) t7 j2).upd q7, ?_⟩⟩
            refine ⟨by rw [List.length_set]; exact gfs.1, fun g hg => ?_⟩
            rcases List.mem_or_eq_of_mem_set hg with hg | rfl
            · exact gfs.2 g hg
            · exact okf
          all_goals
            refine ⟨_, rfl, (n : Int), rfl, by omega, by omega, fun D hD => lc_draw (n := ((n : Int)).toNat) (k := 4) (N := N0 + (m - (i + 1)) * 26) walk_range (FrD K) frD_mono hD (B3.le (by omega)) (by omega) (fun _ _ _ _ y => y.1) (fun _ _ => trivial) (fun x H5 M5 K5 B5 Q3 hq3 => ⟨_, rfl, b, c, M5, rfl, B5, fun t f H6 okf t0 t1 B6 K6 => hq3 _ _ B6 K6 ⟨t, f, rfl, .inl (.inl (nw_of t0 t1)), okf⟩⟩) fun H5 zs B5 K5 hD5 hl5 hz5 => ?_⟩
            obtain ⟨fs, g1, g2⟩ := frD_all hz5
            have lfs := g1.len
            have Dp : D ≠ p := fun e => by rw [e, p3] at hD; cases hD
            exact hN _ _ ⟨D, zs, fs, rfl, B5, K5, hD5, Dp, g1.same (nw_le _ _), by omega, g2⟩
        · rintro σ H4 ⟨q, zs, fs, rfl, B4, K4, q4, qp, hz, gf⟩
          walk_at "rs"
          have p4 := K4.get pb p3
          have fr4 := fr3.kp B3 K4
          refine ⟨.inl ⟨rfl, _, SqL.of p4⟩, zs, SqL.of q4, fun u H5 s5 u0 u1 => ⟨rs, s5 _ _ p4, Nat.lt_of_le_of_lt (show rs.length ≤ 9 by omega) (by decide), _, _, _, ⟨rfl, rfl, rfl⟩, (B4.same s5).upd pb.symm pc, Kp.upd2 (Same.trans K2 (Same.trans K3 (Same.trans K4 (Kp.of s5)))) p0, _, upd_same, fss ++ [fs], ?_, by rw [List.length_append, lf]; rfl, fun gs hgs => ?_⟩⟩
          · exact ((fr4.same s5).app (.cons (.inl (.inl u1)) (hz.same s5) .nil)).upd2 (s5 _ _ p4)
          · rcases List.mem_append.mp hgs with hgs | hgs
            · exact gd gs hgs
            · obtain rfl := List.mem_singleton.mp hgs
              exact gf
      · rintro σ H2 ⟨x4, x5, x6, rs, fss, rfl, B2, K2, p2, fr, lf, gd⟩
        exact hN _ _ ⟨_, _, _, _, rs, fss, rfl, B2.le (by omega), K2, p2, fr, by omega, gd⟩
    · rintro σ H2 ⟨x4, x5, x6, x7, rs, fss, rfl, B2, K2, p2, fr, lf, gd⟩
      walk_at "rs"
      exact k p rs fss H2 B2 K2 p0 p2 fr lf gd
end
end LK

set_option Elab.async false
set_option linter.all false
set_option maxRecDepth 100000
namespace LK
open PySem PySem.Spec PyProof.Rows L2
local macro_rules | `(tactic| walk_at "rs") => `(tactic| simp only [cxK, cxNK, tCallZ, tAsg, tOp, rI0, rS0, rB0, rI, rU, tUn, rEq, rNe, rIxL, rIxT, rIxS, rSetL, rSlLU, rSlS, rSlU, rCatL, rCatU, rRepL, rIn, tVar, tC, gName, gSub, tIfS, tTest, tB, tAnd, tOr, tNot, tNotV, tAndV, tOrV, tIf, tCall, tCons, tNil, tCB, tDrop, tRet, tRetN, tNext, tLstU, tTupU, tM0, tM1, tPar, tPar3, tAug, ipI, tBM, tBM0, rAppend, rPop, tBreak, tCont, tChain, tSl, tPart, tNoPart, L2.start, List.map, List.length_cons, List.length_nil, List.replicate, List.cons_append, List.nil_append, List.append_nil, List.getElem?_cons_zero, List.getElem?_cons_succ, List.set_cons_zero, List.set_cons_succ, Option.some.injEq, V.int.injEq, V.ref.injEq, V.str.injEq, V.bl.injEq, exists_eq_left', exists_eq_left, exists_and_left, decide_eq_true_eq, List.cons.injEq, and_true, true_and, scal, Bool.not_eq_true', decide_eq_false_iff_not, Nat.zero_add, Nat.reduceAdd, Nat.reduceSub, reduceCtorEq, false_and, exists_false, false_or, or_false, CPow, CPowW, CMul, CDiv, Int.reduceToNat, ↓reduceIte, wipe, sw, List.nil_append, List.singleton_append])
local macro_rules | `(tactic| walk_at "st") => `(tactic| (refine seq_op fun N hN => ?_; walk_at "rs"))
local macro_rules | `(tactic| walk_at "sd") => `(tactic| first | assumption | decide | omega)
local macro_rules | `(tactic| walk_at "rd") => `(tactic| repeat (first
  | refine ⟨_, SqL.of (by assumption), ?_⟩ | refine ⟨_, SqL.of upd_same, ?_⟩ | refine ⟨_, .inl (SqL.of (by assumption)), ?_⟩ | refine ⟨_, (by assumption : _ = some (HO.lst _)), ?_⟩ | refine ⟨_, upd_same, ?_⟩
  | refine ⟨_, rfl, ?_⟩ | refine And.intro (by walk_at "sd") ?_))

/-- what a drawn head keeps, also behind a raising -/
structure HGd (n : Nat) (h : Hd) : Prop where
  sl : h.sc.length ≤ 5
  gl : h.giv.length ≤ 4
  sa : ∀ e ∈ h.sc, e.1.1 < n ∧ e.1.2 < n ∧ okB 18000 873 e.2
  ga : ∀ e ∈ h.giv, e.1.1 < n ∧ e.1.2 < n ∧ okB 2000 97 e.2
theorem prodD_le {B : Nat} : ∀ {fs : List Fr}, (∀ f ∈ fs, f.2.natAbs ≤ B) → prodD fs ≤ B ^ fs.length
  | [], _ => Nat.le_refl _
  | f :: fs, h => by
    rw [List.length_cons, Nat.pow_succ', ]
    exact Nat.mul_le_mul (h f List.mem_cons_self) (prodD_le fun g hg => h g (List.mem_cons_of_mem _ hg))
theorem HGd.sp {n : Nat} {h : Hd} (g : HGd n h) : prodD (h.sc.map (·.2)) ≤ 873 ^ 5 := by
  refine Nat.le_trans (prodD_le (B := 873) fun f hf => ?_) (Nat.pow_le_pow_right (by decide) (by rw [List.length_map]; exact g.sl))
  obtain ⟨e, he, rfl⟩ := List.mem_map.mp hf
  exact (g.sa e he).2.2.2.2.2
theorem HGd.gp {n : Nat} {h : Hd} (g : HGd n h) : prodD (h.giv.map (·.2)) ≤ 97 ^ 4 := by
  refine Nat.le_trans (prodD_le (B := 97) fun f hf => ?_) (Nat.pow_le_pow_right (by decide) (by rw [List.length_map]; exact g.gl))
  obtain ⟨e, he, rfl⟩ := List.mem_map.mp hf
  exact (g.ga e he).2.2.2.2.2
theorem HGd.fit {n : Nat} {h : Hd} (g : HGd n h) : ScFit n (mOf h.sc) h.sc := by
  have d1 : ∀ f ∈ h.sc.map (·.2), 1 ≤ f.2 := fun f hf => by
    obtain ⟨e, he, rfl⟩ := List.mem_map.mp hf
    exact (g.sa e he).2.2.1
  obtain ⟨a1, a2, a3⟩ := comI_spec d1
  have ml : (mOf h.sc).natAbs ≤ 873 ^ 5 := Nat.le_trans a3 g.sp
  refine ⟨Nat.le_trans g.sl (by decide), a1, Nat.lt_of_le_of_lt ml (by decide), fun e he => ?_⟩
  obtain ⟨c1, c2, o1, o2, o3, o4⟩ := g.sa e he
  refine ⟨c1, c2, ⟨o1, o2⟩, a2 _ (List.mem_map_of_mem he), ?_, Nat.lt_of_le_of_lt o3 (by decide)⟩
  have q : ((mOf h.sc) / e.2.2).natAbs ≤ 873 ^ 5 := Nat.le_trans (Int.natAbs_ediv_le_natAbs _ _) ml
  unfold num
  rw [Int.natAbs_mul]
  exact Nat.lt_of_le_of_lt (Nat.mul_le_mul o3 q) (by decide)
theorem HGd.hb {n : Nat} {h : Hd} (g : HGd n h) : HB n h := by
  refine ⟨g.fit, Nat.lt_of_le_of_lt g.sp (by decide), Nat.le_trans g.gl (by decide), fun e he => ?_, Nat.lt_of_le_of_lt g.gp (by decide)⟩
  obtain ⟨c1, c2, o1, o2, o3, o4⟩ := g.ga e he
  exact ⟨c1, c2, ⟨o1, o2⟩, Nat.lt_of_le_of_lt o3 (by decide)⟩
theorem HGd.ph {n : Nat} {h : Hd} (g : HGd n h) : prodH h ≤ 2520 * 97 ^ 4 := Nat.mul_le_mul_left _ g.gp
theorem okB_mono {a b c d : Nat} {f : Int × Int} (h : okB a b f) (h1 : a ≤ c) (h2 : b ≤ d) : okB c d f := ⟨h.1, h.2.1, Nat.le_trans h.2.2.1 h1, Nat.le_trans h.2.2.2 h2⟩
section
variable {P : Program} {w : World} {K : PySem.W.Frag} {mg : Str → Option Value} {base : Heap}
def sp_headD (K : PySem.W.Frag) : Sp := fun vs H Q _ => ∃ (b c : Addr) (N n : Nat), vs = [.ref b, .int (n : Int)] ∧ Bag (N + 56) H b c ∧ 1 ≤ n ∧ n ≤ 5 ∧
  ∀ (u sa ga : Addr) (h : Hd) H', Bag N H' b c → Kp b H H' → SqT K H' u [.ref sa, .ref ga] → HeadAt K H' (.ref u) h → HGd n h → (∀ e ∈ h.sc, okB 2000 97 e.2) → Q (.ref u) H'
theorem ok__law_head (T : Txt w K mg) : FnOk P w K mg base CX0 5 T.a__law_head T.d__law_head ["bag", "width"] (sp_headD K) := by
  refine T.F__law_head.ok sc__law_head (fun vs H Q E h => ?_) (fun cdv A outer s H vs Q E hr h => ?_)
  · obtain ⟨b, c, N, n, rfl, _⟩ := h
    rfl
  · obtain ⟨b, c, N0, n, rfl, B, n1, n5, k⟩ := h
    have hr__law_lights : Room 4 _ := hr
    have G__law_lights := ok__law_lights (P := P) (base := base) T
    refine ⟨_, (pss_one (ps_ret (pe_tupU (pa_cons (pe_callTy call_tupleN (by rfl) T.n_tuple (by decide +kernel) (pa_cons (pe_call G__law_lights hr__law_lights (by rfl) T.m__law_lights T.F__law_lights.kp T.B__law_lights .nil pass0 (pa_cons (pv 0) (pa_cons pe_int (pa_cons (pv 1) (pa_cons pe_int pa_nil))))) pa_nil)) (pa_cons (pe_callTy call_tupleN (by rfl) T.n_tuple (by decide +kernel) (pa_cons (pe_call G__law_lights hr__law_lights (by rfl) T.m__law_lights T.F__law_lights.kp T.B__law_lights .nil pass0 (pa_cons (pv 0) (pa_cons pe_int (pa_cons (pv 1) (pa_cons pe_int pa_nil))))) pa_nil)) pa_nil))))), ?_⟩
    walk_at "rs"
    refine ⟨b, c, N0 + 25, 5, n, rfl, B.le (by omega), by omega, by omega, by decide, fun p1 xs1 es1 H1 B1 K1 p10 p11 t1 l1 w1 => ⟨p1, rfl, xs1, SqL.of p11, fun q1 H2 s2 q10 q11 => ⟨b, c, N0, 4, n, rfl, (B1.same s2).le (by omega), by omega, by omega, by decide, fun p2 xs2 es2 H3 B3 K3 p20 p21 t2 l2 w2 => ⟨p2, rfl, xs2, SqL.of p21, fun q2 H4 s4 q20 q21 => ⟨by decide, fun u H5 s5 u0 u1 => ?_⟩⟩⟩⟩⟩
    have B2 := B1.same s2
    have K25 : Kp b H2 H5 := Same.trans K3 (Kp.of (Same.trans s4 s5))
    have q15 : SqT K H5 q1 xs1 := seqT_kp B2 K25 (.inl (.inl q11))
    have q25 : SqT K H5 q2 xs2 := .inl (.inl (s5 _ _ q21))
    have t15 := (t1.same s2).kp B2 K25
    have t25 := (t2.same s4).same s5
    exact k u q1 q2 ⟨es1, es2⟩ H5 ((B3.same s4).same s5) (Same.trans K1 (Same.trans (Kp.of s2) K25)) (.inl (.inl u1)) ⟨u, q1, q2, xs1, xs2, rfl, .inl (.inl u1), q15, t15, q25, t25⟩ ⟨l1, l2, fun e he => by
      obtain ⟨a1, a2, a3⟩ := w1 e he
      exact ⟨by omega, by omega, okB_mono a3 (by decide) (by decide)⟩, fun e he => by
      obtain ⟨a1, a2, a3⟩ := w2 e he
      exact ⟨by omega, by omega, a3⟩⟩ fun e he => (w1 e he).2.2
end
end LK

set_option Elab.async false
set_option linter.all false
set_option maxRecDepth 100000
namespace LK
open PySem PySem.Spec PyProof.Rows L2
local macro_rules | `(tactic| walk_at "rs") => `(tactic| simp only [cxK, cxNK, tCallZ, tAsg, tOp, rI0, rS0, rB0, rI, rU, tUn, rEq, rNe, rIxL, rIxT, rIxS, rSetL, rSlLU, rSlS, rSlU, rCatL, rCatU, rRepL, rIn, tVar, tC, gName, gSub, tIfS, tTest, tB, tAnd, tOr, tNot, tNotV, tAndV, tOrV, tIf, tCall, tCons, tNil, tCB, tDrop, tRet, tRetN, tNext, tLstU, tTupU, tM0, tM1, tPar, tPar3, tAug, ipI, tBM, tBM0, rAppend, rPop, tBreak, tCont, tChain, tSl, tPart, tNoPart, L2.start, List.map, List.length_cons, List.length_nil, List.replicate, List.cons_append, List.nil_append, List.append_nil, List.getElem?_cons_zero, List.getElem?_cons_succ, List.set_cons_zero, List.set_cons_succ, Option.some.injEq, V.int.injEq, V.ref.injEq, V.str.injEq, V.bl.injEq, exists_eq_left', exists_eq_left, exists_and_left, decide_eq_true_eq, List.cons.injEq, and_true, true_and, scal, Bool.not_eq_true', decide_eq_false_iff_not, Nat.zero_add, Nat.reduceAdd, Nat.reduceSub, reduceCtorEq, false_and, exists_false, false_or, or_false, CPow, CPowW, CMul, CDiv, Int.reduceToNat, ↓reduceIte, wipe, sw, List.nil_append, List.singleton_append])
local macro_rules | `(tactic| walk_at "st") => `(tactic| (refine seq_op fun N hN => ?_; walk_at "rs"))
local macro_rules | `(tactic| walk_at "sd") => `(tactic| first | assumption | decide | omega)
local macro_rules | `(tactic| walk_at "rd") => `(tactic| repeat (first
  | refine ⟨_, SqL.of (by assumption), ?_⟩ | refine ⟨_, SqL.of upd_same, ?_⟩ | refine ⟨_, .inl (SqL.of (by assumption)), ?_⟩ | refine ⟨_, (by assumption : _ = some (HO.lst _)), ?_⟩ | refine ⟨_, upd_same, ?_⟩
  | refine ⟨_, rfl, ?_⟩ | refine And.intro (by walk_at "sd") ?_))

theorem RowOk.kp {K : PySem.W.Frag} {N : Nat} {H H' : Hp} {b c a : Addr} {L : Int} {Xs : List Int} (B : Bag N H b c) (k : Kp b H H') : RowOk K H a L Xs → RowOk K H' a L Xs := fun ⟨xs, fs, h1, h2, h3⟩ => ⟨xs, fs, seqT_kp B k h1, h2.kp B k, h3⟩
theorem Rows.kp {K : PySem.W.Frag} {N : Nat} {H H' : Hp} {b c : Addr} {L : Int} (B : Bag N H b c) (k : Kp b H H') : ∀ {xs : List V} {Xss : List (List Int)}, Rows K H L xs Xss → Rows K H' L xs Xss
  | _, _, .nil => .nil
  | _, _, .cons h q => .cons (h.kp B k) (q.kp B k)
/-- a list that is not of the bag's form stays over draws -/
theorem seqL_kp {K : PySem.W.Frag} {N : Nat} {H H' : Hp} {b c q : Addr} {xs : List V} (B : Bag N H b c) (k : Kp b H H') (n : ∀ (p : Addr) (i : Int) (ys : List V), xs ≠ .ref p :: .int i :: ys) (h : SqL K H q xs) : SqL K H' q xs := by
  obtain ⟨cells, i, g, m, d, hb1, _⟩ := B
  rcases h with (h | ⟨u, h⟩) | h
  · have ne : q ≠ b := fun e => by
      rw [e, hb1] at h
      cases h
      exact n _ _ _ rfl
    exact .inl (.inl (k.hd h ne))
  · have ne : q ≠ b := fun e => by rw [e, hb1] at h; cases h
    exact .inl (.inr ⟨u, k.hd h ne⟩)
  · exact .inr h
theorem Parts.kp {K : PySem.W.Frag} {N : Nat} {H H' : Hp} {b c : Addr} (B : Bag N H b c) (k : Kp b H H') : ∀ {xs : List V} {Xss : List (List Int)}, Parts K H xs Xss → Parts K H' xs Xss
  | _, _, .nil => .nil
  | _, _, .cons (Xs := Xs) h q => .cons (seqL_kp B k (fun p i ys e => by cases Xs <;> cases e) h) (q.kp B k)
theorem StateAt.kp {K : PySem.W.Frag} {N : Nat} {H H' : Hp} {b c : Addr} (B : Bag N H b c) (k : Kp b H H') {v : V} {L : Int} {Xss : List (List Int)} : StateAt K H v L Xss → StateAt K H' v L Xss := fun ⟨sa, pa, ps, h1, h2, h3, h4⟩ => ⟨sa, pa, ps, h1, seqT_kp B k h2, seqL_kp B k (fun p i ys e => by
  subst e
  cases h4 with
  | cons _ q => cases q) h3, h4.kp B k⟩
/-- rows as data -/
def dRow (fs : List Fr) : PyData := .tuple (fs.map fun f => .tuple [.int f.1, .int f.2])
def dRows (fss : List (List Fr)) : PyData := .list (fss.map dRow)
theorem ok_all {ds : List PyData} (h : ∀ d ∈ ds, okD d = true) : okAll ds = true := by
  induction ds with
  | nil => rfl
  | cons d ds ih =>
    show (okD d && okAll ds) = true
    rw [h d List.mem_cons_self, ih fun e he => h e (List.mem_cons_of_mem _ he)]
    rfl
theorem dep_all {n : Nat} {ds : List PyData} (h : ∀ d ∈ ds, dep d ≤ n) : depAll ds ≤ n := by
  induction ds with
  | nil => exact Nat.zero_le _
  | cons d ds ih => exact Nat.max_le.mpr ⟨h d List.mem_cons_self, ih fun e he => h e (List.mem_cons_of_mem _ he)⟩
theorem okD_row {fs : List Fr} (l : fs.length ≤ 1000) : okD (dRow fs) = true ∧ dep (dRow fs) ≤ 2 := by
  constructor
  · refine okD_tup.mpr ⟨by rw [List.length_map]; omega, ok_all fun d hd => ?_⟩
    obtain ⟨f, _, rfl⟩ := List.mem_map.mp hd
    rfl
  · refine Nat.succ_le_succ (dep_all fun d hd => ?_)
    obtain ⟨f, _, rfl⟩ := List.mem_map.mp hd
    exact Nat.le_refl 1
theorem okD_rows {fss : List (List Fr)} (l : fss.length ≤ 1000) (h : ∀ fs ∈ fss, fs.length ≤ 1000) : okD (dRows fss) = true ∧ dep (dRows fss) ≤ 4 := by
  constructor
  · refine okD_lst.mpr ⟨by rw [List.length_map]; omega, ok_all fun d hd => ?_⟩
    obtain ⟨fs, hf, rfl⟩ := List.mem_map.mp hd
    exact (okD_row (h fs hf)).1
  · refine Nat.succ_le_succ (dep_all fun d hd => ?_)
    obtain ⟨fs, hf, rfl⟩ := List.mem_map.mp hd
    exact Nat.le_trans (okD_row (h fs hf)).2 (by decide)
theorem FRows.dp {K : PySem.W.Frag} {H : Hp} : ∀ {xs : List V} {fss : List (List Fr)}, FRows K H xs fss → DpAll K H xs (fss.map dRow)
  | _, _, .nil => .nil
  | _, _, .cons h h2 q => .cons (.tup h h2.dp) q.dp

/-! rows as data, compared -/
def pD (f : Fr) : PyData := .tuple [.int f.1, .int f.2]
theorem eqvAll_pD : ∀ fs gs : List Fr, PyData.eqvAll (fs.map pD) (gs.map pD) = decide (fs = gs)
  | [], [] => by simp [PyData.eqvAll]
  | [], _ :: _ => by simp [PyData.eqvAll]
  | _ :: _, [] => by simp [PyData.eqvAll]
  | f :: fs, g :: gs => by
    simp only [List.map_cons, PyData.eqvAll, eqvAll_pD fs gs]
    rw [show PyData.eqv (pD f) (pD g) = _ from eqv_pair f.1 f.2 g.1 g.2]
    by_cases h1 : f.1 = g.1
    · by_cases h2 : f.2 = g.2
      · have : f = g := Prod.ext h1 h2
        subst this
        by_cases h3 : fs = gs <;> simp [h3]
      · have : f ≠ g := fun z => h2 (by rw [z])
        simp [h1, h2, this]
    · have : f ≠ g := fun z => h1 (by rw [z])
      simp [h1, this]
theorem eqv_dRow (fs gs : List Fr) : PyData.eqv (dRow fs) (dRow gs) = decide (fs = gs) := by
  show PyData.eqv (.tuple (fs.map pD)) (.tuple (gs.map pD)) = _
  simp only [PyData.eqv]
  exact eqvAll_pD fs gs
theorem lay_pD : ∀ fs : List Fr, PyData.canLayAll0 (fs.map pD) = true
  | [] => rfl
  | _ :: r => by simp [PyData.canLayAll0, pD, PyData.canLay0, lay_pD r]
theorem dp_pD : ∀ fs : List Fr, PyData.depthAll (fs.map pD) ≤ 1
  | [] => Nat.zero_le _
  | _ :: r => by
    have := dp_pD r
    simp [PyData.depthAll, pD, PyData.depth]
    omega
theorem lay_rows : ∀ fss : List (List Fr), PyData.canLayAll0 (fss.map dRow) = true
  | [] => rfl
  | a :: r => by
    have h := lay_pD a
    simp only [List.map_cons, PyData.canLayAll0, lay_rows r, Bool.and_true]
    show PyData.canLay0 (.tuple (a.map pD)) = true
    simp only [PyData.canLay0]
    exact h
theorem dp_row (a : List Fr) : PyData.depth (dRow a) ≤ 2 := by
  show PyData.depth (.tuple (a.map pD)) ≤ 2
  simp only [PyData.depth]
  have := dp_pD a
  omega
theorem dp_rows : ∀ fss : List (List Fr), PyData.depthAll (fss.map dRow) ≤ 2
  | [] => Nat.zero_le _
  | a :: r => by
    simp only [List.map_cons, PyData.depthAll]
    exact Nat.max_le.mpr ⟨dp_row a, dp_rows r⟩
theorem sh_row (a : List Fr) : SeqAt.shaped (dRow a) = true := by
  have h : PyData.canLay0 (dRow a) = true := by
    show PyData.canLay0 (.tuple (a.map pD)) = true
    simp only [PyData.canLay0]
    exact lay_pD a
  unfold SeqAt.shaped
  rw [h, decide_eq_true (Nat.le_trans (dp_row a) (by decide))]
  rfl
theorem sh_rows (fss : List (List Fr)) : SeqAt.shaped (.list (fss.map dRow)) = true := by
  have h : PyData.canLay0 (.list (fss.map dRow)) = true := by
    simp only [PyData.canLay0]
    exact lay_rows fss
  have d : PyData.depth (.list (fss.map dRow)) ≤ 64 := by
    simp only [PyData.depth]
    have := dp_rows fss
    omega
  unfold SeqAt.shaped
  rw [h, decide_eq_true d]
  rfl
/-- the first place of an equal item -/
theorem first_at {α : Type} [DecidableEq α] : ∀ {l : List α} {i : Nat} {a : α}, l[i]? = some a → ∃ j : Nat, l[j]? = some a ∧ ∀ (m : Nat) (b : α), m < j → l[m]? = some b → b ≠ a
  | [], i, a, h => by simp at h
  | b :: l, i, a, h => by
    by_cases e : b = a
    · subst e
      exact ⟨0, rfl, fun m b hm => by omega⟩
    · cases i with
      | zero => simp at h; exact absurd h e
      | succ i =>
        obtain ⟨j, h1, h2⟩ := first_at (l := l) (i := i) (a := a) (by simpa using h)
        refine ⟨j + 1, by simpa using h1, fun m c hm hc => ?_⟩
        cases m with
        | zero => simp at hc; subst hc; exact e
        | succ m => exact h2 m c (by omega) (by simpa using hc)
theorem cutV_init (xs : List V) (v : V) : cutV (xs ++ [v]) none (some (-1)) = xs := by
  unfold cutV HT.sIx
  simp
  have e : (-1 + ((xs.length : Int) + 1)).toNat = xs.length := by omega
  rw [e, List.take_append_of_le_length (Nat.le_refl _), List.take_length]
theorem dp_nats {K : PySem.W.Frag} {H : Hp} : ∀ ks : List Nat, DpAll K H (ks.map fun (k : Nat) => V.int (k : Int)) (ks.map fun (k : Nat) => PyData.int (k : Int))
  | [] => .nil
  | k :: ks => .cons (.int _) (dp_nats ks)
theorem ite_same {c A : Prop} [Decidable c] (h : A) : if c then A else A := by split <;> exact h
section
variable {P : Program} {w : World} {K : PySem.W.Frag} {mg : Str → Option Value} {base : Heap}
def RowsG (n : Nat) (fss : List (List Fr)) : Prop := ∀ fs ∈ fss, fs.length = n ∧ ∀ f ∈ fs, okB 1000000000000000000 1000000000000000000 f
def sp_fits (K : PySem.W.Frag) : Sp := fun vs H Q _ => ∃ (b c ra : Addr) (sv v : V) (rs : List V) (fss : List (List Fr)) (h : Hd) (N n at_ : Nat) (L : Int), vs = [.ref b, .ref ra, sv, v, .int (at_ : Int)] ∧ Bag (N + 2) H b c ∧ ra ≠ b ∧ H ra = some (.lst rs) ∧ FRows K H rs fss ∧ Rows K H L rs (partsOf L fss) ∧ StateAt K H sv L (partsOf L fss) ∧ (∀ Xs ∈ partsOf L fss, Xs.length = n ∧ LimS L Xs) ∧ fss.length ≤ 9 ∧ n ≤ 5 ∧ HeadAt K H v h ∧ HGd n h ∧ at_ < fss.length ∧ 0 < L ∧ L.natAbs < 2 ^ 400 ∧
  ∀ H', Bag N H' b c → Kp b H H' → Q (.bl true) H'
theorem ok__law_look_fits (T : Txt w K mg) : FnOk P w K mg base CX0 8 T.a__law_look_fits T.d__law_look_fits ["bag", "rows_y", "state", "head_z", "at_z"] (sp_fits K) := by
  refine T.F__law_look_fits.ok sc__law_look_fits (fun vs H Q E h => ?_) (fun cdv A outer s H vs Q E hr h => ?_)
  · obtain ⟨b, c, ra, sv, v, rs, fss, h, N, n, at_, L, rfl, _⟩ := h
    rfl
  · obtain ⟨b, c, ra, sv, v, rs, fss, h, N0, n, at_, L, rfl, B, rb, hra, fr, hrs, hst, lim, l9, n5, hh, gh, hat, L0, lL, k⟩ := h
    have hr_scores : Room 6 _ := hr.mono (by decide)
    have G_scores := ok_scores (P := P) (base := base) T
    have hr_looked_at : Room 7 _ := hr
    have G_looked_at := ok_looked_at (P := P) (base := base) T
    have hr__law_draw : Room 1 _ := hr.mono (by decide)
    have G__law_draw := ok__law_draw (P := P) (base := base) T
    have hr__law_like : Room 5 _ := hr.mono (by decide)
    have G__law_like := ok__law_like (P := P) (base := base) T 4
    have hr__law_scored : Room 3 _ := hr.mono (by decide)
    have G__law_scored := ok__law_scored (P := P) (base := base) T
    have hr__law_row_same : Room 4 _ := hr.mono (by decide)
    have G__law_row_same := ok__law_row_same (P := P) (base := base) T
    have hu65 : (A.deeper (envOfC "_law_look_fits" (defScope s__law_look_fits) s.heap.objs.size T.a__law_look_fits cdv)).units + 65 < cLine := Nat.lt_of_le_of_lt (Nat.add_le_add_left (by decide : 65 ≤ 16 * 7 + 200) _) hr.un
    refine ⟨_, (pss_cons (ps_asg (pe_call G__law_scored hr__law_scored (by rfl) T.m__law_scored T.F__law_scored.kp T.B__law_scored .nil pass0 (pa_cons (pv 2) (pa_cons (pv 3) (pa_cons (pv 4) pa_nil)))) (pg_tup rfl (pgs_cons (pg_name (i := 5) sc__law_look_fits.nd rfl (Or.inr rfl)) (pgs_cons (pg_name (i := 6) sc__law_look_fits.nd rfl (Or.inl rfl)) pgs_nil))))
      (pss_cons (ps_set (i := 7) sc__law_look_fits.nd rfl (Or.inl rfl) (pe_ifExp (pt_cmpR op_eqI (pe_call G__law_draw hr__law_draw (by rfl) T.m__law_draw T.F__law_draw.kp T.B__law_draw .nil pass0 (pa_cons (pv 0) (pa_cons pe_int pa_nil))) pe_int (nomark _)) (pe_callZ (g := fun ws => ws) (gV := fun zs => zs) G_scores hr_scores (by rfl) T.m_scores T.F_scores.kp T.Z_scores pass0 (pk_cons (pv 1) (pk_cons (pv 3) (pk_cons (pv 4) pk_nil)))) (pe_call G_scores hr_scores (by rfl) T.m_scores T.F_scores.kp T.B_scores .nil pass0 (pa_cons (pv 1) (pa_cons (pv 3) (pa_cons (pv 4) pa_nil))))))
      (pss_cons (ps_if (PW.pt (pw_or (pt_not (pt_val (pe_callB (call_isiDK (K := K) rfl) (by rfl) T.n_isinstance (by decide +kernel) (pa_cons (pv 7) (pa_cons (pe_bltn (v := .ty "list") (u := .type "list") (by rfl) T.n_list (by decide +kernel) rfl) pa_nil))))) (pw_or1 (pt_not (pt_val (pe_call G__law_row_same hr__law_row_same (by rfl) T.m__law_row_same T.F__law_row_same.kp T.B__law_row_same .nil pass0 (pa_cons (pe_callTy call_tupleN (by rfl) T.n_tuple (by decide +kernel) (pa_cons (pv 7) pa_nil)) (pa_cons (pv 5) (pa_cons (pv 6) pa_nil))))))))) (pss_one (ps_ret pe_bl)) pss_nil)
      (pss_cons (ps_for PassesOwn.never rfl (pi_range1 (by rfl) T.n_range (pa_cons (pe_callB call_len_seq (by rfl) T.n_len (by decide +kernel) (pa_cons (pv 1) pa_nil)) pa_nil)) (pg_name (i := 8) sc__law_look_fits.nd rfl (Or.inl rfl)) (pss_one (ps_if (pt_cmpR (op_neD hr.units) (pe_ix ix_list (pv 7) (pe_bm PySem.F.plainAttrs_list PySem.F.slot_list_index PySem.F.type_list_index (mt_indexD hu65) (pv 1) (pa_cons (pe_ix ix_list (pv 1) (pv 8) (fun _ _ => rfl)) pa_nil)) (fun _ _ => rfl)) (pe_ix ix_list (pv 7) (pv 8) (fun _ _ => rfl)) (nomark _)) (pss_one (ps_ret pe_bl)) pss_nil)))
      (pss_cons (ps_set (i := 9) sc__law_look_fits.nd rfl (Or.inl rfl) (pe_ifExp (pt_cmpR op_eqI (pe_call G__law_draw hr__law_draw (by rfl) T.m__law_draw T.F__law_draw.kp T.B__law_draw .nil pass0 (pa_cons (pv 0) (pa_cons pe_int pa_nil))) pe_int (nomark _)) (pe_callZ (g := fun ws => ws) (gV := fun zs => zs) G_looked_at hr_looked_at (by rfl) T.m_looked_at T.F_looked_at.kp T.Z_looked_at pass0 (pk_cons (pv 1) (pk_cons (pv 3) (pk_cons (pv 4) pk_nil)))) (pe_call G_looked_at hr_looked_at (by rfl) T.m_looked_at T.F_looked_at.kp T.B_looked_at .nil pass0 (pa_cons (pv 1) (pa_cons (pv 3) (pa_cons (pv 4) pa_nil))))))
      (pss_cons (ps_set (i := 10) sc__law_look_fits.nd rfl (Or.inr rfl) (pe_callB (cr_max rfl) (by rfl) T.n_max (by decide +kernel) (pa_cons (pv 5) pa_nil)))
      (pss_cons (ps_if (pt_not (pt_val (pe_call G__law_like hr__law_like (by rfl) T.m__law_like T.F__law_like.kp T.B__law_like .nil pass0 (pa_cons (pv 9) (pa_cons (pe_lc (own := [("k", 8)]) (g := gName 8) (tt := _) rfl sc__law_look_fits.nd (pi_range1 (by rfl) T.n_range (pa_cons (pe_callB call_len_seq (by rfl) T.n_len (by decide +kernel) (pa_cons (pv 5) pa_nil)) pa_nil)) (blkOk_by (own := [("k", 8)]) (N := N__law_look_fits) (sc := defScope s__law_look_fits) (by decide +kernel)) (fun _ _ _ _ _ => pg_name (i := 8) sc__law_look_fits.nd rfl (Or.inl rfl)) (fun _ _ _ _ _ => pts_one (pt_cmpR op_eqI (pe_ix (ix_listK (K := K) rfl) (pv 5) (pv 8) (fun _ _ => rfl)) (pv 10) (nomark _))) (fun _ _ _ _ _ => (pv 8))) pa_nil))))) (pss_one (ps_ret pe_bl)) pss_nil)
      (pss_cons (ps_expr (pe_bm PySem.F.plainAttrs_list PySem.F.slot_list_append PySem.F.type_list_append mt_append (pv 9) (pa_cons (pv 4) pa_nil)))
      (pss_one (ps_ret (pe_call G__law_like hr__law_like (by rfl) T.m__law_like T.F__law_like.kp T.B__law_like .nil pass0 (pa_cons (pe_call G_looked_at hr_looked_at (by rfl) T.m_looked_at T.F_looked_at.kp T.B_looked_at .nil pass0 (pa_cons (pv 1) (pa_cons (pv 3) (pa_cons (pv 4) pa_nil)))) (pa_cons (pe_slice sl_listU (pv 9) po_none (po_some (pe_un un_neg pe_int))) pa_nil))))))))))))), ?_⟩
    have lrs := fr.len
    have plen : (partsOf L fss).length = fss.length := by unfold partsOf; rw [List.length_map]
    refine seq_op fun N hN => ?_
    walk_at "rs"
    refine ⟨sv, v, h, at_, n, L, partsOf L fss, rfl, hst, hh, lim, by omega, gh.fit, gh.hb.pb, by omega, fun t p H1 s1 t1 p0 p1 => ?_⟩
    refine ⟨t, _, rfl, .inl (.inl t1), rfl, ?_⟩
    unfold gCons gNil
    walk_at "rs"
    refine ⟨_, _, ⟨rfl, rfl⟩, _, _, rfl, rfl, hN _ _ ?_⟩
    clear hN N
    have lS : (scRow (mOf h.sc) h.sc (partsOf L fss) at_).length = fss.length := (List.length_map ..).trans plen
    refine seq_op fun N hN => ?_
    walk_at "rs"
    have pb : p ≠ b := new_ne B p0
    refine ⟨b, c, 9, N0 + 1, rfl, B.same s1, by decide, by decide, fun r2 H2 _ _ B2 K2 => ⟨r2, rfl, ?_⟩⟩
    have B1 := B.same s1
    have K12 : Kp b H H2 := Same.trans (Kp.of s1) K2
    have fr2 := (fr.same s1).kp B1 K2
    have hrs2 := (hrs.same s1).kp B1 K2
    have hh2 := (hh.same s1).kp B1 K2
    have hra2 := K2.get rb (s1 _ _ hra)
    have p2 := K2.get pb p1
    have sc : ∀ Nx : V → Hp → Prop, (∀ (t : Addr) (ts : List V) (fs : List Fr) H', Same H2 H' → H2 t = none → H' t = some (.lst ts) → Frs K H' ts fs → RowV (L * (L * mOf h.sc)) (scRow (mOf h.sc) h.sc (partsOf L fss) at_) fs → Nx (.ref t) H') → sp_scores K [.ref ra, v, .int (at_ : Int)] H2 Nx E0 := fun Nx q => ⟨ra, v, rs, h, n, at_, L, mOf h.sc, partsOf L fss, rfl, .inl (SqL.of hra2), hrs2, lim, by omega, hh2, gh.fit, by omega, q⟩
    refine ite_same (sc _ fun t3 ts fs H3 s3 t30 t31 hfs rv => hN _ _ ?_)
    clear hN N sc
    have LL0 : 0 < L * (L * mOf h.sc) := Int.mul_pos L0 (Int.mul_pos L0 gh.fit.M0)
    have LL1 : (L * (L * mOf h.sc)).natAbs < 2 ^ 4000 := pow_le (wide_lt lL (wide_lt lL gh.fit.M1)) (by decide)
    have eL : mOf h.sc * L * L = L * (L * mOf h.sc) := by ac_rfl
    have bS : ∀ x ∈ scRow (mOf h.sc) h.sc (partsOf L fss) at_, x.natAbs < 2 ^ 4000 := fun x hx => by
      obtain ⟨Xs, hX, rfl⟩ := List.mem_map.mp hx
      have hA : (partsOf L fss).getD at_ [] ∈ partsOf L fss := by
        rw [List.getD_eq_getElem?_getD, List.getElem?_eq_getElem (by omega)]
        exact List.getElem_mem _
      have := gh.fit.len
      exact pow_le (sc_lim (n := n) (fun e he => (gh.fit.all e he).2.2.2.2.1) (lim _ hA).2 (lim Xs hX).2) (by omega)
    have sEq : ∀ (i j : Nat), fss[i]? = fss[j]? → (scRow (mOf h.sc) h.sc (partsOf L fss) at_)[i]? = (scRow (mOf h.sc) h.sc (partsOf L fss) at_)[j]? := fun i j e => by
      unfold scRow partsOf
      rw [List.getElem?_map, List.getElem?_map, List.getElem?_map, List.getElem?_map, e]
    have ks0 : ∃ S, scRow (mOf h.sc) h.sc (partsOf L fss) at_ = S := ⟨_, rfl⟩
    obtain ⟨S, hS⟩ := ks0
    rw [hS] at p1 p2 lS rv bS sEq
    rw [eL]
    generalize L * (L * mOf h.sc) = LL at *
    have lfs := hfs.len
    have p3 := s3 _ _ p2
    refine seq_op fun N hN => ?_
    walk_at "rs"
    refine ⟨_, _, ⟨rfl, rfl⟩, _, .lst (SqL.of t31) hfs.dp, by decide, iteFF (fun z => by cases z) ⟨ts, SqL.of t31, fun q H4 s4 q0 q1 => ⟨q, p, S, LL, rfl, ⟨ts, fs, .inl (.inl q1), hfs.same s4, rv⟩, SqL.of (s4 _ _ p3), by omega, LL0, LL1, bS, fun H5 s5 => ⟨true, rfl, iteFF (fun z => by cases z) (hN _ _ ?_)⟩⟩⟩⟩
    clear hN N
    have s35 := Same.trans s4 s5
    have s25 := Same.trans s3 s35
    have t35 := s35 _ _ t31
    have hf5 := hfs.same s35
    have fr5 := fr2.same s25
    have ra5 := s25 _ _ hra2
    have p5 := s25 _ _ p2
    have hrs5 := hrs2.same s25
    have hh5 := hh2.same s25
    have B5 := B2.same s25
    have K05 : Kp b H H5 := Same.trans K12 (Kp.of s25)
    clear s3 s4 s5 s35 s25 q0 q1 t31 hfs fr2 hra2 p2 hrs2 hh2 p3
    have lts : ts.length = fss.length := by rw [lfs, ← rv.1, lS]
    refine cut_seq (fun σ H6 => ∃ x8 : Option V, σ = [some (.ref b), some (.ref ra), some sv, some v, some (.int (at_ : Int)), some (.ref p), some (.int LL), some (.ref t3), x8, none, none] ∧ Same H5 H6) (fun N hN => ?_) ?_
    · walk_at "rs"
      refine ⟨_, rfl, ra, rfl, rs, .inl (SqL.of ra5), (rs.length : Int), rfl, by omega, by omega, for_range (lo := 0) (n := ((rs.length : Int)).toNat) (fun i σ H6 => ∃ x8 : Option V, σ = [some (.ref b), some (.ref ra), some sv, some v, some (.int (at_ : Int)), some (.ref p), some (.int LL), some (.ref t3), x8, none, none] ∧ Same H5 H6) ⟨_, rfl, Same.refl _⟩ ?_ ?_⟩
      · rintro i σ H6 hi ⟨x8, rfl, s6⟩
        have hi' : i < fss.length := by omega
        obtain ⟨a1, ys1, fs1, e1, e2, h1, h2⟩ := fr5.get (n := i) hi'
        obtain ⟨j, ej, fj⟩ := first_at e2
        have hj : j < fss.length := (List.getElem?_eq_some_iff.mp ej).1
        obtain ⟨u1, g1, eu1, eg1, hu1⟩ := hf5.get (n := j) (by omega)
        obtain ⟨u2, g2, eu2, eg2, hu2⟩ := hf5.get (n := i) (by omega)
        have eS := sEq j i (by rw [ej, e2])
        have gg : g1 = g2 := by
          have k1 : S[i]? = some S[i] := List.getElem?_eq_getElem (by omega)
          have v1 := rv.2 j S[i] g1 (by rw [eS, k1]) eg1
          have v2 := rv.2 i S[i] g2 k1 eg2
          exact v1.uniq LL0 v2
        subst gg
        walk_at "rs"
        refine ⟨.inl ⟨rfl, rs, SqL.of (s6 _ _ ra5)⟩, rs, SqL.of (s6 _ _ ra5), _, at_ofN (Int.zero_add _) e1, ra, .ref a1, dRow fs1, fss.map dRow, j, dRow fs1, rfl, rfl, .lst (SqL.of (s6 _ _ ra5)) (fr5.same s6).dp, .tup (Same.seqT s6 h1) (h2.same s6).dp, sh_rows fss, sh_row fs1, ?_, ?_, fun m z' hm hz => ?_, _, _, rfl, SqL.of (s6 _ _ t35), _, at_ofN rfl eu1, _, SqL.of (s6 _ _ t35), _, at_ofN (Int.zero_add _) eu2, _, _, dp_pair (Same.seqT s6 hu1), dp_pair (Same.seqT s6 hu2), rfl, rfl, _, rfl, ?_⟩
        · rw [List.getElem?_map, ej]; rfl
        · rw [eqv_dRow, decide_eq_true rfl]
        · rw [List.getElem?_map] at hz
          obtain ⟨f', hf', rfl⟩ := Option.map_eq_some_iff.mp hz
          rw [eqv_dRow, decide_eq_false (fj m f' hm hf')]
        · rw [eqv_pair, decide_eq_true rfl, decide_eq_true rfl]
          exact iteFF (fun z => by cases z) s6
      · rintro σ H6 ⟨x8, rfl, s6⟩
        exact hN _ _ ⟨_, rfl, s6⟩
    · rintro σ H6 ⟨x8, rfl, s6⟩
      have B6 := B5.same s6
      refine seq_op fun N hN => ?_
      walk_at "rs"
      refine ⟨b, c, 9, N0, rfl, B6, by decide, by decide, fun r3 H7 _ _ B7 K7 => ⟨r3, rfl, ?_⟩⟩
      have hrs7 := (hrs5.same s6).kp B6 K7
      have hh7 := (hh5.same s6).kp B6 K7
      have ra7 := K7.get rb (s6 _ _ ra5)
      have p7 := K7.get pb (s6 _ _ p5)
      have K07 : Kp b H H7 := Same.trans K05 (Same.trans (Kp.of s6) K7)
      have sl : ∀ (G : Hp) (Nx : V → Hp → Prop), Same H7 G → (∀ (t : Addr) H', Same G H' → G t = none → H' t = some (.lst ((lookI S).map fun (k : Nat) => V.int (k : Int))) → Nx (.ref t) H') → sp_looked K [.ref ra, v, .int (at_ : Int)] G Nx E0 := fun G Nx sG q => ⟨ra, v, rs, h, n, at_, L, mOf h.sc, partsOf L fss, rfl, .inl (SqL.of (sG _ _ ra7)), hrs7.same sG, lim, by omega, hh7.same sG, gh.fit, by omega, by rw [hS]; exact q⟩
      have kl : (lookI S).length ≤ 9 := Nat.le_trans (look_len _) (by omega)
      refine ite_same (sl H7 _ (Same.refl _) fun t4 H8 s8 t40 t41 => hN _ _ ?_)
      clear hN N
      have p8 := s8 _ _ p7
      refine seq_op fun N hN => ?_
      walk_at "rs"
      refine ⟨p, S, rfl, SqL.of p8, by omega, fun m m1 m2 => hN _ _ ?_⟩
      clear hN N
      have em := best_uniq m1 m2
      subst em
      have lm : (S.map V.int).length = S.length := List.length_map ..
      have okd : okD (.list ((lookI S).map fun (k : Nat) => PyData.int (k : Int))) = true ∧ dep (.list ((lookI S).map fun (k : Nat) => PyData.int (k : Int))) ≤ 4 := by
        constructor
        · refine okD_lst.mpr ⟨by rw [List.length_map]; omega, ok_all fun d hd => ?_⟩
          obtain ⟨f, _, rfl⟩ := List.mem_map.mp hd
          rfl
        · refine Nat.succ_le_succ (dep_all fun d hd => ?_)
          obtain ⟨f, _, rfl⟩ := List.mem_map.mp hd
          exact Nat.zero_le _
      refine seq_op fun N hN => ?_
      walk_at "rs"
      refine ⟨_, rfl, p, rfl, S.map V.int, .inl (SqL.of p8), ((S.map V.int).length : Int), rfl, by omega, by omega, fun D hD => lc_filt (n := (((S.map V.int).length : Int)).toNat) walk_range (fun k => decide (S.getD k 0 = bestI S)) (fun (k : Nat) => .int (0 + (k : Int))) hD (by omega) (fun _ _ => trivial) (fun i x H9 H10 hi s9 y => ?_) (gm_name 8) fun H9 s9 h9 => ?_⟩
      · obtain ⟨rfl, rfl⟩ := y
        have iS : i < S.length := by omega
        have e : (S.map V.int)[i]? = some (V.int (S.getD i 0)) := by
          rw [List.getElem?_map, List.getD_eq_getElem?_getD, List.getElem?_eq_getElem iS]
          rfl
        refine ⟨Same.refl _, rfl, fun Qt hq => ?_, fun H4 s4 Q2 hq => ⟨_, rfl, hq _ (Same.refl _)⟩⟩
        walk_at "rs"
        exact ⟨_, s9.seq (SqL.of p8), _, at_ofN (Int.zero_add _) e, _, rfl, hq _ (Same.refl _)⟩
      · have e9 : ((List.range (((S.map V.int).length : Int)).toNat).filter fun k => decide (S.getD k 0 = bestI S)).map (fun (k : Nat) => V.int (0 + (k : Int))) = (lookI S).map fun (k : Nat) => V.int (k : Int) := by
          rw [Int.toNat_natCast, lm]
          unfold lookI
          exact List.map_congr_left fun k _ => by rw [Int.zero_add]
        rw [e9] at h9
        have t49 := s9 _ _ t41
        refine ⟨_, _, _, rfl, .lst (SqL.of t49) (dp_nats _), .lst (SqL.of h9) (dp_nats _), okd.1, okd.2, fun H10 s10 => ⟨_, rfl, iteFF (fun z => by cases z) (hN _ _ ?_)⟩⟩
        clear hN N
        have s70 := Same.trans s8 (Same.trans s9 s10)
        have t410 := s10 _ _ t49
        refine seq_op fun N hN => ?_
        walk_at "rs"
        refine ⟨.inl ⟨rfl, _, SqL.of t410⟩, _, t410, by rw [List.length_map]; exact Nat.lt_of_le_of_lt kl (by decide), hN _ _ ?_⟩
        clear hN N
        have sU : Same H7 (L2.upd H10 t4 (.lst (((lookI S).map fun (k : Nat) => V.int (k : Int)) ++ [V.int (at_ : Int)]))) := fun a o e => by
          rw [upd_ne (ne_of_none e t40)]
          exact s70 _ _ e
        have h4u : L2.upd H10 t4 (.lst (((lookI S).map fun (k : Nat) => V.int (k : Int)) ++ [V.int (at_ : Int)])) t4 = some (.lst (((lookI S).map fun (k : Nat) => V.int (k : Int)) ++ [V.int (at_ : Int)])) := upd_same
        generalize L2.upd H10 t4 (.lst (((lookI S).map fun (k : Nat) => V.int (k : Int)) ++ [V.int (at_ : Int)])) = HU at *
        walk_at "rs"
        refine sl _ _ sU fun t5 H11 s11 t50 t51 => ⟨_, SqL.of (s11 _ _ h4u), fun p6 H12 s12 p60 p61 => ?_⟩
        rw [cutV_init] at p61
        have s7 := Same.trans sU (Same.trans s11 s12)
        exact ⟨_, _, _, rfl, .lst (SqL.of (s12 _ _ t51)) (dp_nats _), .lst (SqL.of p61) (dp_nats _), okd.1, okd.2, fun H13 s13 => k H13 ((B7.same s7).same s13) (Same.trans K07 (Kp.of (Same.trans s7 s13)))⟩
end
end LK

set_option Elab.async false
set_option linter.all false
set_option maxRecDepth 100000
namespace LK
open PySem PySem.Spec PyProof.Rows L2
local macro_rules | `(tactic| walk_at "rs") => `(tactic| simp only [cxK, cxNK, tCallZ, tAsg, tOp, rI0, rS0, rB0, rI, rU, tUn, rEq, rNe, rIxL, rIxT, rIxS, rSetL, rSlLU, rSlS, rSlU, rCatL, rCatU, rRepL, rIn, tVar, tC, gName, gSub, tIfS, tTest, tB, tAnd, tOr, tNot, tNotV, tAndV, tOrV, tIf, tCall, tCons, tNil, tCB, tDrop, tRet, tRetN, tNext, tLstU, tTupU, tM0, tM1, tPar, tPar3, tAug, ipI, tBM, tBM0, rAppend, rPop, tBreak, tCont, tChain, tSl, tPart, tNoPart, L2.start, List.map, List.length_cons, List.length_nil, List.replicate, List.cons_append, List.nil_append, List.append_nil, List.getElem?_cons_zero, List.getElem?_cons_succ, List.set_cons_zero, List.set_cons_succ, Option.some.injEq, V.int.injEq, V.ref.injEq, V.str.injEq, V.bl.injEq, exists_eq_left', exists_eq_left, exists_and_left, decide_eq_true_eq, List.cons.injEq, and_true, true_and, scal, Bool.not_eq_true', decide_eq_false_iff_not, Nat.zero_add, Nat.reduceAdd, Nat.reduceSub, reduceCtorEq, false_and, exists_false, false_or, or_false, CPow, CPowW, CMul, CDiv, Int.reduceToNat, ↓reduceIte, wipe, sw, List.nil_append, List.singleton_append])
local macro_rules | `(tactic| walk_at "st") => `(tactic| (refine seq_op fun N hN => ?_; walk_at "rs"))
local macro_rules | `(tactic| walk_at "sd") => `(tactic| first | assumption | decide | omega)
local macro_rules | `(tactic| walk_at "rd") => `(tactic| repeat (first
  | refine ⟨_, SqL.of (by assumption), ?_⟩ | refine ⟨_, SqL.of upd_same, ?_⟩ | refine ⟨_, .inl (SqL.of (by assumption)), ?_⟩ | refine ⟨_, (by assumption : _ = some (HO.lst _)), ?_⟩ | refine ⟨_, upd_same, ?_⟩
  | refine ⟨_, rfl, ?_⟩ | refine And.intro (by walk_at "sd") ?_))

def raise1 (p q : Int) (e : Sc) : Sc := (e.1, (frP (e.2.1 * p) (e.2.2 * q), frQ (e.2.1 * p) (e.2.2 * q)))
theorem Tris.next {K : PySem.W.Frag} {H : Hp} {ys : List V} {es : List Sc} (f : Sc → Sc) {i : Nat} {e : Sc} {a : Addr} {u : Addr} {g : Fr} {c d : Nat} (t : Tris K H ys ((es.take i).map f)) (he : es[i]? = some e) (ef : f e = ((c, d), g)) (h1 : SqT K H a [.int (c : Int), .int (d : Int), .ref u]) (h2 : Pr K H u g.1 g.2) : Tris K H (ys ++ [.ref a]) ((es.take (i + 1)).map f) := by
  obtain ⟨hi, rfl⟩ := List.getElem?_eq_some_iff.mp he
  rw [← List.take_append_getElem hi, List.map_append]
  refine t.app ?_
  show Tris K H [.ref a] [f es[i]]
  rw [ef]
  exact .cons h1 h2 .nil
section
variable {P : Program} {w : World} {K : PySem.W.Frag} {mg : Str → Option Value} {base : Heap}
def sp_raised (K : PySem.W.Frag) : Sp := fun vs H Q _ => ∃ (sa fa : Addr) (xs : List V) (es : List Sc) (p q : Int), vs = [.ref sa, .ref fa] ∧ SqT K H sa xs ∧ Tris K H xs es ∧ es.length ≤ 100 ∧ (∀ e ∈ es, okB 2000 97 e.2) ∧ Pr K H fa p q ∧ 1 ≤ p ∧ p ≤ 9 ∧ 1 ≤ q ∧ q ≤ 9 ∧
  ∀ (t : Addr) (ys : List V) H', Same H H' → SqT K H' t ys → Tris K H' ys (es.map (raise1 p q)) → Q (.ref t) H'
theorem ok__law_raised (T : Txt w K mg) : FnOk P w K mg base CX0 3 T.a__law_raised T.d__law_raised ["items", "factor"] (sp_raised K) := by
  refine T.F__law_raised.ok sc__law_raised (fun vs H Q E h => ?_) (fun cdv A outer s H vs Q E hr h => ?_)
  · obtain ⟨sa, fa, xs, es, p, q, rfl, _⟩ := h
    rfl
  · obtain ⟨sa, fa, xs, es, p, q, rfl, hs, ht, le, ok, hf, p1, p9, q1, q9, k⟩ := h
    have hr__law_low : Room 2 _ := hr
    have G__law_low := ok__law_low (P := P) (base := base) T
    have lx := ht.len
    refine ⟨_, (pss_cons (ps_if (pt_truth (pe_lc (own := [("one", 2)]) (g := gName 2) (tt := _) rfl sc__law_raised.nd (pi_tup (pv 0)) (blkOk_by (own := [("one", 2)]) (N := N__law_raised) (sc := defScope s__law_raised) (by decide +kernel)) (fun _ _ _ _ _ => pg_name (i := 2) sc__law_raised.nd rfl (Or.inl rfl)) (fun _ _ _ _ _ => pts_one (PW.pt (pw_or (pt_cmpR op_ge (pe_callB call_abs (by rfl) T.n_abs (by decide +kernel) (pa_cons (pe_ix (ix_tupK (K := K) rfl) (pe_ix (ix_tupK (K := K) rfl) (pv 2) pe_int (fun _ _ => rfl)) pe_int (fun _ _ => rfl)) pa_nil)) (pe_op op_pow pe_int pe_int) (nomark _)) (pw_or1 (pt_cmpR op_ge (pe_ix (ix_tupK (K := K) rfl) (pe_ix (ix_tupK (K := K) rfl) (pv 2) pe_int (fun _ _ => rfl)) pe_int (fun _ _ => rfl)) (pe_op op_pow pe_int pe_int) (nomark _)))))) (fun _ _ _ _ _ => (pv 2))) (by intro _; rfl)) (pss_one (ps_ret (pv 0))) pss_nil)
      (pss_one (ps_ret (pe_callTy call_tupleN (by rfl) T.n_tuple (by decide +kernel) (pa_cons (pe_lc (own := [("one", 2)]) (g := gName 2) (tt := tYes) rfl sc__law_raised.nd (pi_tup (pv 0)) (blkOk_by (own := [("one", 2)]) (N := N__law_raised) (sc := defScope s__law_raised) (by decide +kernel)) (fun _ _ _ _ _ => pg_name (i := 2) sc__law_raised.nd rfl (Or.inl rfl)) (fun _ _ _ _ _ => pts_nil) (fun _ _ _ _ _ => (pe_op (op_catUK (K := K) rfl) (pe_slice (sl_tupUK (K := K) rfl) (pv 2) po_none (po_some pe_int)) (pe_tupU (pa_cons (pe_call G__law_low hr__law_low (by rfl) T.m__law_low T.F__law_low.kp T.B__law_low .nil pass0 (pa_cons (pe_op op_mulW (pe_ix (ix_tupK (K := K) rfl) (pe_ix (ix_tupK (K := K) rfl) (pv 2) pe_int (fun _ _ => rfl)) pe_int (fun _ _ => rfl)) (pe_ix (ix_tupK (K := K) rfl) (pv 1) pe_int (fun _ _ => rfl))) (pa_cons (pe_op op_mulW (pe_ix (ix_tupK (K := K) rfl) (pe_ix (ix_tupK (K := K) rfl) (pv 2) pe_int (fun _ _ => rfl)) pe_int (fun _ _ => rfl)) (pe_ix (ix_tupK (K := K) rfl) (pv 1) pe_int (fun _ _ => rfl))) pa_nil))) pa_nil))))) pa_nil))))), ?_⟩
    refine seq_op fun N hN => ?_
    walk_at "rs"
    refine ⟨_, rfl, sa, rfl, ⟨xs, hs⟩, fun D hD => lc_filt (n := xs.length) walk_tup (fun _ => false) (fun i => xs.getD i .non) hD (by omega) (fun H1 s1 => Same.seqT s1 hs) (fun i x H1 H2 hi s1 y => ?_) (gm_name 2) fun H1 s1 h1 => ?_⟩
    · obtain ⟨rfl, hx⟩ := y
      obtain ⟨a, u, c, d, f, ex, ee, h3, h4⟩ := ht.get (n := i) (by omega)
      obtain rfl : x = .ref a := by
        have hx : xs[i]? = some x := hx
        rw [ex] at hx; exact (Option.some.inj hx).symm
      obtain ⟨o1, o2, o3, o4⟩ := ok _ (List.mem_of_getElem? ee)
      dsimp only at o1 o2 o3 o4
      refine ⟨Same.refl _, rfl, fun Qt hq => ?_, fun H4 s4 Q2 hq => ⟨_, rfl, ?_⟩⟩
      · walk_at "rs"
        have b1 : decide ((10 : Int) ^ (17 : Nat) ≤ (if f.1 < 0 then -f.1 else f.1)) = false := by
          refine decide_eq_false ?_
          split <;> omega
        have b2 : decide ((10 : Int) ^ (17 : Nat) ≤ f.2) = false := decide_eq_false (by omega)
        have b17 : ¬ ((10 : Int) ^ (17 : Nat) ≤ (if f.1 < 0 then -f.1 else f.1)) := of_decide_eq_false b1
        have h3' := Same.seqT s1 h3
        have h4' : Pr K H2 u f.1 f.2 := Same.seqT s1 h4
        refine ⟨_, h3', _, rfl, u, rfl, _, h4', _, rfl, _, rfl, by decide, ?_⟩
        rw [if_neg b17]
        refine ⟨_, h3', _, rfl, u, rfl, _, h4', _, rfl, by decide, _, rfl, ?_⟩
        rw [b2]
        exact hq _ (Same.refl _)
      · have e : xs.getD i .non = .ref a := by rw [List.getD_eq_getElem?_getD, ex]; rfl
        have := hq H4 (Same.refl _)
        rw [e] at this
        exact this
    · rw [List.filter_eq_nil_iff.mpr (fun _ _ => by simp)] at h1
      refine ⟨false, .inl ⟨_, SqL.of h1, rfl⟩, iteFF (fun z => by cases z) (hN _ _ ?_)⟩
      clear hN N
      walk_at "rs"
      refine lc_tup2 (K := K) (a := sa) (xs := xs) (fun Q q => ⟨_, rfl, q⟩) (Same.seqT s1 hs) (fun i H ys => Tris K H ys ((es.take i).map (raise1 p q))) (by omega) (fun i H H' ys s h => h.same s) (fun D i H ys zs o hp h => h.upd hp) (fun H => .nil) (fun i x H2 hi s2 hx => ?_) (gm_name 2) fun D2 H2 ys s2 D20 D21 ly t2 => ?_
      · obtain ⟨a, u, c, d, f, ex, ee, h3, h4⟩ := ht.get (n := i) (by omega)
        obtain rfl : x = .ref a := by rw [ex] at hx; exact (Option.some.inj hx).symm
        obtain ⟨o1, o2, o3, o4⟩ := ok _ (List.mem_of_getElem? ee)
        dsimp only at o1 o2 o3 o4
        refine ⟨Same.refl _, rfl, fun Q2 hq => ?_⟩
        have s12 := Same.trans s1 s2
        have h3' := Same.seqT s12 h3
        have h4' : Pr K H2 u f.1 f.2 := Same.seqT s12 h4
        have hf' : Pr K H2 fa p q := Same.seqT s12 hf
        walk_at "rs"
        refine ⟨_, h3', fun q1 H3 s3 hq1 => ?_⟩
        have h3'' := Same.seqT s3 h3'
        have h4'' : Pr K H3 u f.1 f.2 := Same.seqT s3 h4'
        have hf'' : Pr K H3 fa p q := Same.seqT s3 hf'
        have e12 : cutV [V.int (c : Int), V.int (d : Int), V.ref u] none (some 2) = [V.int (c : Int), V.int (d : Int)] := rfl
        rw [e12] at hq1
        have m1 : (f.1 * p).natAbs ≤ 2000 * 9 := by rw [Int.natAbs_mul]; exact Nat.mul_le_mul o3 (by omega)
        have m2 : (f.2 * q).natAbs ≤ 97 * 9 := by rw [Int.natAbs_mul]; exact Nat.mul_le_mul o4 (by omega)
        have m0 : f.2 * q ≠ 0 := Int.mul_ne_zero (by omega) (by omega)
        refine ⟨_, h3'', _, rfl, u, rfl, _, h4'', _, rfl, _, hf'', _, rfl, _, rfl, _, rfl, ?_, _, h3'', _, rfl, u, rfl, _, h4'', _, rfl, _, hf'', _, rfl, _, rfl, _, rfl, ?_, ?_⟩
        · show _ + _ < _
          have a1 := Nat.log2_le_self f.1.natAbs
          have a2 := Nat.log2_le_self p.natAbs
          omega
        · show _ + _ < _
          have a1 := Nat.log2_le_self f.2.natAbs
          have a2 := Nat.log2_le_self q.natAbs
          omega
        · refine low_at (M := 1) (L := 1) m0 (pow_le (a := 64) (by omega) (by decide)) (pow_le (a := 64) (by omega) (by decide)) fun t4 H4 s4 t40 t41 => ⟨by decide, fun p5 H5 s5 p50 p51 => ?_⟩
          have s45 := Same.trans s4 s5
          refine ⟨_, Same.seqT s45 hq1, _, .inl (.inl p51), (show 2 + 1 ≤ sizeLine by decide), fun q6 H6 s6 hq6 => ?_⟩
          refine hq _ H6 (Same.trans s3 (Same.trans s45 s6)) fun ys ty => ty.next (raise1 p q) ee rfl hq6 (.inl (.inl (s6 _ _ (s5 _ _ t41))))
      · rw [show xs.length = es.length from lx, List.take_length] at t2
        exact ⟨D2, rfl, _, SqL.of D21, fun t H3 s3 t0 t1 => k t ys H3 (Same.trans s1 (Same.trans s2 s3)) (.inl (.inl t1)) (t2.same s3)⟩
end
end LK

set_option Elab.async false
set_option linter.all false
set_option maxRecDepth 100000
namespace LK
open PySem PySem.Spec PyProof.Rows L2
local macro_rules | `(tactic| walk_at "rs") => `(tactic| simp only [cxK, cxNK, tCallZ, tAsg, tOp, rI0, rS0, rB0, rI, rU, tUn, rEq, rNe, rIxL, rIxT, rIxS, rSetL, rSlLU, rSlS, rSlU, rCatL, rCatU, rRepL, rIn, tVar, tC, gName, gSub, tIfS, tTest, tB, tAnd, tOr, tNot, tNotV, tAndV, tOrV, tIf, tCall, tCons, tNil, tCB, tDrop, tRet, tRetN, tNext, tLstU, tTupU, tM0, tM1, tPar, tPar3, tAug, ipI, tBM, tBM0, rAppend, rPop, tBreak, tCont, tChain, tSl, tPart, tNoPart, L2.start, List.map, List.length_cons, List.length_nil, List.replicate, List.cons_append, List.nil_append, List.append_nil, List.getElem?_cons_zero, List.getElem?_cons_succ, List.set_cons_zero, List.set_cons_succ, Option.some.injEq, V.int.injEq, V.ref.injEq, V.str.injEq, V.bl.injEq, exists_eq_left', exists_eq_left, exists_and_left, decide_eq_true_eq, List.cons.injEq, and_true, true_and, scal, Bool.not_eq_true', decide_eq_false_iff_not, Nat.zero_add, Nat.reduceAdd, Nat.reduceSub, reduceCtorEq, false_and, exists_false, false_or, or_false, CPow, CPowW, CMul, CDiv, Int.reduceToNat, ↓reduceIte, wipe, sw, List.nil_append, List.singleton_append])
local macro_rules | `(tactic| walk_at "st") => `(tactic| (refine seq_op fun N hN => ?_; walk_at "rs"))
local macro_rules | `(tactic| walk_at "sd") => `(tactic| first | assumption | decide | omega)
local macro_rules | `(tactic| walk_at "rd") => `(tactic| repeat (first
  | refine ⟨_, SqL.of (by assumption), ?_⟩ | refine ⟨_, SqL.of upd_same, ?_⟩ | refine ⟨_, .inl (SqL.of (by assumption)), ?_⟩ | refine ⟨_, (by assumption : _ = some (HO.lst _)), ?_⟩ | refine ⟨_, upd_same, ?_⟩
  | refine ⟨_, rfl, ?_⟩ | refine And.intro (by walk_at "sd") ?_))

/-! ### the order of heads, of entries and of givings means nothing -/
theorem lcI_dvd {a d m : Int} (ha : 0 < a) (h1 : a ∣ m) (h2 : d ∣ m) : lcI a d ∣ m := by
  unfold lcI
  obtain ⟨a', ea⟩ := Nat.gcd_dvd_left a.natAbs d.natAbs
  have g0 : 0 < Nat.gcd a.natAbs d.natAbs := Nat.gcd_pos_of_pos_left _ (by omega)
  have l : Nat.lcm a.natAbs d.natAbs = a' * d.natAbs := by
    unfold Nat.lcm
    conv => lhs; rw [show a.natAbs * d.natAbs = Nat.gcd a.natAbs d.natAbs * (a' * d.natAbs) by rw [← Nat.mul_assoc, ← ea]]
    exact Nat.mul_div_cancel_left _ g0
  have e : a.fdiv ((Nat.gcd a.natAbs d.natAbs : Nat) : Int) = (a' : Int) := by
    have ea2 : a = ((Nat.gcd a.natAbs d.natAbs : Nat) : Int) * (a' : Int) := by rw [← Int.natCast_mul, ← ea]; omega
    conv => lhs; lhs; rw [ea2]
    rw [Int.fdiv_eq_ediv_of_nonneg _ (by omega), Int.mul_ediv_cancel_left _ (by omega)]
  rw [e]
  refine Int.natAbs_dvd_natAbs.mp ?_
  rw [Int.natAbs_mul]
  show a' * d.natAbs ∣ _
  rw [← l]
  exact Nat.lcm_dvd (Int.natAbs_dvd_natAbs.mpr h1) (Int.natAbs_dvd_natAbs.mpr h2)
theorem comF_dvd : ∀ {fs : List Fr} {a m : Int}, 0 < a → (∀ f ∈ fs, 1 ≤ f.2) → a ∣ m → (∀ f ∈ fs, f.2 ∣ m) → comF a fs ∣ m
  | [], _, _, _, _, h, _ => h
  | f :: fs, a, m, ha, h1, h, hf => show comF (lcI a f.2) fs ∣ m from comF_dvd (fs := fs) (a := lcI a f.2) (lcI_spec ha (h1 f List.mem_cons_self)).1 (fun g hg => h1 g (List.mem_cons_of_mem _ hg)) (lcI_dvd ha h (hf f List.mem_cons_self)) fun g hg => hf g (List.mem_cons_of_mem _ hg)
theorem comI_dvd {fs : List Fr} {m : Int} (h1 : ∀ f ∈ fs, 1 ≤ f.2) (h : ∀ f ∈ fs, f.2 ∣ m) : comI fs ∣ m := comF_dvd (by decide) h1 (Int.one_dvd _) h
theorem comI_eq {fs gs : List Fr} (h1 : ∀ f ∈ fs, 1 ≤ f.2) (e : ∀ f, f ∈ fs ↔ f ∈ gs) : comI fs = comI gs := by
  have h2 : ∀ f ∈ gs, 1 ≤ f.2 := fun f hf => h1 f ((e f).mpr hf)
  obtain ⟨a0, a1, _⟩ := comI_spec h1
  obtain ⟨b0, b1, _⟩ := comI_spec h2
  exact Int.dvd_antisymm (by omega) (by omega) (comI_dvd h1 fun f hf => b1 f ((e f).mp hf)) (comI_dvd h2 fun f hf => a1 f ((e f).mpr hf))
/-- what a list of gifts adds to a column -/
def colS : List (Nat × Int) → Nat → Int
  | [], _ => 0
  | p :: gi, c => (if p.1 = c then p.2 else 0) + colS gi c
theorem colS_app : ∀ (gi gj : List (Nat × Int)) (c : Nat), colS (gi ++ gj) c = colS gi c + colS gj c
  | [], gj, c => by show colS gj c = 0 + _; omega
  | p :: gi, gj, c => by
    show (if p.1 = c then p.2 else 0) + colS (gi ++ gj) c = (if p.1 = c then p.2 else 0) + colS gi c + colS gj c
    rw [colS_app gi gj c]
    omega
theorem addG_get {Xs : List Int} {p : Nat × Int} {c : Nat} (h : c < Xs.length) : (addG Xs p).getD c 0 = Xs.getD c 0 + if p.1 = c then p.2 else 0 := by
  unfold addG
  rw [List.getD_eq_getElem?_getD, List.getElem?_set]
  by_cases e : p.1 = c
  · rw [if_pos e, if_pos e]
    subst e
    rw [if_pos h]
    rfl
  · rw [if_neg e, if_neg e, List.getD_eq_getElem?_getD, Int.add_zero]
theorem foldG_get : ∀ {gi : List (Nat × Int)} {Xs : List Int} {c : Nat}, c < Xs.length → (gi.foldl addG Xs).getD c 0 = Xs.getD c 0 + colS gi c
  | [], Xs, c, _ => by show Xs.getD c 0 = _ + 0; omega
  | p :: gi, Xs, c, h => by
    show ((gi.foldl addG (addG Xs p))).getD c 0 = _ + ((if p.1 = c then p.2 else 0) + colS gi c)
    rw [foldG_get (by rw [addG_len]; exact h), addG_get h]
    omega
theorem foldG_ext {gi gj : List (Nat × Int)} {Xs : List Int} (e : ∀ c, colS gi c = colS gj c) : gi.foldl addG Xs = gj.foldl addG Xs := by
  refine List.ext_getElem (by rw [foldG_len, foldG_len]) fun c h1 h2 => ?_
  have hc : c < Xs.length := by rw [foldG_len] at h1; exact h1
  have a := foldG_get (gi := gi) hc
  have b := foldG_get (gi := gj) hc
  rw [e c, ← b, List.getD_eq_getElem?_getD, List.getD_eq_getElem?_getD, List.getElem?_eq_getElem h1, List.getElem?_eq_getElem h2] at a
  exact a
/-! scores -/
theorem look_scale {S T : List Int} {a b : Int} (ha : 0 < a) (hb : 0 < b) (hl : S.length = T.length) (h : ∀ i, S.getD i 0 * a = T.getD i 0 * b) : lookI S = lookI T := by
  by_cases e : S = []
  · subst e
    have : T = [] := List.length_eq_zero_iff.mp (by rw [← hl]; rfl)
    rw [this]
  · have e2 : T ≠ [] := fun z => e (List.length_eq_zero_iff.mp (by rw [hl, z]; rfl))
    have mem : ∀ {U : List Int} {x : Int}, x ∈ U → ∃ k, U.getD k 0 = x := fun {U x} hx => by
      obtain ⟨k, hk, ek⟩ := List.getElem_of_mem hx
      exact ⟨k, by rw [List.getD_eq_getElem?_getD, List.getElem?_eq_getElem hk]; exact ek⟩
    have lt : ∀ {U : List Int} {k : Nat}, k < U.length → U.getD k 0 ∈ U := fun {U k} hk => by
      rw [List.getD_eq_getElem?_getD, List.getElem?_eq_getElem hk]
      exact List.getElem_mem _
    obtain ⟨s1, s2⟩ := best_spec e
    obtain ⟨t1, t2⟩ := best_spec e2
    have key : bestI S * a = bestI T * b := by
      refine Int.le_antisymm ?_ ?_
      · obtain ⟨k, hk, ek⟩ := List.getElem_of_mem s1
        have g : S.getD k 0 = bestI S := by rw [List.getD_eq_getElem?_getD, List.getElem?_eq_getElem hk]; exact ek
        rw [← g, h k]
        exact Int.mul_le_mul_of_nonneg_right (t2 _ (lt (by omega))) (by omega)
      · obtain ⟨k, hk, ek⟩ := List.getElem_of_mem t1
        have g : T.getD k 0 = bestI T := by rw [List.getD_eq_getElem?_getD, List.getElem?_eq_getElem hk]; exact ek
        rw [← g, ← h k]
        exact Int.mul_le_mul_of_nonneg_right (s2 _ (lt (by omega))) (by omega)
    unfold lookI
    rw [hl]
    refine List.filter_congr fun k _ => ?_
    have i1 : S.getD k 0 = bestI S ↔ T.getD k 0 = bestI T := by
      constructor
      · intro z
        refine Int.eq_of_mul_eq_mul_right (show b ≠ 0 by omega) ?_
        rw [← h k, z, key]
      · intro z
        refine Int.eq_of_mul_eq_mul_right (show a ≠ 0 by omega) ?_
        rw [h k, z, key]
    by_cases c : S.getD k 0 = bestI S
    · rw [decide_eq_true c, decide_eq_true (i1.mp c)]
    · rw [decide_eq_false c, decide_eq_false fun z => c (i1.mpr z)]
theorem scI_scale {M M' A B : Int} {Xa Xs : List Int} {f : Sc → Sc} : ∀ {es : List Sc}, (∀ e ∈ es, (f e).1 = e.1 ∧ num M' (f e).2 * A = num M e.2 * B) → scI M' (es.map f) Xa Xs * A = scI M es Xa Xs * B
  | [], _ => by show (0 : Int) * A = 0 * B; rw [Int.zero_mul, Int.zero_mul]
  | e :: es, h => by
    have ih := scI_scale (Xa := Xa) (Xs := Xs) (es := es) fun g hg => h g (List.mem_cons_of_mem _ hg)
    obtain ⟨e1, e2⟩ := h e List.mem_cons_self
    show (Xs.getD (f e).1.2 0 * (Xa.getD (f e).1.1 0 * num M' (f e).2) + scI M' (es.map f) Xa Xs) * A = (Xs.getD e.1.2 0 * (Xa.getD e.1.1 0 * num M e.2) + scI M es Xa Xs) * B
    rw [Int.add_mul, Int.add_mul, ih, e1, Int.mul_assoc, Int.mul_assoc, e2, Int.mul_assoc, Int.mul_assoc]
theorem scI_rev (M : Int) (es : List Sc) (Xa Xs : List Int) : scI M es.reverse Xa Xs = scI M es Xa Xs := by
  unfold scI
  rw [List.map_reverse, List.sum_reverse]
theorem HGd.d1 {n : Nat} {h : Hd} (g : HGd n h) : ∀ f ∈ h.sc.map (·.2), 1 ≤ f.2 := fun f hf => by
  obtain ⟨e, he, rfl⟩ := List.mem_map.mp hf
  exact (g.sa e he).2.2.1
theorem HGd.d2 {n : Nat} {h : Hd} (g : HGd n h) : ∀ f ∈ h.giv.map (·.2), 1 ≤ f.2 := fun f hf => by
  obtain ⟨e, he, rfl⟩ := List.mem_map.mp hf
  exact (g.ga e he).2.2.1
theorem mOf_rev {n : Nat} {h : Hd} (g : HGd n h) : mOf h.sc.reverse = mOf h.sc := by
  unfold mOf
  refine (comI_eq g.d1 fun f => ?_).symm
  rw [List.map_reverse, List.mem_reverse]
theorem look_rev {n : Nat} {h : Hd} (g : HGd n h) (Xss : List (List Int)) (j : Nat) : lookI (scRow (mOf h.sc.reverse) h.sc.reverse Xss j) = lookI (scRow (mOf h.sc) h.sc Xss j) := by
  rw [mOf_rev g]
  unfold scRow
  rw [show scI (mOf h.sc) h.sc.reverse (Xss.getD j []) = scI (mOf h.sc) h.sc (Xss.getD j []) from funext fun Xs => scI_rev _ _ _ _]
theorem raise_num {M M' p q : Int} {f : Fr} (f2 : 1 ≤ f.2) (hq : 1 ≤ q) (d : f.2 ∣ M) (d' : frQ (f.1 * p) (f.2 * q) ∣ M') : num M' (frP (f.1 * p) (f.2 * q), frQ (f.1 * p) (f.2 * q)) * (M * q) = num M f * (M' * p) := by
  have q0 : f.2 * q ≠ 0 := Int.mul_ne_zero (by omega) (by omega)
  have wo := fr_worth (f.1 * p) q0
  obtain ⟨_, _, e3, _⟩ := fr_spec (f.1 * p) q0
  generalize frP (f.1 * p) (f.2 * q) = a at *
  generalize frQ (f.1 * p) (f.2 * q) = b at *
  obtain ⟨k, rfl⟩ := d
  obtain ⟨k', rfl⟩ := d'
  unfold num
  dsimp only
  rw [Int.mul_ediv_cancel_left _ (show f.2 ≠ 0 by omega), Int.mul_ediv_cancel_left _ (show b ≠ 0 by omega)]
  have e1 : a * k' * (f.2 * k * q) = a * (f.2 * q) * (k * k') := by ac_rfl
  have e2 : f.1 * k * (b * k' * p) = f.1 * p * b * (k * k') := by ac_rfl
  rw [e1, e2, wo]
end LK

set_option Elab.async false
set_option linter.all false
set_option maxRecDepth 100000
namespace LK
open PySem PySem.Spec PyProof.Rows L2
local macro_rules | `(tactic| walk_at "rs") => `(tactic| simp only [cxK, cxNK, tCallZ, tAsg, tOp, rI0, rS0, rB0, rI, rU, tUn, rEq, rNe, rIxL, rIxT, rIxS, rSetL, rSlLU, rSlS, rSlU, rCatL, rCatU, rRepL, rIn, tVar, tC, gName, gSub, tIfS, tTest, tB, tAnd, tOr, tNot, tNotV, tAndV, tOrV, tIf, tCall, tCons, tNil, tCB, tDrop, tRet, tRetN, tNext, tLstU, tTupU, tM0, tM1, tPar, tPar3, tAug, ipI, tBM, tBM0, rAppend, rPop, tBreak, tCont, tChain, tSl, tPart, tNoPart, L2.start, List.map, List.length_cons, List.length_nil, List.replicate, List.cons_append, List.nil_append, List.append_nil, List.getElem?_cons_zero, List.getElem?_cons_succ, List.set_cons_zero, List.set_cons_succ, Option.some.injEq, V.int.injEq, V.ref.injEq, V.str.injEq, V.bl.injEq, exists_eq_left', exists_eq_left, exists_and_left, decide_eq_true_eq, List.cons.injEq, and_true, true_and, scal, Bool.not_eq_true', decide_eq_false_iff_not, Nat.zero_add, Nat.reduceAdd, Nat.reduceSub, reduceCtorEq, false_and, exists_false, false_or, or_false, CPow, CPowW, CMul, CDiv, Int.reduceToNat, ↓reduceIte, wipe, sw, List.nil_append, List.singleton_append])
local macro_rules | `(tactic| walk_at "st") => `(tactic| (refine seq_op fun N hN => ?_; walk_at "rs"))
local macro_rules | `(tactic| walk_at "sd") => `(tactic| first | assumption | decide | omega)
local macro_rules | `(tactic| walk_at "rd") => `(tactic| repeat (first
  | refine ⟨_, SqL.of (by assumption), ?_⟩ | refine ⟨_, SqL.of upd_same, ?_⟩ | refine ⟨_, .inl (SqL.of (by assumption)), ?_⟩ | refine ⟨_, (by assumption : _ = some (HO.lst _)), ?_⟩ | refine ⟨_, upd_same, ?_⟩
  | refine ⟨_, rfl, ?_⟩ | refine And.intro (by walk_at "sd") ?_))

def negE (e : Sc) : Sc := (e.1, (-e.2.1, e.2.2))
def cut2 (h : Hd) (k : Nat) : List Hd := [⟨h.sc, h.giv.drop k⟩, ⟨h.sc.reverse, h.giv.take k⟩]
def cuts : List Hd → List Nat → List Hd
  | h :: hs, k :: ks => cut2 h k ++ cuts hs ks
  | _, _ => []
def rai2 (p q : Int) (h : Hd) : List Hd := [⟨h.sc.map (raise1 p q), h.giv⟩, ⟨h.sc, h.giv.map negE⟩]
def rais (p q : Int) (hs : List Hd) : List Hd := hs.flatMap (rai2 p q)
theorem cuts_snoc : ∀ {us : List Hd} {ks : List Nat} {u : Hd} {k : Nat}, us.length = ks.length → cuts (us ++ [u]) (ks ++ [k]) = cuts us ks ++ cut2 u k
  | [], [], u, k, _ => by show cut2 u k ++ [] = [] ++ cut2 u k; rw [List.append_nil]; rfl
  | v :: us, j :: ks, u, k, h => by
    show cut2 v j ++ cuts (us ++ [u]) (ks ++ [k]) = cut2 v j ++ cuts us ks ++ cut2 u k
    rw [cuts_snoc (by simpa using h), List.append_assoc]
  | [], _ :: _, _, _, h => by cases h
  | _ :: _, [], _, _, h => by cases h
theorem cuts_len : ∀ {us : List Hd} {ks : List Nat}, us.length = ks.length → (cuts us ks).length = 2 * us.length
  | [], [], _ => rfl
  | u :: us, k :: ks, h => by
    show (cut2 u k ++ cuts us ks).length = _
    rw [List.length_append, cuts_len (by simpa using h), List.length_cons]
    show 2 + _ = _
    omega
  | [], _ :: _, h => by cases h
  | _ :: _, [], h => by cases h
theorem cuts_mem : ∀ {us : List Hd} {ks : List Nat} {v : Hd}, v ∈ cuts us ks → ∃ u ∈ us, ∃ k, v ∈ cut2 u k
  | [], _, _, h => by cases h
  | _ :: _, [], _, h => by cases h
  | u :: us, k :: ks, v, h => by
    rcases List.mem_append.mp (show v ∈ cut2 u k ++ cuts us ks from h) with h | h
    · exact ⟨u, List.mem_cons_self, k, h⟩
    · obtain ⟨x, hx, j, hj⟩ := cuts_mem h
      exact ⟨x, List.mem_cons_of_mem _ hx, j, hj⟩
theorem rais_len (p q : Int) : ∀ us : List Hd, (rais p q us).length = 2 * us.length
  | [] => rfl
  | u :: us => by
    show (rai2 p q u ++ rais p q us).length = _
    rw [List.length_append, rais_len p q us, List.length_cons]
    show 2 + _ = _
    omega
theorem rais_snoc (p q : Int) (us : List Hd) (u : Hd) : rais p q (us ++ [u]) = rais p q us ++ rai2 p q u := by
  unfold rais
  rw [List.flatMap_append, List.flatMap_singleton]
/-! what each part keeps -/
structure PartH (n : Nat) (W : Int) (h : Hd) : Prop where
  g : HGd n h
  d : gOf h ∣ W
theorem gOf_dvd {n : Nat} {h h' : Hd} (g : HGd n h) (g' : HGd n h') (sub : ∀ e' ∈ h'.giv, ∃ e ∈ h.giv, e'.2.2 = e.2.2) : gOf h' ∣ gOf h := by
  unfold gOf
  refine Int.mul_dvd_mul (Int.dvd_refl _) (comI_dvd g'.d2 fun f hf => ?_)
  obtain ⟨e', he', rfl⟩ := List.mem_map.mp hf
  obtain ⟨e, he, q⟩ := sub e' he'
  rw [q]
  exact (comI_spec g.d2).2.1 _ (List.mem_map_of_mem he)
theorem okB_neg {M L : Nat} {f : Fr} (h : okB M L f) : okB M L (-f.1, f.2) := ⟨h.1, by rw [Int.natAbs_neg]; exact h.2.1, by rw [Int.natAbs_neg]; exact h.2.2.1, h.2.2.2⟩
theorem cut2_part {n : Nat} {W : Int} {h v : Hd} {k : Nat} (p : PartH n W h) (hv : v ∈ cut2 h k) : PartH n W v := by
  obtain ⟨g, d⟩ := p
  unfold cut2 at hv
  simp only [List.mem_cons, List.not_mem_nil, or_false] at hv
  rcases hv with rfl | rfl
  · have g' : HGd n ⟨h.sc, h.giv.drop k⟩ := ⟨g.sl, by show (h.giv.drop k).length ≤ 4; rw [List.length_drop]; have := g.gl; omega, g.sa, fun e he => g.ga e (List.mem_of_mem_drop he)⟩
    exact ⟨g', Int.dvd_trans (gOf_dvd g g' fun e he => ⟨e, List.mem_of_mem_drop he, rfl⟩) d⟩
  · have g' : HGd n ⟨h.sc.reverse, h.giv.take k⟩ := ⟨by show h.sc.reverse.length ≤ 5; rw [List.length_reverse]; exact g.sl, by show (h.giv.take k).length ≤ 4; rw [List.length_take]; have := g.gl; omega, fun e he => g.sa e (List.mem_reverse.mp he), fun e he => g.ga e (List.mem_of_mem_take he)⟩
    exact ⟨g', Int.dvd_trans (gOf_dvd g g' fun e he => ⟨e, List.mem_of_mem_take he, rfl⟩) d⟩
theorem rai2_part {n : Nat} {W : Int} {h v : Hd} {p q : Int} (pt : PartH n W h) (ho : ∀ e ∈ h.sc, okB 2000 97 e.2) (p1 : 1 ≤ p) (p9 : p ≤ 9) (q1 : 1 ≤ q) (q9 : q ≤ 9) (hv : v ∈ rai2 p q h) : PartH n W v := by
  obtain ⟨g, d⟩ := pt
  unfold rai2 at hv
  simp only [List.mem_cons, List.not_mem_nil, or_false] at hv
  rcases hv with rfl | rfl
  · have g' : HGd n ⟨h.sc.map (raise1 p q), h.giv⟩ := ⟨by show (h.sc.map (raise1 p q)).length ≤ 5; rw [List.length_map]; exact g.sl, g.gl, fun e he => by
      obtain ⟨e0, he0, rfl⟩ := List.mem_map.mp he
      obtain ⟨a1, a2, _⟩ := g.sa e0 he0
      obtain ⟨o1, o2, o3, o4⟩ := ho e0 he0
      refine ⟨a1, a2, okB_low (Int.mul_ne_zero (by omega) (by omega)) ?_ ?_⟩
      · rw [Int.natAbs_mul]
        exact Nat.mul_le_mul o3 (show p.natAbs ≤ 9 by omega)
      · rw [Int.natAbs_mul]
        exact Nat.mul_le_mul o4 (show q.natAbs ≤ 9 by omega), g.ga⟩
    exact ⟨g', Int.dvd_trans (gOf_dvd g g' fun e he => ⟨e, he, rfl⟩) d⟩
  · have g' : HGd n ⟨h.sc, h.giv.map negE⟩ := ⟨g.sl, by show (h.giv.map negE).length ≤ 4; rw [List.length_map]; exact g.gl, g.sa, fun e he => by
      obtain ⟨e0, he0, rfl⟩ := List.mem_map.mp he
      obtain ⟨a1, a2, a3⟩ := g.ga e0 he0
      exact ⟨a1, a2, okB_neg a3⟩⟩
    exact ⟨g', Int.dvd_trans (gOf_dvd g g' fun e he => by
      obtain ⟨e0, he0, rfl⟩ := List.mem_map.mp he
      exact ⟨e0, he0, rfl⟩) d⟩
theorem sumH_le {B : Nat} : ∀ {us : List Hd}, (∀ u ∈ us, u.giv.length ≤ B) → (us.map fun u => u.giv.length).sum ≤ us.length * B
  | [], _ => Nat.zero_le _
  | u :: us, h => by
    have ih := sumH_le (us := us) fun v hv => h v (List.mem_cons_of_mem _ hv)
    have h0 := h u List.mem_cons_self
    rw [List.map_cons, List.sum_cons, List.length_cons, Nat.add_mul, Nat.one_mul]
    omega
theorem parts_fit {n : Nat} {W : Int} {hs : List Hd} (h : ∀ u ∈ hs, PartH n W u) (l : hs.length ≤ 20) (w0 : 0 < W) (w1 : W.natAbs < 2 ^ 800) : HsFit n mH W hs :=
  ⟨fun u hu => (h u hu).g.fit, fun u hu => gvfit_of (h u hu).g.hb w0 w1 (h u hu).d, by omega, Nat.le_trans (sumH_le fun u hu => (h u hu).g.gl) (by omega), w0, w1⟩
theorem parted_part {n : Nat} {W : Int} {hs : List Hd} {ks : List Nat} {p q : Int} (h : ∀ u ∈ hs, PartH n W u) (ho : ∀ u ∈ hs, ∀ e ∈ u.sc, okB 2000 97 e.2) (p1 : 1 ≤ p) (p9 : p ≤ 9) (q1 : 1 ≤ q) (q9 : q ≤ 9) : ∀ v ∈ cuts hs.reverse ks ++ rais p q hs, PartH n W v := fun v hv => by
  rcases List.mem_append.mp hv with hv | hv
  · obtain ⟨u, hu, k, hk⟩ := cuts_mem hv
    exact cut2_part (h u (List.mem_reverse.mp hu)) hk
  · obtain ⟨u, hu, hk⟩ := List.mem_flatMap.mp hv
    exact rai2_part (h u hu) (ho u hu) p1 p9 q1 q9 hk
/-! what the parts give -/
theorem headG_app (W : Int) (M : Hd → Int) (hs gs : List Hd) (Xss : List (List Int)) (j : Nat) : headG W M (hs ++ gs) Xss j = headG W M hs Xss j ++ headG W M gs Xss j := List.flatMap_append
theorem headG_one (W : Int) (M : Hd → Int) (h : Hd) (Xss : List (List Int)) (j : Nat) : headG W M [h] Xss j = h.giv.map (giH W Xss (lookI (scRow (M h) h.sc Xss j))) := by
  unfold headG
  rw [List.flatMap_singleton]
theorem headG_cons (W : Int) (M : Hd → Int) (h : Hd) (hs : List Hd) (Xss : List (List Int)) (j : Nat) : headG W M (h :: hs) Xss j = h.giv.map (giH W Xss (lookI (scRow (M h) h.sc Xss j))) ++ headG W M hs Xss j := by
  rw [← headG_one, ← headG_app]
  rfl
theorem headG_rev (W : Int) (M : Hd → Int) (Xss : List (List Int)) (j c : Nat) : ∀ hs : List Hd, colS (headG W M hs.reverse Xss j) c = colS (headG W M hs Xss j) c
  | [] => rfl
  | h :: hs => by
    rw [List.reverse_cons, headG_app, colS_app, headG_rev W M Xss j c hs, headG_one, headG_cons, colS_app]
    omega
theorem cut2_col {n : Nat} {h : Hd} (g : HGd n h) (W : Int) (Xss : List (List Int)) (j k c : Nat) : colS (headG W mH (cut2 h k) Xss j) c = colS (h.giv.map (giH W Xss (lookI (scRow (mH h) h.sc Xss j)))) c := by
  unfold cut2
  rw [headG_cons, headG_one]
  dsimp only
  rw [show mH ⟨h.sc.reverse, h.giv.take k⟩ = mOf h.sc.reverse from rfl, look_rev g, colS_app, Int.add_comm, ← colS_app]
  rw [show mH ⟨h.sc, h.giv.drop k⟩ = mOf h.sc from rfl, ← List.map_append, List.take_append_drop]
theorem cuts_col {n : Nat} : ∀ {us : List Hd} {ks : List Nat}, (∀ u ∈ us, HGd n u) → us.length = ks.length → ∀ (W : Int) (Xss : List (List Int)) (j c : Nat), colS (headG W mH (cuts us ks) Xss j) c = colS (headG W mH us Xss j) c
  | [], [], _, _, _, _, _, _ => rfl
  | u :: us, k :: ks, h, hl, W, Xss, j, c => by
    have ih := cuts_col (us := us) (ks := ks) (fun v hv => h v (List.mem_cons_of_mem _ hv)) (by simpa using hl) W Xss j c
    show colS (headG W mH (cut2 u k ++ cuts us ks) Xss j) c = _
    rw [headG_app, colS_app, ih, cut2_col (h u List.mem_cons_self), headG_cons, colS_app]
  | [], _ :: _, _, hl, _, _, _, _ => by cases hl
  | _ :: _, [], _, hl, _, _, _, _ => by cases hl
theorem neg_col (W : Int) (Xss : List (List Int)) (ks : List Nat) (c : Nat) : ∀ es : List Sc, colS ((es.map negE).map (giH W Xss ks)) c = - colS (es.map (giH W Xss ks)) c
  | [] => rfl
  | e :: es => by
    have ih := neg_col W Xss ks c es
    show (if e.1.1 = c then tot Xss ks e.1.2 * (-e.2.1 * (W / (e.2.2 * (ks.length : Int)))) else 0) + colS ((es.map negE).map (giH W Xss ks)) c = -((if e.1.1 = c then tot Xss ks e.1.2 * (e.2.1 * (W / (e.2.2 * (ks.length : Int)))) else 0) + colS (es.map (giH W Xss ks)) c)
    rw [ih]
    split
    · rw [Int.neg_mul, Int.mul_neg]
      omega
    · omega
theorem look_raise {n : Nat} {h : Hd} {W p q : Int} (pt : PartH n W h) (ho : ∀ e ∈ h.sc, okB 2000 97 e.2) (p1 : 1 ≤ p) (p9 : p ≤ 9) (q1 : 1 ≤ q) (q9 : q ≤ 9) (Xss : List (List Int)) (j : Nat) : lookI (scRow (mOf (h.sc.map (raise1 p q))) (h.sc.map (raise1 p q)) Xss j) = lookI (scRow (mOf h.sc) h.sc Xss j) := by
  have g' : HGd n ⟨h.sc.map (raise1 p q), h.giv⟩ := (rai2_part pt ho p1 p9 q1 q9 (show (⟨h.sc.map (raise1 p q), h.giv⟩ : Hd) ∈ rai2 p q h from List.mem_cons_self)).g
  obtain ⟨a1, a2, _⟩ := comI_spec pt.g.d1
  obtain ⟨b1, b2, _⟩ := comI_spec g'.d1
  have A : 0 < mOf h.sc * q := Int.mul_pos a1 (by omega)
  have B : 0 < mOf (h.sc.map (raise1 p q)) * p := Int.mul_pos b1 (by omega)
  refine look_scale A B (by unfold scRow; rw [List.length_map, List.length_map]) fun i => ?_
  unfold scRow
  generalize Xss.getD j [] = Xa
  rw [List.getD_eq_getElem?_getD, List.getD_eq_getElem?_getD, List.getElem?_map, List.getElem?_map]
  cases Xss[i]? with
  | none => show (0 : Int) * _ = 0 * _; rw [Int.zero_mul, Int.zero_mul]
  | some Xs =>
    refine scI_scale fun e he => ⟨rfl, ?_⟩
    refine raise_num (ho e he).1 q1 (a2 _ (List.mem_map_of_mem he)) ?_
    exact b2 _ (List.mem_map_of_mem (List.mem_map_of_mem (f := raise1 p q) he))
theorem rai2_col {n : Nat} {h : Hd} {W p q : Int} (pt : PartH n W h) (ho : ∀ e ∈ h.sc, okB 2000 97 e.2) (p1 : 1 ≤ p) (p9 : p ≤ 9) (q1 : 1 ≤ q) (q9 : q ≤ 9) (Xss : List (List Int)) (j c : Nat) : colS (headG W mH (rai2 p q h) Xss j) c = 0 := by
  unfold rai2
  rw [headG_cons, headG_one]
  dsimp only
  rw [show mH ⟨h.sc.map (raise1 p q), h.giv⟩ = mOf (h.sc.map (raise1 p q)) from rfl, look_raise pt ho p1 p9 q1 q9, show mH ⟨h.sc, h.giv.map negE⟩ = mOf h.sc from rfl, colS_app, neg_col]
  omega
theorem rais_col {n : Nat} {W p q : Int} (p1 : 1 ≤ p) (p9 : p ≤ 9) (q1 : 1 ≤ q) (q9 : q ≤ 9) (Xss : List (List Int)) (j c : Nat) : ∀ {us : List Hd}, (∀ u ∈ us, PartH n W u) → (∀ u ∈ us, ∀ e ∈ u.sc, okB 2000 97 e.2) → colS (headG W mH (rais p q us) Xss j) c = 0
  | [], _, _ => rfl
  | u :: us, h, ho => by
    show colS (headG W mH (rai2 p q u ++ rais p q us) Xss j) c = 0
    rw [headG_app, colS_app, rai2_col (h u List.mem_cons_self) (ho u List.mem_cons_self) p1 p9 q1 q9, rais_col p1 p9 q1 q9 Xss j c (us := us) (fun v hv => h v (List.mem_cons_of_mem _ hv)) fun v hv => ho v (List.mem_cons_of_mem _ hv)]
    rfl
/-- the parts give what the heads give -/
theorem parted_heads {n : Nat} {W : Int} {hs : List Hd} {ks : List Nat} {p q : Int} (h : ∀ u ∈ hs, PartH n W u) (ho : ∀ u ∈ hs, ∀ e ∈ u.sc, okB 2000 97 e.2) (p1 : 1 ≤ p) (p9 : p ≤ 9) (q1 : 1 ≤ q) (q9 : q ≤ 9) (hl : hs.length = ks.length) (Xss : List (List Int)) : headRs W mH (cuts hs.reverse ks ++ rais p q hs) Xss = headRs W mH hs Xss := by
  unfold headRs
  refine List.map_congr_left fun j _ => ?_
  unfold headR
  refine foldG_ext fun c => ?_
  rw [headG_app, colS_app, cuts_col (n := n) (fun u hu => (h u (List.mem_reverse.mp hu)).g) (by rw [List.length_reverse]; exact hl), headG_rev, rais_col p1 p9 q1 q9 Xss j c h ho, Int.add_zero]
end LK

set_option Elab.async false
set_option linter.all false
set_option maxRecDepth 100000
namespace LK
open PySem PySem.Spec PyProof.Rows L2
local macro_rules | `(tactic| walk_at "rs") => `(tactic| simp only [cxK, cxNK, tCallZ, tAsg, tOp, rI0, rS0, rB0, rI, rU, tUn, rEq, rNe, rIxL, rIxT, rIxS, rSetL, rSlLU, rSlS, rSlU, rCatL, rCatU, rRepL, rIn, tVar, tC, gName, gSub, tIfS, tTest, tB, tAnd, tOr, tNot, tNotV, tAndV, tOrV, tIf, tCall, tCons, tNil, tCB, tDrop, tRet, tRetN, tNext, tLstU, tTupU, tM0, tM1, tPar, tPar3, tAug, ipI, tBM, tBM0, rAppend, rPop, tBreak, tCont, tChain, tSl, tPart, tNoPart, L2.start, List.map, List.length_cons, List.length_nil, List.replicate, List.cons_append, List.nil_append, List.append_nil, List.getElem?_cons_zero, List.getElem?_cons_succ, List.set_cons_zero, List.set_cons_succ, Option.some.injEq, V.int.injEq, V.ref.injEq, V.str.injEq, V.bl.injEq, exists_eq_left', exists_eq_left, exists_and_left, decide_eq_true_eq, List.cons.injEq, and_true, true_and, scal, Bool.not_eq_true', decide_eq_false_iff_not, Nat.zero_add, Nat.reduceAdd, Nat.reduceSub, reduceCtorEq, false_and, exists_false, false_or, or_false, CPow, CPowW, CMul, CDiv, Int.reduceToNat, ↓reduceIte, wipe, sw, List.nil_append, List.singleton_append])
local macro_rules | `(tactic| walk_at "st") => `(tactic| (refine seq_op fun N hN => ?_; walk_at "rs"))
local macro_rules | `(tactic| walk_at "sd") => `(tactic| first | assumption | decide | omega)
local macro_rules | `(tactic| walk_at "rd") => `(tactic| repeat (first
  | refine ⟨_, SqL.of (by assumption), ?_⟩ | refine ⟨_, SqL.of upd_same, ?_⟩ | refine ⟨_, .inl (SqL.of (by assumption)), ?_⟩ | refine ⟨_, (by assumption : _ = some (HO.lst _)), ?_⟩ | refine ⟨_, upd_same, ?_⟩
  | refine ⟨_, rfl, ?_⟩ | refine And.intro (by walk_at "sd") ?_))

section
/-- a comprehension that draws, its items told by R -/
theorem lc_bagK {J : It} {n k N : Nat} {G : Hp → Prop} {Y : Nat → Hp → V → Hp → Prop} (w : Walk J n G Y) {te : TE} {i0 : Nat} {σ : L2.St} {H1 : Hp} {D b c : Addr} {Qd : Hp → Prop} (hD : H1 D = none) (hB : Bag (N + n * k) H1 b c) (hn : n ≤ 1000000) (R : Hp → List V → Prop)
    (keepK : ∀ M G G' ys, Bag M G b c → Kp b G G' → R G ys → R G' ys) (up : ∀ H ys zs o, H D = some (.lst zs) → R H ys → R (L2.upd H D o) ys) (r0 : ∀ H, R H []) (hY : ∀ k H x H', Y k H x H' → H' = H) (hG : ∀ H, Kp b H1 H → G H)
    (hs : ∀ x H M, Kp b H1 H → Bag (M + k) H b c → ∀ Q2 : V → Hp → Prop, (∀ v H3, Bag M H3 b c → Kp b H H3 → (∀ ys, R H3 ys → R H3 (ys ++ [v])) → Q2 v H3) → te ((wipe σ [i0]).set i0 (some x)) H Q2)
    (hq : ∀ H' ys, Bag N H' b c → Kp b H1 H' → H' D = some (.lst ys) → ys.length = n → R H' ys → Qd H') :
    ∃ W : Nat → Nat → Hp → Prop, (∃ m, W 0 m (L2.upd H1 D (.lst []))) ∧ ∀ i m H, W i m H →
      (J.stop i H ∧ Qd H) ∨ (J.go i H ∧ ∃ Nx : Hp → Prop, (∀ H', Nx H' → ∃ m', m' < m ∧ W (i + 1) m' H') ∧ ∀ x H', J.yld i H x H' → gName i0 x (wipe σ [i0]) H' fun σ2 H2 => wipe σ2 [i0] = wipe σ [i0] ∧ tYes σ2 H2 fun b H3 =>
        if b = true then te σ2 H3 fun y H4 => ∃ acc, H4 D = some (.lst acc) ∧ acc.length < sizeLine ∧ Nx (L2.upd H4 D (.lst (acc ++ [y]))) else Nx H3) := by
  obtain ⟨xb, eb⟩ := hB.at
  obtain ⟨xc, ec⟩ := hB.at2
  have nbD : b ≠ D := fun e => by rw [← e, eb] at hD; cases hD
  have ncD : c ≠ D := fun e => by rw [← e, ec] at hD; cases hD
  refine lc_it w (fun i H => Kp b H1 H ∧ Bag (N + (n - i) * k) H b c ∧ ∃ ys, H D = some (.lst ys) ∧ ys.length = i ∧ R H ys) ⟨Kp.upd2 (Kp.refl _ _) hD, hB.upd nbD ncD, [], upd_same, rfl, r0 _⟩ (fun i H _ h => hG H h.1) (fun i x H H' hi ⟨s1, B1, ys, h1, hl, hp⟩ y => ?_) (fun H ⟨s1, B1, ys, h1, hl, hp⟩ => hq H ys (B1.le (Nat.le_add_right _ _)) s1 h1 hl hp)
  obtain rfl := hY _ _ _ _ y
  refine ⟨?_, ?_⟩
  · show ((σ.set i0 none).set i0 (some x)).set i0 none = σ.set i0 none
    rw [List.set_set, List.set_set]
  · have B1' : Bag (N + (n - (i + 1)) * k + k) H' b c := B1.le (by
      have e : n - i = (n - (i + 1)) + 1 := by omega
      rw [e, Nat.add_mul, Nat.one_mul, Nat.add_assoc]; exact Nat.le_refl _)
    simp only [tYes, eq_self, ite_true]
    refine hs x H' _ s1 B1' _ fun v H3 B3 k3 st => ?_
    have hD3 := k3.hd h1 nbD.symm
    refine ⟨ys, hD3, ?_, Kp.upd2 (Same.trans s1 k3) hD, B3.upd nbD ncD, ys ++ [v], upd_same, by rw [List.length_append, hl]; rfl, up _ _ _ _ hD3 (st ys (keepK _ _ _ _ B1' k3 hp))⟩
    rw [hl]
    exact Nat.lt_of_lt_of_le (Nat.lt_of_lt_of_le hi hn) (by decide)
end
theorem prodDD_le {B : Nat} : ∀ {fss : List (List Fr)}, (∀ fs ∈ fss, prodD fs ≤ B) → prodDD fss ≤ B ^ fss.length
  | [], _ => Nat.le_refl _
  | fs :: fss, h => by
    rw [List.length_cons, Nat.pow_succ']
    exact Nat.mul_le_mul (h fs List.mem_cons_self) (prodDD_le fun g hg => h g (List.mem_cons_of_mem _ hg))
theorem rows_prod {n : Nat} {fss : List (List Fr)} (h : ∀ fs ∈ fss, fs.length = n ∧ ∀ f ∈ fs, okB 2000 97 f) (l : fss.length ≤ 9) (hn : n ≤ 5) : prodDD fss ≤ 97 ^ 45 := by
  have a : prodDD fss ≤ (97 ^ 5) ^ fss.length := prodDD_le fun fs hf => by
    refine Nat.le_trans (prodD_le (B := 97) fun f hff => ((h fs hf).2 f hff).2.2.2) ?_
    rw [(h fs hf).1]
    exact Nat.pow_le_pow_right (by decide) hn
  refine Nat.le_trans a ?_
  rw [show 97 ^ 45 = (97 ^ 5) ^ 9 by decide]
  exact Nat.pow_le_pow_right (by decide) l
theorem rows_of {K : PySem.W.Frag} {H : Hp} {L : Int} : ∀ {rs : List V} {fss : List (List Fr)}, FRows K H rs fss → (∀ fs ∈ fss, ∀ f ∈ fs, low f ∧ f.2 ∣ L) → Rows K H L rs (partsOf L fss)
  | _, _, .nil, _ => .nil
  | _, _, .cons (fs := fs) h1 h2 q, h => .cons ⟨_, fs, h1, h2, by rw [List.length_map], fun i X f e1 e2 => by
      rw [List.getElem?_map, e2] at e1
      cases e1
      obtain ⟨⟨a, b⟩, c⟩ := h fs List.mem_cons_self f (List.mem_of_getElem? e2)
      exact num_va a b c⟩ (rows_of q fun g hg => h g (List.mem_cons_of_mem _ hg))
theorem RowV.uniq {L : Int} {Xs : List Int} {fs gs : List Fr} (hL : 0 < L) (h : RowV L Xs fs) (h' : RowV L Xs gs) : fs = gs := by
  refine List.ext_getElem (by rw [← h.1, h'.1]) fun i h1 h2 => ?_
  have hi : i < Xs.length := by rw [h.1]; exact h1
  exact Va.uniq hL (h.2 i Xs[i] fs[i] (List.getElem?_eq_getElem hi) (List.getElem?_eq_getElem h1)) (h'.2 i Xs[i] gs[i] (List.getElem?_eq_getElem hi) (List.getElem?_eq_getElem h2))
/-- rows of the same parts are the same fractions -/
theorem Rows.two {K : PySem.W.Frag} {H H' : Hp} {L : Int} (hL : 0 < L) : ∀ {xs ys : List V} {Xss : List (List Int)}, Rows K H L xs Xss → Rows K H' L ys Xss → ∃ fss, FRows K H xs fss ∧ FRows K H' ys fss ∧ fss.length = Xss.length ∧ ∀ fs ∈ fss, ∃ Xs ∈ Xss, Xs.length = fs.length
  | _, _, _, .nil, .nil => ⟨[], .nil, .nil, rfl, fun fs h => absurd h (by simp)⟩
  | _, _, _, .cons ⟨as, fs, h1, h2, h3⟩ q, .cons ⟨bs, gs, g1, g2, g3⟩ r => by
    obtain ⟨fss, a, b, c, d⟩ := Rows.two hL q r
    obtain rfl := h3.uniq hL g3
    refine ⟨fs :: fss, .cons h1 h2 a, .cons g1 g2 b, congrArg Nat.succ c, fun ks hk => ?_⟩
    rcases List.mem_cons.mp hk with rfl | hk
    · exact ⟨_, List.mem_cons_self, h3.1⟩
    · obtain ⟨Xs, hX, e⟩ := d ks hk
      exact ⟨Xs, List.mem_cons_of_mem _ hX, e⟩
theorem prodDD_set {B C : Nat} (hC : 1 ≤ C) : ∀ {fss : List (List Fr)} {k : Nat} {g : List Fr}, (∀ fs ∈ fss, prodD fs ≤ B) → prodD g ≤ B * C → prodDD (fss.set k g) ≤ B ^ fss.length * C
  | [], _, _, _, _ => by show 1 ≤ 1 * C; omega
  | fs :: fss, 0, g, h, hg => by
    show prodD g * prodDD fss ≤ _
    rw [List.length_cons, Nat.pow_succ', Nat.mul_assoc, Nat.mul_comm (B ^ fss.length) C, ← Nat.mul_assoc]
    exact Nat.mul_le_mul hg (prodDD_le fun f hf => h f (List.mem_cons_of_mem _ hf))
  | fs :: fss, k + 1, g, h, hg => by
    show prodD fs * prodDD (fss.set k g) ≤ _
    rw [List.length_cons, Nat.pow_succ', Nat.mul_assoc]
    exact Nat.mul_le_mul (h fs List.mem_cons_self) (prodDD_set hC (fun f hf => h f (List.mem_cons_of_mem _ hf)) hg)
theorem FRows.set {K : PySem.W.Frag} {H : Hp} {a : Addr} {ys : List V} {fs : List Fr} (h1 : SqT K H a ys) (h2 : Frs K H ys fs) : ∀ {xs : List V} {fss : List (List Fr)} (k : Nat), FRows K H xs fss → FRows K H (xs.set k (.ref a)) (fss.set k fs)
  | _, _, _, .nil => .nil
  | _, _, 0, .cons _ _ q => .cons h1 h2 q
  | _, _, k + 1, .cons g1 g2 q => .cons g1 g2 (q.set h1 h2 k)
theorem num_bound {M : Int} {f : Fr} {a b : Nat} (hM : M.natAbs < 2 ^ a) (hf : f.1.natAbs < 2 ^ b) : (num M f).natAbs < 2 ^ (b + a) := wide_lt hf (Nat.lt_of_le_of_lt (Int.natAbs_ediv_le_natAbs _ _) hM)
/-- a head that is drawn -/
structure PG (n : Nat) (h : Hd) : Prop where
  g : HGd n h
  o : ∀ e ∈ h.sc, okB 2000 97 e.2
def HdsG (K : PySem.W.Frag) (n : Nat) (H : Hp) (ys : List V) : Prop := ∃ hs, Heads K H ys hs ∧ ∀ h ∈ hs, PG n h
theorem prodHs_le {B : Nat} : ∀ {hs : List Hd}, (∀ h ∈ hs, prodH h ≤ B) → prodHs hs ≤ B ^ hs.length
  | [], _ => Nat.le_refl _
  | u :: us, h => by
    rw [List.length_cons, Nat.pow_succ']
    exact Nat.mul_le_mul (h u List.mem_cons_self) (prodHs_le fun v hv => h v (List.mem_cons_of_mem _ hv))
theorem prodHs_lim {n : Nat} {hs : List Hd} (h : ∀ u ∈ hs, HGd n u) (l : hs.length ≤ 3) : prodHs hs < 2 ^ 200 :=
  Nat.lt_of_le_of_lt (prodHs_le fun u hu => (h u hu).ph) (Nat.lt_of_le_of_lt (Nat.pow_le_pow_right (by decide) l) (by decide))
theorem headRs_nil {Xss : List (List Int)} : headRs 1 mH [] Xss = Xss := by
  unfold headRs
  have e : ∀ j, headR 1 mH [] Xss j = id (Xss.getD j []) := fun j => by
    show (Xss.getD j []).map (· * 1) = _
    simp
  rw [show headR 1 mH [] Xss = fun j => id (Xss.getD j []) from funext e, map_getD, List.map_id]
theorem hfit_nil {n : Nat} : HsFit n mH 1 [] := parts_fit (fun u hu => absurd hu (by simp)) (by decide) (by decide) (Nat.one_lt_two_pow (by decide))
theorem small_heads {n : Nat} {L W : Int} {hs : List Hd} {Xss : List (List Int)} (lim : ∀ Xs ∈ Xss, Xs.length = n ∧ LimS L Xs) (lX : Xss.length ≤ 9) (L0 : 0 < L) (lL : L.natAbs < 2 ^ 400) (f : HsFit n mH W hs) (ln : n ≤ 1000) : Small (L * W) (headRs W mH hs Xss) := by
  refine ⟨Int.mul_pos L0 f.W0, pow_le (wide_lt lL f.W1) (by decide), fun Ys hY => ?_⟩
  obtain ⟨j, hj, rfl⟩ := List.mem_map.mp hY
  have hj := List.mem_range.mp hj
  have hA : Xss.getD j [] ∈ Xss := by
    rw [List.getD_eq_getElem?_getD, List.getElem?_eq_getElem hj]
    exact List.getElem_mem _
  obtain ⟨ln', li⟩ := lim _ hA
  refine ⟨by rw [headR_len, ln']; exact ln, fun X hx => ?_⟩
  have gl := headG_len W mH Xss j hs
  have gv := f.giv
  have := foldG_bound (k := 1400) (i := 1400) (gi := headG W mH hs Xss j) (Xs := (Xss.getD j []).map (· * W)) (Nat.le_refl _) (fun X hX => by
    obtain ⟨Z, hZ, rfl⟩ := List.mem_map.mp hX
    exact pow_le (wide_lt (li.2.2 Z hZ) f.W1) (by decide)) (fun p hp => (headG_ok lim lX f p hp).2) X hx
  exact pow_le this (by omega)
def sp_law (K : PySem.W.Frag) : Sp := fun vs H Q _ => ∃ (a : Addr) (ns : List Int), vs = [.ref a] ∧ SqL K H a (ns.map V.int) ∧ ns.length ≤ 63 ∧ ∀ H', Q (.bl true) H'
abbrev cxLaw (P : Program) (w : World) (K : PySem.W.Frag) (mg : Str → Option Value) (base : Heap) (f : Addr) (cdv : Value) (A : Around) (outer : List Env) (s : Shared) (H : Hp) (E : XK) : Cx := (cxOf CX0 P w K mg base N_law "law" (defScope s_law) f cdv A outer s H E).nox
/-- what is known behind the first heads -/
structure Kn (K : PySem.W.Frag) (H : Hp) (b D D2 hd kp : Addr) (sv : V) (n : Nat) (rs zs ts : List V) (fss : List (List Fr)) (hs : List Hd) (L W : Int) : Prop where
  n1 : 1 ≤ n
  n5 : n ≤ 5
  hD : H D = some (.lst rs)
  hh : H hd = some (.lst rs)
  hU : H D2 = some (.lst zs)
  hk : H kp = some (.lst ts)
  nD : D ≠ b
  nh : hd ≠ b
  nU : D2 ≠ b
  nk : kp ≠ b
  fr : FRows K H rs fss
  rg : RowsG n fss
  l9 : fss.length ≤ 9
  un : Heads K H zs hs
  ug : ∀ u ∈ hs, PG n u
  l3 : hs.length ≤ 3
  st : StateAt K H sv L (partsOf L fss)
  ks : Rows K H (L * W) ts (headRs W mH hs (partsOf L fss))
  eW : moreH 1 hs = W
  L0 : 0 < L
  lL : L.natAbs < 2 ^ 391
  Ld : ∀ fs ∈ fss, ∀ f ∈ fs, f.2 ∣ L
namespace Kn
variable {K : PySem.W.Frag} {H H' : Hp} {b D D2 hd kp : Addr} {sv : V} {n : Nat} {rs zs ts : List V} {fss : List (List Fr)} {hs : List Hd} {L W : Int}
theorem same (q : Kn K H b D D2 hd kp sv n rs zs ts fss hs L W) (s : Same H H') : Kn K H' b D D2 hd kp sv n rs zs ts fss hs L W :=
  ⟨q.n1, q.n5, s _ _ q.hD, s _ _ q.hh, s _ _ q.hU, s _ _ q.hk, q.nD, q.nh, q.nU, q.nk, q.fr.same s, q.rg, q.l9, q.un.same s, q.ug, q.l3, q.st.same s, q.ks.same s, q.eW, q.L0, q.lL, q.Ld⟩
theorem bag {N : Nat} {c : Addr} (q : Kn K H b D D2 hd kp sv n rs zs ts fss hs L W) (B : Bag N H b c) (k : Kp b H H') : Kn K H' b D D2 hd kp sv n rs zs ts fss hs L W :=
  ⟨q.n1, q.n5, Kp.get k q.nD q.hD, Kp.get k q.nh q.hh, Kp.get k q.nU q.hU, Kp.get k q.nk q.hk, q.nD, q.nh, q.nU, q.nk, q.fr.kp B k, q.rg, q.l9, q.un.kp B k, q.ug, q.l3, q.st.kp B k, q.ks.kp B k, q.eW, q.L0, q.lL, q.Ld⟩
theorem limS (q : Kn K H b D D2 hd kp sv n rs zs ts fss hs L W) : ∀ Xs ∈ partsOf L fss, Xs.length = n ∧ LimS L Xs := fun Xs hX => by
  obtain ⟨fs, hfs, rfl⟩ := List.mem_map.mp hX
  refine ⟨by rw [List.length_map]; exact (q.rg fs hfs).1, q.L0, pow_le q.lL (by decide), fun X hx => ?_⟩
  obtain ⟨f, hf, rfl⟩ := List.mem_map.mp hx
  exact pow_le (num_bound (a := 391) (b := 60) q.lL (Nat.lt_of_le_of_lt ((q.rg fs hfs).2 f hf).2.2.1 (by decide))) (by decide)
theorem rows (q : Kn K H b D D2 hd kp sv n rs zs ts fss hs L W) : Rows K H L rs (partsOf L fss) := rows_of q.fr fun fs hfs f hf => by
  obtain ⟨o1, o2, _⟩ := (q.rg fs hfs).2 f hf
  exact ⟨⟨o1, o2⟩, q.Ld fs hfs f hf⟩
theorem lp (q : Kn K H b D D2 hd kp sv n rs zs ts fss hs L W) : (partsOf L fss).length ≤ 9 := by
  have := q.l9
  unfold partsOf
  rw [List.length_map]; exact this
theorem more (q : Kn K H b D D2 hd kp sv n rs zs ts fss hs L W) : 0 < W ∧ W.natAbs < 2 ^ 200 ∧ ∀ u ∈ hs, PartH n W u := by
  obtain ⟨w0, _, wd, wl⟩ := moreH_spec (m := 1) (hs := hs) (by decide) fun u hu => (q.ug u hu).g.hb
  rw [q.eW] at w0 wd wl
  refine ⟨w0, Nat.lt_of_le_of_lt wl (by rw [show (1 : Int).natAbs = 1 from rfl, Nat.one_mul]; exact prodHs_lim (fun u hu => (q.ug u hu).g) q.l3), fun u hu => ⟨(q.ug u hu).g, wd u hu⟩⟩
theorem fit (q : Kn K H b D D2 hd kp sv n rs zs ts fss hs L W) : HsFit n mH W hs := parts_fit q.more.2.2 (by have := q.l3; omega) q.more.1 (pow_le q.more.2.1 (by decide))
end Kn
end LK

set_option Elab.async false
set_option linter.all false
set_option maxRecDepth 100000
namespace LK
open PySem PySem.Spec PyProof.Rows L2
local macro_rules | `(tactic| walk_at "rs") => `(tactic| simp only [cxK, cxNK, tCallZ, tAsg, tOp, rI0, rS0, rB0, rI, rU, tUn, rEq, rNe, rIxL, rIxT, rIxS, rSetL, rSlLU, rSlS, rSlU, rCatL, rCatU, rRepL, rIn, tVar, tC, gName, gSub, tIfS, tTest, tB, tAnd, tOr, tNot, tNotV, tAndV, tOrV, tIf, tCall, tCons, tNil, tCB, tDrop, tRet, tRetN, tNext, tLstU, tTupU, tM0, tM1, tPar, tPar3, tAug, ipI, tBM, tBM0, rAppend, rPop, tBreak, tCont, tChain, tSl, tPart, tNoPart, L2.start, List.map, List.length_cons, List.length_nil, List.replicate, List.cons_append, List.nil_append, List.append_nil, List.getElem?_cons_zero, List.getElem?_cons_succ, List.set_cons_zero, List.set_cons_succ, Option.some.injEq, V.int.injEq, V.ref.injEq, V.str.injEq, V.bl.injEq, exists_eq_left', exists_eq_left, exists_and_left, decide_eq_true_eq, List.cons.injEq, and_true, true_and, scal, Bool.not_eq_true', decide_eq_false_iff_not, Nat.zero_add, Nat.reduceAdd, Nat.reduceSub, reduceCtorEq, false_and, exists_false, false_or, or_false, CPow, CPowW, CMul, CDiv, Int.reduceToNat, ↓reduceIte, wipe, sw, List.nil_append, List.singleton_append])
local macro_rules | `(tactic| walk_at "st") => `(tactic| (refine seq_op fun N hN => ?_; walk_at "rs"))
local macro_rules | `(tactic| walk_at "sd") => `(tactic| first | assumption | decide | omega)
local macro_rules | `(tactic| walk_at "rd") => `(tactic| repeat (first
  | refine ⟨_, SqL.of (by assumption), ?_⟩ | refine ⟨_, SqL.of upd_same, ?_⟩ | refine ⟨_, .inl (SqL.of (by assumption)), ?_⟩ | refine ⟨_, (by assumption : _ = some (HO.lst _)), ?_⟩ | refine ⟨_, upd_same, ?_⟩
  | refine ⟨_, rfl, ?_⟩ | refine And.intro (by walk_at "sd") ?_))

section
variable {P : Program} {w : World} {K : PySem.W.Frag} {mg : Str → Option Value} {base : Heap}
theorem law18 (T : Txt w K mg) {cdv : Value} {A : Around} {outer : List Env} {s : Shared} {H0 : Hp} {E : XK} (hr : Room 9 (A.deeper (envOfC "law" (defScope s_law) s.heap.objs.size T.a_law cdv))) : ∃ t, PSs (cxLaw P w K mg base T.a_law cdv A outer s H0 E) ((defBody s_law).drop 18) t ∧
    ∀ (D : Ends) (σ : L2.St) (H : Hp) (b c D1 D2 hd kp pa : Addr) (sv : V) (n : Nat) (rs zs ts ps : List V) (fss : List (List Fr)) (hs : List Hd) (ks : List Nat) (p q L W : Int) (x0 x4 x5 x8 x9 x10 x12 x15 x16 x17 : Option V), (∀ H', D.rt (.bl true) H') →
      σ = [x0, some (.ref b), some (.int (n : Int)), some (.ref D1), x4, x5, some (.ref D2), some sv, x8, x9, x10, some (.ref hd), x12, some (.ref kp), some (.ref pa), x15, x16, x17, none] → Bag 40000 H b c → Kn K H b D1 D2 hd kp sv n rs zs ts fss hs L W → H pa = some (.lst ps) → pa ≠ b → Heads K H ps (cuts hs.reverse ks ++ rais p q hs) → hs.length = ks.length → 1 ≤ p → p ≤ 9 → 1 ≤ q → q ≤ 9 → t D σ H := by
  have hr__law_draw : Room 1 _ := hr.mono (by decide)
  have G__law_draw := ok__law_draw (P := P) (base := base) T
  have hr_heads_done : Room 9 _ := hr
  have G_heads_done := ok_heads_done (P := P) (base := base) T
  have hr__law_rows_same : Room 5 _ := hr.mono (by decide)
  have G__law_rows_same := ok__law_rows_same (P := P) (base := base) T
  have hr__law_like : Room 5 _ := hr.mono (by decide)
  have G__law_like := ok__law_like (P := P) (base := base) T 4
  refine ⟨_, (pss_cons (ps_set (i := 18) sc_law.nd rfl (Or.inl rfl) (pe_ifExp (pt_cmpR op_eqI (pe_call G__law_draw hr__law_draw (by rfl) T.m__law_draw T.F__law_draw.kp T.B__law_draw .nil pass0 (pa_cons (pv 1) (pa_cons pe_int pa_nil))) pe_int (nomark _)) (pe_callZ (g := fun ws => ws) (gV := fun zs => zs) G_heads_done hr_heads_done (by rfl) T.m_heads_done T.F_heads_done.kp T.Z_heads_done pass0 (pk_cons (pv 11) (pk_cons (pe_callTy call_tupleN (by rfl) T.n_tuple (by decide +kernel) (pa_cons (pv 14) pa_nil)) pk_nil))) (pe_call G_heads_done hr_heads_done (by rfl) T.m_heads_done T.F_heads_done.kp T.B_heads_done .nil pass0 (pa_cons (pv 11) (pa_cons (pv 14) pa_nil)))))
      (pss_cons (ps_if (PW.pt (pw_or (pt_not (pt_val (pe_call G__law_like hr__law_like (by rfl) T.m__law_like T.F__law_like.kp T.B__law_like .nil pass0 (pa_cons (pv 18) (pa_cons (pv 13) pa_nil))))) (pw_or1 (pt_not (pt_val (pe_call G__law_like hr__law_like (by rfl) T.m__law_like T.F__law_like.kp T.B__law_like .nil pass0 (pa_cons (pe_call G_heads_done hr_heads_done (by rfl) T.m_heads_done T.F_heads_done.kp T.B_heads_done .nil pass0 (pa_cons (pe_callTy call_tupleN (by rfl) T.n_tuple (by decide +kernel) (pa_cons (pv 3) pa_nil)) (pa_cons (pv 6) pa_nil))) (pa_cons (pv 13) pa_nil)))))))) (pss_one (ps_ret pe_bl)) pss_nil)
      (pss_one (ps_ret (pe_and (pe_call G__law_rows_same hr__law_rows_same (by rfl) T.m__law_rows_same T.F__law_rows_same.kp T.B__law_rows_same .nil pass0 (pa_cons (pe_call G_heads_done hr_heads_done (by rfl) T.m_heads_done T.F_heads_done.kp T.B_heads_done .nil pass0 (pa_cons (pv 3) (pa_cons (pe_lstU pa_nil) pa_nil))) (pa_cons (pv 7) pa_nil))) (pe_one (pe_call G__law_like hr__law_like (by rfl) T.m__law_like T.F__law_like.kp T.B__law_like .nil pass0 (pa_cons (pv 11) (pa_cons (pv 3) pa_nil))))))))), ?_⟩
  rintro D σ H b c D1 D2 hd kp pa sv n rs zs ts ps fss hs ks p q L W x0 x4 x5 x8 x9 x10 x12 x15 x16 x17 k rfl B kn hpa pab hu lk p1 p9 q1 q9
  refine seq_op fun N hN => ?_
  walk_at "rs"
  have n5 := kn.n5
  have l9 := kn.l9
  have l3 := kn.l3
  have plen : (partsOf L fss).length = fss.length := by unfold partsOf; rw [List.length_map]
  obtain ⟨w0, w1, pth⟩ := kn.more
  have h0 := kn.fit
  refine ⟨b, c, 3, 39999, rfl, B, by decide, by decide, fun r H1 _ _ B1 K1 => ⟨r, rfl, ?_⟩⟩
  replace kn := kn.bag B K1
  replace hpa := Kp.get K1 pab hpa
  replace hu := hu.kp B K1
  have pp := parted_part (ks := ks) pth (fun u hu => (kn.ug u hu).o) p1 p9 q1 q9
  have pl : (cuts hs.reverse ks ++ rais p q hs).length ≤ 20 := by
    rw [List.length_append, cuts_len (by rw [List.length_reverse]; exact lk), rais_len, List.length_reverse]
    omega
  have pf := parts_fit pp pl w0 (pow_le w1 (by decide))
  have pe := parted_heads pth (fun u hu => (kn.ug u hu).o) p1 p9 q1 q9 lk (partsOf L fss)
  have go : ∀ (G : Hp) (a : Addr) (Nx : V → Hp → Prop), Same H1 G → (SqL K G a ps ∨ SqT K G a ps) → (∀ (t : Addr) (us : List V) H', Same G H' → H' t = some (.lst us) → Rows K H' (L * W) us (headRs W mH hs (partsOf L fss)) → Nx (.ref t) H') → sp_heads K [.ref hd, .ref a] G Nx E0 := fun G a Nx sG ha q => by
    have kg := kn.same sG
    exact ⟨hd, a, rs, ps, partsOf L fss, _, n, L, W, mH, rfl, .inl (SqL.of kg.hh), kg.rows, kg.limS, kg.lp, ha, hu.same sG, pf, fun t us H' s' _ h1 h2 => q t us H' s' h1 (by rw [← pe]; exact h2)⟩
  have like : ∀ (t : Addr) (us : List V) (G : Hp) (Nx : V → Hp → Prop), Same H1 G → G t = some (.lst us) → Rows K G (L * W) us (headRs W mH hs (partsOf L fss)) → (∀ H', Same G H' → Nx (.bl true) H') → sp__law_like K 4 [.ref t, .ref kp] G Nx E0 := fun t us G Nx sG ht r q => by
    have kg := kn.same sG
    obtain ⟨fss2, d1, d2, d3, d4⟩ := Rows.two (Int.mul_pos kn.L0 w0) r kg.ks
    obtain ⟨ok1, ok2⟩ := okD_rows (fss := fss2) (by
      rw [d3]; unfold headRs; rw [List.length_map, List.length_range]; omega) fun fs hfs => by
      obtain ⟨Ys, hY, e⟩ := d4 fs hfs
      obtain ⟨j, hj, rfl⟩ := List.mem_map.mp hY
      have hj := List.mem_range.mp hj
      have hA : (partsOf L fss).getD j [] ∈ partsOf L fss := by
        rw [List.getD_eq_getElem?_getD, List.getElem?_eq_getElem hj]
        exact List.getElem_mem _
      rw [← e, headR_len, (kn.limS _ hA).1]
      omega
    exact ⟨.ref t, .ref kp, dRows fss2, rfl, .lst (SqL.of ht) d1.dp, .lst (SqL.of kg.hk) d2.dp, ok1, ok2, q⟩
  have rest : ∀ (t : Addr) (us : List V) (G : Hp), Same H1 G → G t = some (.lst us) → Rows K G (L * W) us (headRs W mH hs (partsOf L fss)) → N [x0, some (.ref b), some (.int (n : Int)), some (.ref D1), x4, x5, some (.ref D2), some sv, x8, x9, x10, some (.ref hd), x12, some (.ref kp), some (.ref pa), x15, x16, x17, some (.ref t)] G := fun t us G sG ht hrow => by
    refine hN _ _ ?_
    clear hN N
    refine seq_op fun N hN => ?_
    walk_at "rs"
    refine like t us G _ sG ht hrow fun H2 s2 => ⟨_, rfl, iteFF (fun z => by cases z) ?_⟩
    have sG2 := Same.trans sG s2
    have k2 := kn.same sG2
    refine ⟨rs, SqL.of k2.hD, fun q3 H3 s3 q30 q31 => ?_⟩
    have k3 := k2.same s3
    have eW := kn.fit
    refine ⟨q3, D2, rs, zs, partsOf L fss, hs, n, L, W, mH, rfl, .inr (.inl (.inl q31)), k3.rows, k3.limS, k3.lp, .inl (SqL.of k3.hU), k3.un, h0, fun t4 us4 H4 s4 _ t41 r4 => ?_⟩
    have sG4 := Same.trans sG2 (Same.trans s3 s4)
    refine like t4 us4 H4 _ sG4 t41 r4 fun H5 s5 => ⟨_, rfl, iteFF (fun z => by cases z) (hN _ _ ?_)⟩
    clear hN N
    have sG5 := Same.trans sG4 s5
    have k5 := kn.same sG5
    walk_at "rs"
    refine ⟨Nat.zero_le _, fun p6 H6 s6 p60 p61 => ?_⟩
    have k6 := k5.same s6
    refine ⟨D1, p6, rs, [], partsOf L fss, [], n, L, 1, mH, rfl, .inl (SqL.of k6.hD), k6.rows, k6.limS, k6.lp, .inl (SqL.of p61), .nil, hfit_nil, fun t7 us7 H7 s7 _ t71 r7 => ?_⟩
    rw [headRs_nil, Int.mul_one] at r7
    have k7 := k6.same s7
    have sm : Small L (partsOf L fss) := ⟨kn.L0, pow_le kn.lL (by decide), fun Xs hX => ⟨by have := (kn.limS Xs hX).1; omega, fun X hx => pow_le ((kn.limS Xs hX).2.2.2 X hx) (by decide)⟩⟩
    refine ⟨t7, sv, us7, partsOf L fss, L, rfl, SqL.of t71, r7, k7.st, sm, by omega, fun H8 s8 => ⟨true, rfl, iteTT rfl ?_⟩⟩
    have k8 := k7.same s8
    obtain ⟨ok1, ok2⟩ := okD_rows (fss := fss) (by omega) fun fs hfs => by have := (kn.rg fs hfs).1; omega
    exact ⟨.ref hd, .ref D1, dRows fss, rfl, .lst (SqL.of k8.hh) k8.fr.dp, .lst (SqL.of k8.hD) k8.fr.dp, ok1, ok2, fun H9 s9 => k H9⟩
  refine ite2 (fun _ => ?_) (fun _ => go H1 pa _ (Same.refl _) (.inl (SqL.of hpa)) fun t us H2 s2 h1 h2 => rest t us H2 s2 h1 h2)
  exact ⟨ps, SqL.of hpa, fun q2 H2 s2 q20 q21 => go H2 q2 _ s2 (.inr (.inl (.inl q21))) fun t us H3 s3 h1 h2 => rest t us H3 (Same.trans s2 s3) h1 h2⟩
end
end LK

set_option Elab.async false
set_option linter.all false
set_option maxRecDepth 100000
namespace LK
open PySem PySem.Spec PyProof.Rows L2
local macro_rules | `(tactic| walk_at "rs") => `(tactic| simp only [cxK, cxNK, tCallZ, tAsg, tOp, rI0, rS0, rB0, rI, rU, tUn, rEq, rNe, rIxL, rIxT, rIxS, rSetL, rSlLU, rSlS, rSlU, rCatL, rCatU, rRepL, rIn, tVar, tC, gName, gSub, tIfS, tTest, tB, tAnd, tOr, tNot, tNotV, tAndV, tOrV, tIf, tCall, tCons, tNil, tCB, tDrop, tRet, tRetN, tNext, tLstU, tTupU, tM0, tM1, tPar, tPar3, tAug, ipI, tBM, tBM0, rAppend, rPop, tBreak, tCont, tChain, tSl, tPart, tNoPart, L2.start, List.map, List.length_cons, List.length_nil, List.replicate, List.cons_append, List.nil_append, List.append_nil, List.getElem?_cons_zero, List.getElem?_cons_succ, List.set_cons_zero, List.set_cons_succ, Option.some.injEq, V.int.injEq, V.ref.injEq, V.str.injEq, V.bl.injEq, exists_eq_left', exists_eq_left, exists_and_left, decide_eq_true_eq, List.cons.injEq, and_true, true_and, scal, Bool.not_eq_true', decide_eq_false_iff_not, Nat.zero_add, Nat.reduceAdd, Nat.reduceSub, reduceCtorEq, false_and, exists_false, false_or, or_false, CPow, CPowW, CMul, CDiv, Int.reduceToNat, ↓reduceIte, wipe, sw, List.nil_append, List.singleton_append])
local macro_rules | `(tactic| walk_at "st") => `(tactic| (refine seq_op fun N hN => ?_; walk_at "rs"))
local macro_rules | `(tactic| walk_at "sd") => `(tactic| first | assumption | decide | omega)
local macro_rules | `(tactic| walk_at "rd") => `(tactic| repeat (first
  | refine ⟨_, SqL.of (by assumption), ?_⟩ | refine ⟨_, SqL.of upd_same, ?_⟩ | refine ⟨_, .inl (SqL.of (by assumption)), ?_⟩ | refine ⟨_, (by assumption : _ = some (HO.lst _)), ?_⟩ | refine ⟨_, upd_same, ?_⟩
  | refine ⟨_, rfl, ?_⟩ | refine And.intro (by walk_at "sd") ?_))

section
variable {P : Program} {w : World} {K : PySem.W.Frag} {mg : Str → Option Value} {base : Heap}
theorem law14 (T : Txt w K mg) {cdv : Value} {A : Around} {outer : List Env} {s : Shared} {H0 : Hp} {E : XK} (hr : Room 9 (A.deeper (envOfC "law" (defScope s_law) s.heap.objs.size T.a_law cdv))) : ∃ t, PSs (cxLaw P w K mg base T.a_law cdv A outer s H0 E) ((defBody s_law).drop 14) t ∧
    ∀ (D : Ends) (σ : L2.St) (H : Hp) (b c D1 D2 hd kp : Addr) (sv : V) (n : Nat) (rs zs ts : List V) (fss : List (List Fr)) (hs : List Hd) (L W : Int) (x0 x4 x5 x8 x9 x10 x12 : Option V), (∀ H', D.rt (.bl true) H') →
      σ = [x0, some (.ref b), some (.int (n : Int)), some (.ref D1), x4, x5, some (.ref D2), some sv, x8, x9, x10, some (.ref hd), x12, some (.ref kp), none, none, none, none, none] → Bag 60000 H b c → Kn K H b D1 D2 hd kp sv n rs zs ts fss hs L W → t D σ H := by
  obtain ⟨t18, h18, go18⟩ := law18 (P := P) (base := base) (outer := outer) (H0 := H0) (E := E) T hr
  have hr__law_draw : Room 1 _ := hr.mono (by decide)
  have G__law_draw := ok__law_draw (P := P) (base := base) T
  have hr__law_low : Room 2 _ := hr.mono (by decide)
  have G__law_low := ok__law_low (P := P) (base := base) T
  have hr__law_raised : Room 3 _ := hr.mono (by decide)
  have G__law_raised := ok__law_raised (P := P) (base := base) T
  refine ⟨_, (pss_cons (ps_set (i := 14) sc_law.nd rfl (Or.inl rfl) (pe_lstU pa_nil))
      (pss_cons (ps_for PassesOwn.never rfl (pi_list (pe_revL (pv 6))) (pg_name (i := 15) sc_law.nd rfl (Or.inl rfl)) (pss_cons (ps_set (i := 9) sc_law.nd rfl (Or.inl rfl) (pe_call G__law_draw hr__law_draw (by rfl) T.m__law_draw T.F__law_draw.kp T.B__law_draw .nil pass0 (pa_cons (pv 1) (pa_cons (pe_op op_add (pe_callB call_len_seq (by rfl) T.n_len (by decide +kernel) (pa_cons (pe_ix ix_tup (pv 15) pe_int (fun _ _ => rfl)) pa_nil)) pe_int) pa_nil))))
      (pss_one (ps_set (i := 14) sc_law.nd rfl (Or.inl rfl) (pe_op op_catL (pv 14) (pe_lstU (pa_cons (pe_tupU (pa_cons (pe_ix ix_tup (pv 15) pe_int (fun _ _ => rfl)) (pa_cons (pe_slice sl_tupU (pe_ix ix_tup (pv 15) pe_int (fun _ _ => rfl)) (po_some (pv 9)) po_none) pa_nil))) (pa_cons (pe_tupU (pa_cons (pe_revT (pe_ix ix_tup (pv 15) pe_int (fun _ _ => rfl))) (pa_cons (pe_slice sl_tupU (pe_ix ix_tup (pv 15) pe_int (fun _ _ => rfl)) po_none (po_some (pv 9))) pa_nil))) pa_nil))))))))
      (pss_cons (ps_set (i := 16) sc_law.nd rfl (Or.inl rfl) (pe_call G__law_low hr__law_low (by rfl) T.m__law_low T.F__law_low.kp T.B__law_low .nil pass0 (pa_cons (pe_op op_add pe_int (pe_call G__law_draw hr__law_draw (by rfl) T.m__law_draw T.F__law_draw.kp T.B__law_draw .nil pass0 (pa_cons (pv 1) (pa_cons pe_int pa_nil)))) (pa_cons (pe_op op_add pe_int (pe_call G__law_draw hr__law_draw (by rfl) T.m__law_draw T.F__law_draw.kp T.B__law_draw .nil pass0 (pa_cons (pv 1) (pa_cons pe_int pa_nil)))) pa_nil))))
      (pss_cons (ps_for PassesOwn.never rfl (pi_list (pv 6)) (pg_name (i := 8) sc_law.nd rfl (Or.inl rfl)) (pss_cons (ps_setLc (i := 17) (own := [("one", 15)]) (g := gName 15) (tt := tYes) rfl sc_law.nd rfl rfl (sw_true rfl rfl rfl (by decide +kernel)) (pi_tup (pe_ix ix_tup (pv 8) pe_int (fun _ _ => rfl))) (blkOk_by (own := [("one", 15)]) (N := N_law) (sc := defScope s_law) (by decide +kernel)) (fun _ _ _ _ _ => pg_name (i := 15) sc_law.nd rfl (Or.inl rfl)) (fun _ _ _ _ _ => pts_nil) (fun _ _ _ _ _ => (pe_op (op_catUK (K := K) rfl) (pe_slice (sl_tupUK (K := K) rfl) (pv 15) po_none (po_some pe_int)) (pe_tupU (pa_cons (pe_tupU (pa_cons (pe_un un_neg (pe_ix (ix_tupK (K := K) rfl) (pe_ix (ix_tupK (K := K) rfl) (pv 15) pe_int (fun _ _ => rfl)) pe_int (fun _ _ => rfl))) (pa_cons (pe_ix (ix_tupK (K := K) rfl) (pe_ix (ix_tupK (K := K) rfl) (pv 15) pe_int (fun _ _ => rfl)) pe_int (fun _ _ => rfl)) pa_nil))) pa_nil)))))
      (pss_one (ps_set (i := 14) sc_law.nd rfl (Or.inl rfl) (pe_op op_catL (pv 14) (pe_lstU (pa_cons (pe_tupU (pa_cons (pe_call G__law_raised hr__law_raised (by rfl) T.m__law_raised T.F__law_raised.kp T.B__law_raised .nil pass0 (pa_cons (pe_ix ix_tup (pv 8) pe_int (fun _ _ => rfl)) (pa_cons (pv 16) pa_nil))) (pa_cons (pe_ix ix_tup (pv 8) pe_int (fun _ _ => rfl)) pa_nil))) (pa_cons (pe_tupU (pa_cons (pe_ix ix_tup (pv 8) pe_int (fun _ _ => rfl)) (pa_cons (pe_callTy call_tupleN (by rfl) T.n_tuple (by decide +kernel) (pa_cons (pv 17) pa_nil)) pa_nil))) pa_nil))))))))
      h18)))), ?_⟩
  rintro D σ H b c D1 D2 hd kp sv n rs zs ts fss hs L W x0 x4 x5 x8 x9 x10 x12 k rfl B q
  have lz := q.un.len
  have l3 := q.l3
  refine seq_op fun N hN => ?_
  walk_at "rs"
  refine ⟨Nat.zero_le _, fun P0 H1 s1 P00 P01 => hN _ _ ?_⟩
  clear hN N
  have P0b : P0 ≠ b := new_ne B P00
  replace q := q.same s1
  replace B := B.same s1
  refine cut_seq (fun σ H => ∃ (x9 x15 : Option V) (pa : Addr) (ps : List V) (ks : List Nat), σ = [x0, some (.ref b), some (.int (n : Int)), some (.ref D1), x4, x5, some (.ref D2), some sv, x8, x9, x10, some (.ref hd), x12, some (.ref kp), some (.ref pa), x15, none, none, none] ∧ Bag 50000 H b c ∧ Kn K H b D1 D2 hd kp sv n rs zs ts fss hs L W ∧ H pa = some (.lst ps) ∧ pa ≠ b ∧ Heads K H ps (cuts hs.reverse ks) ∧ hs.length = ks.length) (fun N hN => ?_) ?_
  · refine ⟨_, rfl, D2, zs, rfl, SqL.of q.hU, fun R R0 => ⟨R, rfl, ⟨zs.reverse, SqL.of upd_same⟩, ?_⟩⟩
    have s2 : Same H1 (L2.upd H1 R (.lst zs.reverse)) := same_upd R0
    have R1 : (L2.upd H1 R (.lst zs.reverse)) R = some (.lst zs.reverse) := upd_same
    generalize L2.upd H1 R (.lst zs.reverse) = H2 at *
    have Rb : R ≠ b := new_ne B R0
    replace q := q.same s2
    have hp2 := s2 _ _ P01
    replace B := B.same s2
    refine for_list (K := K) (a := R) (xs := zs.reverse) (fun i σ H => ∃ (x9 x15 : Option V) (pa : Addr) (ps : List V) (ks : List Nat), σ = [x0, some (.ref b), some (.int (n : Int)), some (.ref D1), x4, x5, some (.ref D2), some sv, x8, x9, x10, some (.ref hd), x12, some (.ref kp), some (.ref pa), x15, none, none, none] ∧ Bag (50000 + (zs.length - i)) H b c ∧ Kn K H b D1 D2 hd kp sv n rs zs ts fss hs L W ∧ H R = some (.lst zs.reverse) ∧ H pa = some (.lst ps) ∧ pa ≠ b ∧ Heads K H ps (cuts (hs.reverse.take i) ks) ∧ ks.length = i ∧ i ≤ zs.length) ⟨_, _, P0, [], [], rfl, B.le (by omega), q, R1, hp2, P0b, .nil, rfl, Nat.zero_le _⟩ (fun i σ H _ ⟨_, _, _, _, _, _, _, _, h, _⟩ => SqL.of h) ?_ ?_
    · rintro i y σ H hi ⟨x9, x15, pa, ps, ks, rfl, B, q, hR, hpa, pab, hu, lk, il⟩
      obtain ⟨u, eu, ua, sa, ga, xs, ys, rfl, g1, g2, g3, g5, g6⟩ := q.un.rev.get hi
      have hz : i < zs.length := by
        have := (List.getElem?_eq_some_iff.mp hi).1
        rw [List.length_reverse] at this
        exact this
      refine seq_op fun N hN => ?_
      walk_at "rs"
      have ly := g6.len
      have gl4 := (q.ug u (List.mem_reverse.mp (List.mem_of_getElem? eu))).g.gl
      refine ⟨_, g1, _, rfl, ga, rfl, ys, .inr g5, b, c, _, 50000 + (zs.length - (i + 1)), rfl, B.le (by omega), by omega, by omega, fun r H1 r0 r1 B1 K1 => hN _ _ ?_⟩
      clear hN N
      obtain ⟨at0, rfl⟩ : ∃ at0 : Nat, r = (at0 : Int) := ⟨r.toNat, by omega⟩
      replace q := q.bag B K1
      replace hR := Kp.get K1 Rb hR
      replace hpa := Kp.get K1 pab hpa
      replace hu := hu.kp B K1
      replace g1 := seqT_kp B K1 g1
      replace g2 := seqT_kp B K1 g2
      replace g3 := g3.kp B K1
      replace g5 := seqT_kp B K1 g5
      replace g6 := g6.kp B K1
      clear B K1
      walk_at "rs"
      refine ⟨_, g1, _, rfl, _, g1, _, rfl, ga, rfl, ys, g5, fun c1 J1 u1 hc1 => ⟨by decide, fun p1 J2 u2 n1 t1 => ?_⟩⟩
      have v2 := Same.trans u1 u2
      refine ⟨_, rfl, ua, _, 0, .ref sa, rfl, rfl, Same.seqT v2 g1, rfl, sa, xs, rfl, Same.seqT v2 g2, fun p2 J3 u3 n2 t2 => ?_⟩
      have v3 := Same.trans v2 u3
      refine ⟨_, Same.seqT v3 g1, _, rfl, ga, rfl, ys, Same.seqT v3 g5, fun c2 J4 u4 hc2 => ⟨by decide, fun p3 J5 u5 n3 t3 => ⟨by decide, fun p6 J8 u8 n6 t6 => ?_⟩⟩⟩
      have v5 := Same.trans v3 (Same.trans u4 u5)
      have v8 := Same.trans v5 u8
      have lu3 := hu.len
      have lp3 := cuts_len (us := hs.reverse.take i) (ks := ks) (by rw [List.length_take, List.length_reverse]; omega)
      rw [List.length_take, List.length_reverse] at lp3
      refine ⟨ps, v8 _ _ hpa, _, t6, Nat.le_trans (show ps.length + 2 ≤ 1000 by omega) (by decide), fun p7 J9 u9 n7 t7 => ?_⟩
      have v9 := Same.trans v8 u9
      have P7b : p7 ≠ b := new_ne (B1.same v8) n7
      rw [cutV_drop] at hc1
      rw [cutV_take] at hc2
      have w5 := Same.trans u8 u9
      have w2 := Same.trans u3 (Same.trans u4 (Same.trans u5 w5))
      have e3 : cuts (hs.reverse.take (i + 1)) (ks ++ [at0]) = cuts (hs.reverse.take i) ks ++ cut2 u at0 := by
        obtain ⟨hk, e⟩ := List.getElem?_eq_some_iff.mp eu
        rw [← List.take_append_getElem hk, e, cuts_snoc (by rw [List.length_take, List.length_reverse]; omega)]
      refine ⟨_, _, p7, ⟨rfl, rfl, rfl⟩, (B1.same v9).le (by omega), q.same v9, v9 _ _ hR, _, t7, P7b, ks ++ [at0], ?_, by rw [List.length_append, lk]; rfl, by omega⟩
      rw [e3]
      refine (hu.same v9).app ?_
      refine .cons ⟨p1, sa, c1, xs, ys.drop at0, rfl, .inl (.inl (w2 _ _ t1)), Same.seqT v9 g2, g3.same v9, Same.seqT (Same.trans u2 w2) hc1, (g6.drop at0).same v9⟩ ?_
      exact .cons ⟨p3, p2, c2, xs.reverse, ys.take at0, rfl, .inl (.inl (w5 _ _ t3)), .inl (.inl ((Same.trans (Same.trans u4 u5) w5) _ _ t2)), g3.rev.same v9, Same.seqT (Same.trans u5 w5) hc2, (g6.take at0).same v9⟩ .nil
    · rintro σ H ⟨x9, x15, pa, ps, ks, rfl, B, q, hR, hpa, pab, hu, lk, _⟩
      rw [List.length_reverse] at lk B hu
      rw [List.take_of_length_le (by rw [List.length_reverse]; omega)] at hu
      exact hN _ _ ⟨_, _, _, _, _, rfl, B.le (by omega), q, hpa, pab, hu, by omega⟩
  · rintro σ H ⟨x9, x15, pa, ps, ks, rfl, B, q, hpa, pab, hu, lk⟩
    refine seq_op fun N hN => ?_
    walk_at "rs"
    refine ⟨b, c, 9, 49999, rfl, B, by decide, by decide, fun r1 H1 r10 r11 B1 K1 => ⟨r1, rfl, b, c, 9, 49998, rfl, B1, by decide, by decide, fun r2 H2 r20 r21 B2 K2 => ⟨r2, rfl, ?_⟩⟩⟩
    have K12 := Same.trans K1 K2
    replace q := q.bag B K12
    replace hpa := Kp.get K12 pab hpa
    replace hu := hu.kp B K12
    have m0 : 1 + r2 ≠ 0 := by omega
    refine low_at (M := 1) (L := 1) m0 (pow_le (a := 64) (by omega) (by decide)) (pow_le (a := 64) (by omega) (by decide)) fun fa H3 s3 fa0 fa1 => hN _ _ ?_
    clear hN N
    obtain ⟨f1, f2, f3, _, f5, f6, f7⟩ := fr_spec (1 + r1) m0
    have fp : 1 ≤ frP (1 + r1) (1 + r2) := by
      have g0 : 0 < frG (1 + r1) (1 + r2) := by
        refine Int.pos_of_mul_pos_right (a := frQ (1 + r1) (1 + r2)) ?_ (by omega)
        omega
      have : 0 < frP (1 + r1) (1 + r2) := Int.pos_of_mul_pos_left (b := frG (1 + r1) (1 + r2)) (by omega) g0
      omega
    have fp9 : frP (1 + r1) (1 + r2) ≤ 9 := by omega
    have fq9 : frQ (1 + r1) (1 + r2) ≤ 9 := by omega
    clear f1 f2 f5 f6 f7 m0
    generalize frP (1 + r1) (1 + r2) = p at *
    generalize frQ (1 + r1) (1 + r2) = qq at *
    replace q := q.same s3
    replace hpa := s3 _ _ hpa
    replace hu := hu.same s3
    have B3 := B2.same s3
    clear B B1 B2 K1 K2 K12
    refine cut_seq (fun σ H => ∃ (x8 x15 x17 : Option V) (pa : Addr) (ps : List V), σ = [x0, some (.ref b), some (.int (n : Int)), some (.ref D1), x4, x5, some (.ref D2), some sv, x8, x9, x10, some (.ref hd), x12, some (.ref kp), some (.ref pa), x15, some (.ref fa), x17, none] ∧ Bag 40000 H b c ∧ Kn K H b D1 D2 hd kp sv n rs zs ts fss hs L W ∧ H pa = some (.lst ps) ∧ pa ≠ b ∧ Heads K H ps (cuts hs.reverse ks ++ rais p qq hs)) (fun N hN => ?_) ?_
    · refine ⟨_, rfl, D2, rfl, ⟨zs, SqL.of q.hU⟩, ?_⟩
      refine for_list (K := K) (a := D2) (xs := zs) (fun i σ H => ∃ (x8 x15 x17 : Option V) (pa : Addr) (ps : List V), σ = [x0, some (.ref b), some (.int (n : Int)), some (.ref D1), x4, x5, some (.ref D2), some sv, x8, x9, x10, some (.ref hd), x12, some (.ref kp), some (.ref pa), x15, some (.ref fa), x17, none] ∧ Bag 40000 H b c ∧ Kn K H b D1 D2 hd kp sv n rs zs ts fss hs L W ∧ Pr K H fa p qq ∧ H pa = some (.lst ps) ∧ pa ≠ b ∧ Heads K H ps (cuts hs.reverse ks ++ rais p qq (hs.take i))) ⟨_, _, _, pa, ps, rfl, B3.le (by omega), q, .inl (.inl fa1), hpa, pab, by
        rw [List.take_zero, show rais p qq [] = [] from rfl, List.append_nil]
        exact hu⟩ (fun i σ H _ ⟨_, _, _, _, _, _, _, q, _⟩ => SqL.of q.hU) ?_ ?_
      · rintro i y σ H hi ⟨x8, x15, x17, pa, ps, rfl, B, q, hfa, hpa, pab, hu⟩
        obtain ⟨u, eu, ua, sa, ga, xs, ys, rfl, g1, g2, g3, g5, g6⟩ := q.un.get hi
        have ly := g6.len
        have pgu := q.ug u (List.mem_of_getElem? eu)
        have gl4 := pgu.g.gl
        have sl5 := pgu.g.sl
        refine seq_op fun N hN => ?_
        walk_at "rs"
        refine lc_tup2 (K := K) (a := ga) (xs := ys) (fun Q q => ?_) g5 (fun i H ys => Tris K H ys ((u.giv.take i).map negE)) (by omega) (fun i H H' ys s h => h.same s) (fun D i H ys zs o hp h => h.upd hp) (fun H => .nil) (fun j x H2 hj s2 hx => ?_) (gm_name 15) fun M H2 ms s2 M0 M1 lm tm => hN _ _ ?_
        · walk_at "rs"
          exact ⟨_, g1, _, rfl, q⟩
        · obtain ⟨a, v, c1, d1, f, ex, ee, h3, h4⟩ := g6.get (n := j) (by omega)
          obtain rfl : x = .ref a := by rw [ex] at hx; exact (Option.some.inj hx).symm
          refine ⟨Same.refl _, rfl, fun Q2 hq => ?_⟩
          have h3' := Same.seqT s2 h3
          have h4' : Pr K H2 v f.1 f.2 := Same.seqT s2 h4
          walk_at "rs"
          refine ⟨_, h3', fun q1 J1 u1 hq1 => ?_⟩
          have e12 : cutV [V.int (c1 : Int), V.int (d1 : Int), V.ref v] none (some 2) = [V.int (c1 : Int), V.int (d1 : Int)] := rfl
          rw [e12] at hq1
          have h5 := Same.seqT u1 h3'
          have h6 : Pr K J1 v f.1 f.2 := Same.seqT u1 h4'
          refine ⟨_, h5, _, rfl, v, rfl, _, h6, _, rfl, _, rfl, _, h5, _, rfl, v, rfl, _, h6, _, rfl, by decide, fun p1 J2 u2 n1 t1 => ⟨by decide, fun p2 J3 u3 n2 t2 => ⟨_, Same.seqT (Same.trans u2 u3) hq1, _, .inl (.inl t2), (show 2 + 1 ≤ sizeLine by decide), fun p3 J4 u4 hp3 => hq _ J4 (Same.trans u1 (Same.trans u2 (Same.trans u3 u4))) fun zs1 tz => ?_⟩⟩⟩
          exact tz.next negE ee (rfl : negE ((c1, d1), f) = ((c1, d1), (-f.1, f.2))) hp3 (.inl (.inl (Same.trans u3 u4 _ _ t1)))
        · clear hN N
          walk_at "rs"
          have lu := hu.len
          have lc := cuts_len (us := hs.reverse) (ks := ks) (by rw [List.length_reverse]; exact lk)
          rw [List.length_reverse] at lc
          have lr := rais_len p qq (hs.take i)
          rw [List.length_take] at lr
          have hga := Same.seqT s2 g1
          refine ⟨_, hga, _, rfl, sa, fa, xs, u.sc, p, qq, rfl, Same.seqT s2 g2, g3.same s2, by omega, pgu.o, Same.seqT s2 hfa, fp, fp9, f3, fq9, fun t1 ys1 J1 u1 ht1 hy1 => ⟨_, Same.seqT u1 hga, _, rfl, by decide, fun p1 J2 u2 n1 v1 => ?_⟩⟩
          have w2 := Same.trans s2 (Same.trans u1 u2)
          refine ⟨_, Same.seqT w2 g1, _, rfl, ms, SqL.of (Same.trans u1 u2 _ _ M1), fun q3 J3 u3 n3 v3 => ⟨by decide, fun p4 J4 u4 n4 v4 => ⟨by decide, fun p5 J5 u5 n5 v5 => ?_⟩⟩⟩
          have w5 := Same.trans w2 (Same.trans u3 (Same.trans u4 u5))
          refine ⟨ps, w5 _ _ hpa, _, v5, Nat.le_trans (show ps.length + 2 ≤ 1000 by rw [lu, List.length_append]; omega) (by decide), fun p6 J6 u6 n6 v6 => ?_⟩
          have w6 := Same.trans w5 u6
          have x36 := Same.trans u3 (Same.trans u4 (Same.trans u5 u6))
          refine ⟨_, _, _, p6, ⟨rfl, rfl, rfl, rfl⟩, B.same w6, q.same w6, Same.seqT w6 hfa, _, v6, new_ne (B.same w5) n6, ?_⟩
          have e6 : rais p qq (hs.take (i + 1)) = rais p qq (hs.take i) ++ rai2 p qq u := by
            obtain ⟨hk, e⟩ := List.getElem?_eq_some_iff.mp eu
            rw [← List.take_append_getElem hk, e, rais_snoc]
          rw [e6, ← List.append_assoc]
          refine (hu.same w6).app ?_
          refine .cons ⟨p1, t1, ga, ys1, ys, rfl, .inl (.inl (x36 _ _ v1)), Same.seqT (Same.trans u2 x36) ht1, hy1.same (Same.trans u2 x36), Same.seqT w6 g5, g6.same w6⟩ ?_
          rw [ly, List.take_length] at tm
          exact .cons ⟨p4, sa, q3, xs, ms, rfl, .inl (.inl (Same.trans u5 u6 _ _ v4)), Same.seqT w6 g2, g3.same w6, .inl (.inl (Same.trans u4 (Same.trans u5 u6) _ _ v3)), tm.same (Same.trans (Same.trans u1 u2) x36)⟩ .nil
      · rintro σ H ⟨x8, x15, x17, pa, ps, rfl, B, q, hfa, hpa, pab, hu⟩
        rw [List.take_of_length_le (by omega)] at hu
        exact hN _ _ ⟨_, _, _, pa, ps, rfl, B, q, hpa, pab, hu⟩
    · rintro σ H ⟨x8, x15, x17, pa, ps, rfl, B, q, hpa, pab, hu⟩
      exact go18 _ _ H b c D1 D2 hd kp pa sv n rs zs ts ps fss hs ks p qq L W _ _ _ _ _ _ _ _ _ _ k rfl B q hpa pab hu lk fp fp9 f3 fq9
end
end LK

set_option Elab.async false
set_option linter.all false
set_option maxRecDepth 100000
namespace LK
open PySem PySem.Spec PyProof.Rows L2
local macro_rules | `(tactic| walk_at "rs") => `(tactic| simp only [cxK, cxNK, tCallZ, tAsg, tOp, rI0, rS0, rB0, rI, rU, tUn, rEq, rNe, rIxL, rIxT, rIxS, rSetL, rSlLU, rSlS, rSlU, rCatL, rCatU, rRepL, rIn, tVar, tC, gName, gSub, tIfS, tTest, tB, tAnd, tOr, tNot, tNotV, tAndV, tOrV, tIf, tCall, tCons, tNil, tCB, tDrop, tRet, tRetN, tNext, tLstU, tTupU, tM0, tM1, tPar, tPar3, tAug, ipI, tBM, tBM0, rAppend, rPop, tBreak, tCont, tChain, tSl, tPart, tNoPart, L2.start, List.map, List.length_cons, List.length_nil, List.replicate, List.cons_append, List.nil_append, List.append_nil, List.getElem?_cons_zero, List.getElem?_cons_succ, List.set_cons_zero, List.set_cons_succ, Option.some.injEq, V.int.injEq, V.ref.injEq, V.str.injEq, V.bl.injEq, exists_eq_left', exists_eq_left, exists_and_left, decide_eq_true_eq, List.cons.injEq, and_true, true_and, scal, Bool.not_eq_true', decide_eq_false_iff_not, Nat.zero_add, Nat.reduceAdd, Nat.reduceSub, reduceCtorEq, false_and, exists_false, false_or, or_false, CPow, CPowW, CMul, CDiv, Int.reduceToNat, ↓reduceIte, wipe, sw, List.nil_append, List.singleton_append])
local macro_rules | `(tactic| walk_at "st") => `(tactic| (refine seq_op fun N hN => ?_; walk_at "rs"))
local macro_rules | `(tactic| walk_at "sd") => `(tactic| first | assumption | decide | omega)
local macro_rules | `(tactic| walk_at "rd") => `(tactic| repeat (first
  | refine ⟨_, SqL.of (by assumption), ?_⟩ | refine ⟨_, SqL.of upd_same, ?_⟩ | refine ⟨_, .inl (SqL.of (by assumption)), ?_⟩ | refine ⟨_, (by assumption : _ = some (HO.lst _)), ?_⟩ | refine ⟨_, upd_same, ?_⟩
  | refine ⟨_, rfl, ?_⟩ | refine And.intro (by walk_at "sd") ?_))

/-- what is known ahead of the first heads -/
structure Ki (K : PySem.W.Frag) (H : Hp) (b D D2 : Addr) (n : Nat) (rs zs : List V) (fss : List (List Fr)) (hs : List Hd) : Prop where
  n1 : 1 ≤ n
  n5 : n ≤ 5
  hD : H D = some (.lst rs)
  hU : H D2 = some (.lst zs)
  nD : D ≠ b
  nU : D2 ≠ b
  fr : FRows K H rs fss
  rg : RowsG n fss
  l9 : fss.length ≤ 9
  un : Heads K H zs hs
  ug : ∀ u ∈ hs, PG n u
  l3 : hs.length ≤ 3
  pd : prodDD fss < 2 ^ 391
namespace Ki
variable {K : PySem.W.Frag} {H H' : Hp} {b D D2 : Addr} {n : Nat} {rs zs : List V} {fss : List (List Fr)} {hs : List Hd}
theorem same (q : Ki K H b D D2 n rs zs fss hs) (s : Same H H') : Ki K H' b D D2 n rs zs fss hs :=
  ⟨q.n1, q.n5, s _ _ q.hD, s _ _ q.hU, q.nD, q.nU, q.fr.same s, q.rg, q.l9, q.un.same s, q.ug, q.l3, q.pd⟩
theorem bag {N : Nat} {c : Addr} (q : Ki K H b D D2 n rs zs fss hs) (B : Bag N H b c) (k : Kp b H H') : Ki K H' b D D2 n rs zs fss hs :=
  ⟨q.n1, q.n5, Kp.get k q.nD q.hD, Kp.get k q.nU q.hU, q.nD, q.nU, q.fr.kp B k, q.rg, q.l9, q.un.kp B k, q.ug, q.l3, q.pd⟩
end Ki
section
variable {P : Program} {w : World} {K : PySem.W.Frag} {mg : Str → Option Value} {base : Heap}
theorem law06 (T : Txt w K mg) {cdv : Value} {A : Around} {outer : List Env} {s : Shared} {H0 : Hp} {E : XK} (hr : Room 9 (A.deeper (envOfC "law" (defScope s_law) s.heap.objs.size T.a_law cdv))) : ∃ t, PSs (cxLaw P w K mg base T.a_law cdv A outer s H0 E) ((defBody s_law).drop 6) t ∧
    ∀ (D : Ends) (σ : L2.St) (H : Hp) (b c D1 D2 : Addr) (n : Nat) (rs zs : List V) (fss : List (List Fr)) (hs : List Hd) (x0 x4 x5 : Option V), (∀ H', D.rt (.bl true) H') →
      σ = [x0, some (.ref b), some (.int (n : Int)), some (.ref D1), x4, x5, some (.ref D2), none, none, none, none, none, none, none, none, none, none, none, none] → Bag 70000 H b c → Ki K H b D1 D2 n rs zs fss hs → t D σ H := by
  obtain ⟨t14, h14, go14⟩ := law14 (P := P) (base := base) (outer := outer) (H0 := H0) (E := E) T hr
  have hr__law_state : Room 3 _ := hr.mono (by decide)
  have G__law_state := ok__law_state (P := P) (base := base) T
  have hr__law_look_fits : Room 8 _ := hr.mono (by decide)
  have G__law_look_fits := ok__law_look_fits (P := P) (base := base) T
  have hr__law_after_heads : Room 5 _ := hr.mono (by decide)
  have G__law_after_heads := ok__law_after_heads (P := P) (base := base) T
  have hr_heads_done : Room 9 _ := hr
  have G_heads_done := ok_heads_done (P := P) (base := base) T
  have hr__law_rows_same : Room 5 _ := hr.mono (by decide)
  have G__law_rows_same := ok__law_rows_same (P := P) (base := base) T
  have hr__law_like : Room 5 _ := hr.mono (by decide)
  have G__law_like := ok__law_like (P := P) (base := base) T 4
  refine ⟨_, (pss_cons (ps_set (i := 7) sc_law.nd rfl (Or.inl rfl) (pe_call G__law_state hr__law_state (by rfl) T.m__law_state T.F__law_state.kp T.B__law_state .nil pass0 (pa_cons (pv 3) pa_nil)))
      (pss_cons (ps_for PassesOwn.never rfl (pi_list (pv 6)) (pg_name (i := 8) sc_law.nd rfl (Or.inl rfl)) (pss_one (ps_for PassesOwn.never rfl (pi_range1 (by rfl) T.n_range (pa_cons (pe_callB call_len_seq (by rfl) T.n_len (by decide +kernel) (pa_cons (pv 3) pa_nil)) pa_nil)) (pg_name (i := 9) sc_law.nd rfl (Or.inl rfl)) (pss_one (ps_if (pt_not (pt_val (pe_call G__law_look_fits hr__law_look_fits (by rfl) T.m__law_look_fits T.F__law_look_fits.kp T.B__law_look_fits .nil pass0 (pa_cons (pv 1) (pa_cons (pv 3) (pa_cons (pv 7) (pa_cons (pv 8) (pa_cons (pv 9) pa_nil)))))))) (pss_one (ps_ret pe_bl)) pss_nil)))))
      (pss_cons (ps_set (i := 10) sc_law.nd rfl (Or.inl rfl) (pe_call G__law_after_heads hr__law_after_heads (by rfl) T.m__law_after_heads T.F__law_after_heads.kp T.B__law_after_heads .nil pass0 (pa_cons (pv 7) (pa_cons (pv 6) pa_nil))))
      (pss_cons (ps_set (i := 11) sc_law.nd rfl (Or.inl rfl) (pe_callTy call_listU (by rfl) T.n_list (by decide +kernel) (pa_cons (pv 3) pa_nil)))
      (pss_cons (ps_set (i := 12) sc_law.nd rfl (Or.inl rfl) (pe_call G_heads_done hr_heads_done (by rfl) T.m_heads_done T.F_heads_done.kp T.B_heads_done .nil pass0 (pa_cons (pv 11) (pa_cons (pv 6) pa_nil))))
      (pss_cons (ps_if (PW.pt (pw_or (pt_not (pt_val (pe_call G__law_rows_same hr__law_rows_same (by rfl) T.m__law_rows_same T.F__law_rows_same.kp T.B__law_rows_same .nil pass0 (pa_cons (pv 12) (pa_cons (pv 10) pa_nil))))) (pw_or1 (pt_not (pt_val (pe_call G__law_like hr__law_like (by rfl) T.m__law_like T.F__law_like.kp T.B__law_like .nil pass0 (pa_cons (pv 11) (pa_cons (pv 3) pa_nil)))))))) (pss_one (ps_ret pe_bl)) pss_nil)
      (pss_cons (ps_set (i := 13) sc_law.nd rfl (Or.inl rfl) (pe_callTy call_listU (by rfl) T.n_list (by decide +kernel) (pa_cons (pv 12) pa_nil)))
      (pss_cons (ps_expr (pe_bm0 PySem.F.plainAttrs_list PySem.F.slot_list_clear PySem.F.type_list_clear mt_clear (pv 12)))
      h14)))))))), ?_⟩
  rintro D σ H b c D1 D2 n rs zs fss hs x0 x4 x5 k rfl B q
  have lz := q.un.len
  have lr := q.fr.len
  have l3 := q.l3
  have l9 := q.l9
  have n5 := q.n5
  have bnd : ∀ fs ∈ fss, ∀ f ∈ fs, 1 ≤ f.2 ∧ f.1.natAbs < 2 ^ 60 := fun fs hfs f hf => by
    obtain ⟨o1, _, o3, _⟩ := (q.rg fs hfs).2 f hf
    exact ⟨o1, Nat.lt_of_le_of_lt o3 (by decide)⟩
  refine seq_op fun N hN => ?_
  walk_at "rs"
  refine ⟨D1, rs, fss, rfl, .inl (SqL.of q.hD), q.fr, fun fs hfs f hf => ⟨(bnd fs hfs f hf).1, pow_le (bnd fs hfs f hf).2 (by decide)⟩, pow_le q.pd (by decide), by omega, fun fs hfs => by have := (q.rg fs hfs).1; omega, fun sv H1 s1 st1 => hN _ _ ?_⟩
  clear hN N
  have h1 : ∀ fs ∈ fss, ∀ f ∈ fs, 1 ≤ f.2 := fun fs hfs f hf => (bnd fs hfs f hf).1
  obtain ⟨L0, _, Ld, Ll⟩ := rowsL_spec (l := 1) (fss := fss) (by decide) h1
  have lL : (rowsL 1 fss).natAbs < 2 ^ 391 := Nat.lt_of_le_of_lt Ll (by rw [show (1 : Int).natAbs = 1 from rfl, Nat.one_mul]; exact q.pd)
  generalize hL : rowsL 1 fss = L at *
  have lim : ∀ Xs ∈ partsOf L fss, Xs.length = n ∧ LimS L Xs := fun Xs hX => by
    obtain ⟨fs, hfs, rfl⟩ := List.mem_map.mp hX
    refine ⟨by rw [List.length_map]; exact (q.rg fs hfs).1, L0, pow_le lL (by decide), fun X hx => ?_⟩
    obtain ⟨f, hf, rfl⟩ := List.mem_map.mp hx
    exact pow_le (num_bound (a := 391) (b := 60) lL (bnd fs hfs f hf).2) (by decide)
  have rows : ∀ G, FRows K G rs fss → Rows K G L rs (partsOf L fss) := fun G fr => rows_of fr fun fs hfs f hf => by
    obtain ⟨o1, o2, _⟩ := (q.rg fs hfs).2 f hf
    exact ⟨⟨o1, o2⟩, Ld fs hfs f hf⟩
  have plen : (partsOf L fss).length = fss.length := by unfold partsOf; rw [List.length_map]
  replace q := q.same s1
  replace B := B.same s1
  refine cut_seq (fun σ H => ∃ (x8 x9 : Option V), σ = [x0, some (.ref b), some (.int (n : Int)), some (.ref D1), x4, x5, some (.ref D2), some sv, x8, x9, none, none, none, none, none, none, none, none, none] ∧ Bag 60000 H b c ∧ Ki K H b D1 D2 n rs zs fss hs ∧ StateAt K H sv L (partsOf L fss)) (fun N hN => ?_) ?_
  · refine ⟨_, rfl, D2, rfl, ⟨zs, SqL.of q.hU⟩, ?_⟩
    refine for_list (K := K) (a := D2) (xs := zs) (fun i σ H => ∃ (x8 x9 : Option V), σ = [x0, some (.ref b), some (.int (n : Int)), some (.ref D1), x4, x5, some (.ref D2), some sv, x8, x9, none, none, none, none, none, none, none, none, none] ∧ Bag (60000 + (zs.length - i) * 18) H b c ∧ Ki K H b D1 D2 n rs zs fss hs ∧ StateAt K H sv L (partsOf L fss)) ⟨_, _, rfl, B.le (by omega), q, st1⟩ (fun i σ H _ ⟨_, _, _, _, q, _⟩ => SqL.of q.hU) ?_ ?_
    · rintro i y σ H hi ⟨x8, x9, rfl, B, q, st⟩
      obtain ⟨u, eu, hu⟩ := q.un.get hi
      have hz : i < zs.length := (List.getElem?_eq_some_iff.mp hi).1
      have pgu := q.ug u (List.mem_of_getElem? eu)
      have e18 : (zs.length - i) * 18 = (zs.length - (i + 1)) * 18 + 18 := by omega
      rw [e18] at B
      walk_at "rs"
      refine ⟨_, rfl, D1, rfl, rs, .inl (SqL.of q.hD), (rs.length : Int), rfl, by omega, by omega, for_range (lo := 0) (n := ((rs.length : Int)).toNat) (fun j σ H => ∃ (x9 : Option V), σ = [x0, some (.ref b), some (.int (n : Int)), some (.ref D1), x4, x5, some (.ref D2), some sv, some y, x9, none, none, none, none, none, none, none, none, none] ∧ Bag (60000 + (zs.length - (i + 1)) * 18 + (9 - j) * 2) H b c ∧ Ki K H b D1 D2 n rs zs fss hs ∧ StateAt K H sv L (partsOf L fss) ∧ HeadAt K H y u) ⟨_, rfl, B.le (by omega), q, st, hu⟩ ?_ ?_⟩
      · rintro j σ H hj ⟨x9, rfl, B, q, st, hu⟩
        have e2 : (9 - j) * 2 = (9 - (j + 1)) * 2 + 2 := by omega
        rw [e2] at B
        walk_at "rs"
        refine ⟨b, c, D1, sv, y, rs, fss, u, 60000 + (zs.length - (i + 1)) * 18 + (9 - (j + 1)) * 2, n, j, L, ?_, B, q.nD, q.hD, q.fr, rows _ q.fr, st, lim, l9, n5, hu, pgu.g, by omega, L0, pow_le lL (by decide), fun H2 B2 K2 => ⟨true, rfl, iteFF (fun z => by cases z) ?_⟩⟩
        · rw [Int.zero_add]
        · exact ⟨B2, q.bag B K2, st.kp B K2, hu.kp B K2⟩
      · rintro σ H ⟨x9, rfl, B, q, st, hu⟩
        exact ⟨_, _, rfl, B.le (by omega), q, st⟩
    · rintro σ H ⟨x8, x9, rfl, B, q, st⟩
      exact hN _ _ ⟨_, _, rfl, B.le (by omega), q, st⟩
  · rintro σ H ⟨x8, x9, rfl, B, q, st⟩
    clear st1 s1
    refine seq_op fun N hN => ?_
    walk_at "rs"
    have hb : ∀ u ∈ hs, HB n u := fun u hu => (q.ug u hu).g.hb
    have pH : prodHs hs < 2 ^ 200 := prodHs_lim (fun u hu => (q.ug u hu).g) l3
    have gS : (hs.map fun u => u.giv.length).sum ≤ 600 := Nat.le_trans (sumH_le fun u hu => (q.ug u hu).g.gl) (by omega)
    refine ⟨sv, D2, zs, hs, partsOf L fss, n, L, rfl, st, lim, L0, pow_le lL (by decide), by omega, by omega, .inl (SqL.of q.hU), q.un, hb, pow_le pH (by decide), by omega, gS, fun dv H2 s2 st2 => hN _ _ ?_⟩
    clear hN N
    obtain ⟨w0, _, wd, wl⟩ := moreH_spec (m := 1) (hs := hs) (by decide) hb
    have w1 : (moreH 1 hs).natAbs < 2 ^ 200 := Nat.lt_of_le_of_lt wl (by rw [show (1 : Int).natAbs = 1 from rfl, Nat.one_mul]; exact pH)
    generalize hW : moreH 1 hs = W at *
    have hf : HsFit n mH W hs := parts_fit (fun u hu => ⟨(q.ug u hu).g, wd u hu⟩) (by omega) w0 (pow_le w1 (by decide))
    replace q := q.same s2
    replace B := B.same s2
    replace st := st.same s2
    refine seq_op fun N hN => ?_
    walk_at "rs"
    refine ⟨rs, .inl (SqL.of q.hD), fun hd H3 s3 hd0 hd1 => hN _ _ ?_⟩
    clear hN N
    have hdb : hd ≠ b := new_ne B hd0
    replace q := q.same s3
    replace B := B.same s3
    replace st := st.same s3
    replace st2 := st2.same s3
    refine seq_op fun N hN => ?_
    walk_at "rs"
    refine ⟨hd, D2, rs, zs, partsOf L fss, hs, n, L, W, mH, rfl, .inl (SqL.of hd1), rows _ q.fr, lim, by omega, .inl (SqL.of q.hU), q.un, hf, fun t ts H4 s4 t0 t1 r4 => hN _ _ ?_⟩
    clear hN N
    have tb : t ≠ b := new_ne B t0
    have hdt : hd ≠ t := fun e => by rw [e, t0] at hd1; cases hd1
    have D1t : D1 ≠ t := fun e => by have := q.hD; rw [e, t0] at this; cases this
    have D2t : D2 ≠ t := fun e => by have := q.hU; rw [e, t0] at this; cases this
    have B3 := B
    have q3 := q
    have st3 := st
    replace q := q.same s4
    replace st2 := st2.same s4
    have hd4 := s4 _ _ hd1
    refine seq_op fun N hN => ?_
    walk_at "rs"
    have small := small_heads lim (by omega) L0 (pow_le lL (by decide)) hf (by omega)
    obtain ⟨ok1, ok2⟩ := okD_rows (fss := fss) (by omega) fun fs hfs => by have := (q.rg fs hfs).1; omega
    have hl : (headRs W mH hs (partsOf L fss)).length ≤ 9 := by unfold headRs; rw [List.length_map, List.length_range]; omega
    refine ⟨t, dv, ts, _, L * W, rfl, SqL.of t1, r4, st2, small, by omega, fun H5 s5 => ⟨true, rfl, iteFF (fun z => by cases z) ⟨.ref hd, .ref D1, dRows fss, rfl, .lst (SqL.of (s5 _ _ hd4)) (q.fr.same s5).dp, .lst (SqL.of (s5 _ _ q.hD)) (q.fr.same s5).dp, ok1, ok2, fun H6 s6 => ⟨true, rfl, iteFF (fun z => by cases z) (hN _ _ ?_)⟩⟩⟩⟩
    clear hN N
    have s46 := Same.trans s5 s6
    have s36 := Same.trans s4 s46
    have t6 := s46 _ _ t1
    refine seq_op fun N hN => ?_
    walk_at "rs"
    refine ⟨ts, .inl (SqL.of t6), fun kp H7 s7 kp0 kp1 => hN _ _ ?_⟩
    clear hN N
    have kt : kp ≠ t := fun e => by rw [e, t6] at kp0; cases kp0
    have t7 := s7 _ _ t6
    refine seq_op fun N hN => ?_
    walk_at "rs"
    refine ⟨.inl ⟨rfl, _, SqL.of t7⟩, t, ts, rfl, rfl, t7, hN _ _ ?_⟩
    clear hN N
    have sE : Same H3 (L2.upd H7 t (.lst [])) := fun p o e => by
      have nt : p ≠ t := fun z => by rw [z, t0] at e; cases e
      rw [upd_ne nt]
      exact s7 _ _ (s36 _ _ e)
    have kpE : (L2.upd H7 t (.lst [])) kp = some (.lst ts) := by rw [upd_ne kt]; exact kp1
    have rE := ((r4.same s46).same s7).upd t7 (o := .lst [])
    generalize (L2.upd H7 t (.lst [])) = HE at *
    have kpb : kp ≠ b := new_ne (B3.same s36) kp0
    replace q := q3.same sE
    exact go14 _ _ HE b c D1 D2 hd kp sv n rs zs ts fss hs L W _ _ _ _ _ _ _ k rfl (B3.same sE) ⟨q.n1, q.n5, q.hD, sE _ _ hd1, q.hU, kpE, q.nD, hdb, q.nU, kpb, q.fr, q.rg, q.l9, q.un, q.ug, q.l3, st3.same sE, rE, hW, L0, lL, Ld⟩
end
end LK

set_option Elab.async false
set_option linter.all false
set_option maxRecDepth 100000
namespace LK
open PySem PySem.Spec PyProof.Rows L2
local macro_rules | `(tactic| walk_at "rs") => `(tactic| simp only [cxK, cxNK, tCallZ, tAsg, tOp, rI0, rS0, rB0, rI, rU, tUn, rEq, rNe, rIxL, rIxT, rIxS, rSetL, rSlLU, rSlS, rSlU, rCatL, rCatU, rRepL, rIn, tVar, tC, gName, gSub, tIfS, tTest, tB, tAnd, tOr, tNot, tNotV, tAndV, tOrV, tIf, tCall, tCons, tNil, tCB, tDrop, tRet, tRetN, tNext, tLstU, tTupU, tM0, tM1, tPar, tPar3, tAug, ipI, tBM, tBM0, rAppend, rPop, tBreak, tCont, tChain, tSl, tPart, tNoPart, L2.start, List.map, List.length_cons, List.length_nil, List.replicate, List.cons_append, List.nil_append, List.append_nil, List.getElem?_cons_zero, List.getElem?_cons_succ, List.set_cons_zero, List.set_cons_succ, Option.some.injEq, V.int.injEq, V.ref.injEq, V.str.injEq, V.bl.injEq, exists_eq_left', exists_eq_left, exists_and_left, decide_eq_true_eq, List.cons.injEq, and_true, true_and, scal, Bool.not_eq_true', decide_eq_false_iff_not, Nat.zero_add, Nat.reduceAdd, Nat.reduceSub, reduceCtorEq, false_and, exists_false, false_or, or_false, CPow, CPowW, CMul, CDiv, Int.reduceToNat, ↓reduceIte, wipe, sw, List.nil_append, List.singleton_append])
local macro_rules | `(tactic| walk_at "st") => `(tactic| (refine seq_op fun N hN => ?_; walk_at "rs"))
local macro_rules | `(tactic| walk_at "sd") => `(tactic| first | assumption | decide | omega)
local macro_rules | `(tactic| walk_at "rd") => `(tactic| repeat (first
  | refine ⟨_, SqL.of (by assumption), ?_⟩ | refine ⟨_, SqL.of upd_same, ?_⟩ | refine ⟨_, .inl (SqL.of (by assumption)), ?_⟩ | refine ⟨_, (by assumption : _ = some (HO.lst _)), ?_⟩ | refine ⟨_, upd_same, ?_⟩
  | refine ⟨_, rfl, ?_⟩ | refine And.intro (by walk_at "sd") ?_))

section
variable {P : Program} {w : World} {K : PySem.W.Frag} {mg : Str → Option Value} {base : Heap}
theorem ok_law (T : Txt w K mg) : FnOk P w K mg base CX0 10 T.a_law T.d_law ["script"] (sp_law K) := by
  refine T.F_law.ok sc_law (fun vs H Q E h => ?_) (fun cdv A outer s H vs Q E hr h => ?_)
  · obtain ⟨a, ns, rfl, _⟩ := h
    rfl
  · obtain ⟨a, ns, rfl, ha, l63, k⟩ := h
    have hr__law_bag : Room 1 _ := hr.mono (by decide)
    have G__law_bag := ok__law_bag (P := P) (base := base) T
    have hr__law_draw : Room 1 _ := hr.mono (by decide)
    have G__law_draw := ok__law_draw (P := P) (base := base) T
    have hr__law_of : Room 2 _ := hr.mono (by decide)
    have G__law_of := ok__law_of (P := P) (base := base) T
    have hr__law_rows : Room 4 _ := hr.mono (by decide)
    have G__law_rows := ok__law_rows (P := P) (base := base) T
    have hr__law_factor : Room 3 _ := hr.mono (by decide)
    have G__law_factor := ok__law_factor (P := P) (base := base) T
    have hr__law_head : Room 5 _ := hr.mono (by decide)
    have G__law_head := ok__law_head (P := P) (base := base) T
    obtain ⟨t06, h06, go06⟩ := law06 (P := P) (base := base) (outer := outer) (H0 := H) (E := E) T hr
    refine ⟨_, (pss_cons (ps_set (i := 1) sc_law.nd rfl (Or.inr rfl) (pe_call G__law_bag hr__law_bag (by rfl) T.m__law_bag T.F__law_bag.kp T.B__law_bag .nil pass0 (pa_cons (pv 0) pa_nil)))
      (pss_cons (ps_set (i := 2) sc_law.nd rfl (Or.inr rfl) (pe_op op_add pe_int (pe_call G__law_draw hr__law_draw (by rfl) T.m__law_draw T.F__law_draw.kp T.B__law_draw .nil pass0 (pa_cons (pv 1) (pa_cons pe_int pa_nil)))))
      (pss_cons (ps_set (i := 3) sc_law.nd rfl (Or.inl rfl) (pe_call G__law_rows hr__law_rows (by rfl) T.m__law_rows T.F__law_rows.kp T.B__law_rows .nil pass0 (pa_cons (pv 1) (pa_cons (pe_op op_add (pe_op op_add pe_int (pe_call G__law_draw hr__law_draw (by rfl) T.m__law_draw T.F__law_draw.kp T.B__law_draw .nil pass0 (pa_cons (pv 1) (pa_cons pe_int pa_nil)))) (pe_call G__law_of hr__law_of (by rfl) T.m__law_of T.F__law_of.kp T.B__law_of .nil pass0 (pa_cons (pv 1) (pa_cons (pe_lstU (pa_cons pe_int (pa_cons pe_int (pa_cons pe_int (pa_cons pe_int (pa_cons pe_int (pa_cons pe_int (pa_cons pe_int (pa_cons pe_int pa_nil))))))))) pa_nil)))) (pa_cons (pv 2) pa_nil)))))
      (pss_cons (ps_if (pt_cmpR op_eqI (pe_call G__law_draw hr__law_draw (by rfl) T.m__law_draw T.F__law_draw.kp T.B__law_draw .nil pass0 (pa_cons (pv 1) (pa_cons pe_int pa_nil))) pe_int (nomark _)) (pss_cons (ps_par (i := 4) (j := 5) (by rfl) sc_law.nd rfl rfl (by decide) rfl rfl (pa_cons (pe_call G__law_draw hr__law_draw (by rfl) T.m__law_draw T.F__law_draw.kp T.B__law_draw .nil pass0 (pa_cons (pv 1) (pa_cons (pe_callB call_len_seq (by rfl) T.n_len (by decide +kernel) (pa_cons (pv 3) pa_nil)) pa_nil))) (pa_cons (pe_call G__law_draw hr__law_draw (by rfl) T.m__law_draw T.F__law_draw.kp T.B__law_draw .nil pass0 (pa_cons (pv 1) (pa_cons (pv 2) pa_nil))) pa_nil)) (by rfl))
      (pss_one (ps_asg (pe_op op_catU (pe_op op_catU (pe_slice sl_tupU (pe_ix ix_list (pv 3) (pv 4) (fun _ _ => rfl)) po_none (po_some (pv 5))) (pe_tupU (pa_cons (pe_call G__law_factor hr__law_factor (by rfl) T.m__law_factor T.F__law_factor.kp T.B__law_factor .nil pass0 (pa_cons (pv 1) pa_nil)) pa_nil))) (pe_slice sl_tupU (pe_ix ix_list (pv 3) (pv 4) (fun _ _ => rfl)) (po_some (pe_op op_add (pv 5) pe_int)) po_none)) (pg_sub (pv 3) (pv 4) set_list)))) pss_nil)
      (pss_cons (ps_setLc (i := 6) (own := [("k", 4)]) (g := gName 4) (tt := tYes) rfl sc_law.nd rfl rfl (sw_true rfl rfl rfl (by decide +kernel)) (pi_range1 (by rfl) T.n_range (pa_cons (pe_op op_add pe_int (pe_call G__law_draw hr__law_draw (by rfl) T.m__law_draw T.F__law_draw.kp T.B__law_draw .nil pass0 (pa_cons (pv 1) (pa_cons pe_int pa_nil)))) pa_nil)) (blkOk_by (own := [("k", 4)]) (N := N_law) (sc := defScope s_law) (by decide +kernel)) (fun _ _ _ _ _ => pg_name (i := 4) sc_law.nd rfl (Or.inl rfl)) (fun _ _ _ _ _ => pts_nil) (fun _ _ _ _ _ => (pe_call G__law_head hr__law_head (by rfl) T.m__law_head T.F__law_head.kp T.B__law_head .nil pass0 (pa_cons (pv 1) (pa_cons (pv 2) pa_nil)))))
      (pss_cons (ps_if (pt_cmpR op_eqI (pe_call G__law_draw hr__law_draw (by rfl) T.m__law_draw T.F__law_draw.kp T.B__law_draw .nil pass0 (pa_cons (pv 1) (pa_cons pe_int pa_nil))) pe_int (nomark _)) (pss_one (ps_expr (pe_bm PySem.F.plainAttrs_list PySem.F.slot_list_append PySem.F.type_list_append mt_append (pv 6) (pa_cons (pe_tupU (pa_cons (pe_ix ix_tup (pe_ix ix_list (pv 6) pe_int (fun _ _ => rfl)) pe_int (fun _ _ => rfl)) (pa_cons (pe_ix ix_tup (pe_call G__law_head hr__law_head (by rfl) T.m__law_head T.F__law_head.kp T.B__law_head .nil pass0 (pa_cons (pv 1) (pa_cons (pv 2) pa_nil))) pe_int (fun _ _ => rfl)) pa_nil))) pa_nil)))) pss_nil)
      h06)))))), ?_⟩
    refine seq_op fun N hN => ?_
    walk_at "rs"
    refine ⟨a, ns, rfl, ha, l63, fun b c H1 s1 B1 b0 => hN _ _ ?_⟩
    clear hN N
    refine seq_op fun N hN => ?_
    walk_at "rs"
    refine ⟨b, c, 5, 1099511627775, rfl, B1, by decide, by decide, fun r H2 r0 r1 B2 K2 => ⟨r, rfl, hN _ _ ?_⟩⟩
    clear hN N
    obtain ⟨n, en, n1, n5⟩ : ∃ n : Nat, 1 + r = (n : Int) ∧ 1 ≤ n ∧ n ≤ 5 := ⟨(1 + r).toNat, by omega, by omega, by omega⟩
    rw [en]
    refine seq_op fun N hN => ?_
    walk_at "rs"
    refine ⟨b, c, 5, 100001, rfl, B2.le (by decide), by decide, by decide, fun r3 H3 r30 r31 B3 K3 => ?_⟩
    refine ⟨r3, rfl, by decide, fun p4 H4 s4 p40 p41 => ?_⟩
    have b4 : p4 ≠ b := new_ne B3 p40
    have hb4 : hb H4 b p4 = some (.lst [V.int 0, V.int 0, V.int 0, V.int 0, V.int 0, V.int 0, V.int 2, V.int 4]) := by rw [hb_ne b4]; exact p41
    refine ⟨b, c, .ref p4, _, 100000, rfl, B3.same s4, .inl ⟨p4, rfl, SqL.of p41⟩, .inl ⟨p4, rfl, SqL.of hb4⟩, by simp, by decide, fun y H5 my B5 K5 => ?_⟩
    obtain ⟨m, em, m1, m9⟩ : ∃ m : Nat, y = .int ((m : Int) - (1 + r3)) ∧ 1 ≤ m ∧ m ≤ 9 := by
      simp only [List.mem_cons, List.not_mem_nil, or_false] at my
      rcases my with rfl | rfl | rfl | rfl | rfl | rfl | rfl | rfl
      all_goals first
        | exact ⟨(1 + r3).toNat, congrArg V.int (by omega), by omega, by omega⟩
        | exact ⟨(1 + r3 + 2).toNat, congrArg V.int (by omega), by omega, by omega⟩
        | exact ⟨(1 + r3 + 4).toNat, congrArg V.int (by omega), by omega, by omega⟩
    rw [em]
    have e6 : 1 + r3 + ((m : Int) - (1 + r3)) = (m : Int) := by omega
    refine ⟨_, rfl, b, c, 90000, m, n, by rw [e6], B5.le (by omega), m9, n1, n5, fun D1 rs fss H6 B6 K6 D10 D11 fr lf gd => hN _ _ ?_⟩
    clear hN N my em e6
    have Db : D1 ≠ b := new_ne B5 D10
    have lrs := fr.len
    have pd : prodDD fss ≤ 97 ^ 45 := rows_prod gd (by omega) n5
    have ncD : c ≠ D1 := fun e => by
      obtain ⟨xc, ec⟩ := B5.at2
      rw [← e, ec] at D10; cases D10
    refine cut_seq (fun σ H7 => ∃ (x4 x5 : Option V) (rs : List V) (fss : List (List Fr)), σ = [some (.ref a), some (.ref b), some (.int (n : Int)), some (.ref D1), x4, x5, none, none, none, none, none, none, none, none, none, none, none, none, none] ∧ Bag 80000 H7 b c ∧ H7 D1 = some (.lst rs) ∧ FRows K H7 rs fss ∧ RowsG n fss ∧ prodDD fss < 2 ^ 391 ∧ fss ≠ [] ∧ fss.length ≤ 9) (fun N hN => ?_) ?_
    · have rg : RowsG n fss := fun fs hfs => ⟨(gd fs hfs).1, fun f hf => by
        obtain ⟨o1, o2, o3, o4⟩ := (gd fs hfs).2 f hf
        exact ⟨o1, o2, Nat.le_trans o3 (by decide), Nat.le_trans o4 (by decide)⟩⟩
      have nf : fss ≠ [] := fun e => by rw [e] at lf; rw [List.length_nil] at lf; omega
      walk_at "rs"
      refine ⟨b, c, 6, 89999, rfl, B6, by decide, by decide, fun r5 H7 r50 r51 B7 K7 => ⟨r5, rfl, ite2 (fun _ => ?_) (fun _ => ?_)⟩⟩
      · refine seq_op fun N1 hN1 => ?_
        walk_at "rs"
        refine ⟨rs, .inl (SqL.of (Kp.get K7 Db D11)), b, c, _, 89998, rfl, B7, by omega, by omega, fun rk H8 rk0 rk1 B8 K8 => ⟨b, c, _, 89997, rfl, B8, by omega, by omega, fun rj H9 rj0 rj1 B9 K9 => ⟨_, _, ⟨rfl, rfl⟩, hN1 _ _ ?_⟩⟩⟩
        clear hN1 N1
        obtain ⟨k1, rfl⟩ : ∃ k1 : Nat, rk = (k1 : Int) := ⟨rk.toNat, by omega⟩
        obtain ⟨j1, rfl⟩ : ∃ j1 : Nat, rj = (j1 : Int) := ⟨rj.toNat, by omega⟩
        walk_at "rs"
        have K69 := Same.trans K7 (Same.trans K8 K9)
        have fr9 := fr.kp B6 K69
        have hD9 := Kp.get K69 Db D11
        obtain ⟨ra, rys, fs, e1, e2, hs, hf⟩ := fr9.get (n := k1) (by omega)
        have B9 : Bag 89997 H9 b c := B9
        have gfs := gd fs (List.mem_of_getElem? e2)
        have lrys := hf.len
        have lfs : fs.length = n := gfs.1
        refine ⟨rs, SqL.of hD9, _, at_ofN rfl e1, ra, rfl, rys, hs, fun q1 G8 s8 hq1 => ⟨b, c, 80000, rfl, (B9.same s8).le (by omega), fun tf f G9 okf tf0 tf1 B10 K10 => ⟨by decide, fun p2 G10 s10 p20 p21 => ?_⟩⟩⟩
        have B8' := B9.same s8
        have hD10 := s10 _ _ (Kp.get K10 Db (s8 _ _ hD9))
        have hs10 := Same.seqT s10 (seqT_kp B8' K10 (Same.seqT s8 hs))
        have hf10 := ((hf.same s8).kp B8' K10).same s10
        have hq10 := Same.seqT s10 (seqT_kp B8' K10 hq1)
        have fr10 := ((fr9.same s8).kp B8' K10).same s10
        have tf10 := s10 _ _ tf1
        rw [cutV_take] at hq10
        have lcut : (rys.take j1).length ≤ 5 := by rw [List.length_take]; omega
        refine ⟨_, hq10, _, .inl (.inl p21), Nat.le_trans (show (rys.take j1).length + 1 ≤ 10 by omega) (by decide), fun q3 G11 s11 hq3 => ⟨rs, SqL.of (s11 _ _ hD10), _, at_ofN rfl e1, ra, rfl, rys, Same.seqT s11 hs10, fun q4 G12 s12 hq4 => ?_⟩⟩
        rw [show ((j1 : Int) + 1) = ((j1 + 1 : Nat) : Int) by omega, cutV_drop] at hq4
        have lcut2 : (rys.drop (j1 + 1)).length ≤ 5 := by rw [List.length_drop]; omega
        refine ⟨_, Same.seqT s12 hq3, _, hq4, Nat.le_trans (show _ ≤ 20 by rw [List.length_append]; simp only [List.length_cons, List.length_nil]; omega) (by decide), fun q5 G13 s13 hq5 => ?_⟩
        have s1013 := Same.trans s11 (Same.trans s12 s13)
        have hD13 := s1013 _ _ hD10
        have hq1 := (((hf10.take j1).app (Frs.one (f := f) (.inl (.inl tf10)))).app (hf10.drop (j1 + 1))).same s1013
        have p97 : prodD (fs.take j1 ++ fs.drop (j1 + 1)) ≤ 97 ^ 5 := by
          refine Nat.le_trans (prodD_le (B := 97) fun g hg => ?_) (Nat.pow_le_pow_right (by decide) (?_ : _ ≤ 5))
          · rcases List.mem_append.mp hg with hg | hg
            · exact (gfs.2 g (List.mem_of_mem_take hg)).2.2.2
            · exact (gfs.2 g (List.mem_of_mem_drop hg)).2.2.2
          · rw [List.length_append, List.length_take, List.length_drop]; omega
        have pg : prodD (fs.take j1 ++ [f] ++ fs.drop (j1 + 1)) ≤ 97 ^ 5 * 1000000000000000000 := by
          rw [prodD_app] at p97
          rw [prodD_app, prodD_app]
          show prodD (fs.take j1) * (f.2.natAbs * 1) * prodD (fs.drop (j1 + 1)) ≤ _
          rw [Nat.mul_one, Nat.mul_assoc, Nat.mul_comm f.2.natAbs, ← Nat.mul_assoc]
          exact Nat.mul_le_mul p97 okf.2.2.2
        have pset := prodDD_set (B := 97 ^ 5) (C := 1000000000000000000) (by decide) (fss := fss) (k := k1) (fun gs hgs => by
          refine Nat.le_trans (prodD_le (B := 97) fun g hg => ((gd gs hgs).2 g hg).2.2.2) (Nat.pow_le_pow_right (by decide) ?_)
          rw [(gd gs hgs).1]
          exact n5) pg
        refine ⟨rs, hD13, k1, ixN_nat (by omega), hN _ _ ⟨_, _, _, fss.set k1 (fs.take j1 ++ [f] ++ fs.drop (j1 + 1)), rfl, ((((B10.same s10).same s1013).le (by omega)).upd Db.symm ncD), upd_same, FRows.set (seqT_upd hD13 hq5) (hq1.upd hD13) k1 ((fr10.same s1013).upd2 hD13), fun gs hgs => ?_, Nat.lt_of_le_of_lt (Nat.le_trans pset (Nat.mul_le_mul_right _ (Nat.pow_le_pow_right (by decide) (show fss.length ≤ 9 by omega)))) (by decide), fun e => nf (List.length_eq_zero_iff.mp (by rw [← List.length_set (i := k1) (a := fs.take j1 ++ [f] ++ fs.drop (j1 + 1)), e]; rfl)), by rw [List.length_set]; omega⟩⟩
        rcases List.mem_or_eq_of_mem_set hgs with hgs | rfl
        · exact rg gs hgs
        · refine ⟨by rw [List.length_append, List.length_append, List.length_take, List.length_drop]; simp only [List.length_cons, List.length_nil]; omega, fun g hg => ?_⟩
          have rfs := rg fs (List.mem_of_getElem? e2)
          rcases List.mem_append.mp hg with hg | hg
          · rcases List.mem_append.mp hg with hg | hg
            · exact rfs.2 g (List.mem_of_mem_take hg)
            · obtain rfl := List.mem_singleton.mp hg
              exact okf
          · exact rfs.2 g (List.mem_of_mem_drop hg)
      · exact hN _ _ ⟨_, _, rs, fss, rfl, B7.le (by decide), Kp.get K7 Db D11, fr.kp B6 K7, rg, Nat.lt_of_le_of_lt pd (by decide), nf, by omega⟩
    · clear gd pd lf lrs fr D11 D10 B6 K6 ncD rs fss
      rintro σ H7 ⟨x4, x5, rs, fss, rfl, B7, hD7, fr7, rg, pd, nf, l9⟩
      refine seq_op fun N hN => ?_
      walk_at "rs"
      refine ⟨_, rfl, b, c, 2, 79999, rfl, B7, by decide, by decide, fun r8 H8 r80 r81 B8 K8 => ⟨1, r8, rfl, rfl, 1 + r8, rfl, by omega, by omega, fun D2 hD2 => lc_bagK (n := (1 + r8).toNat) (k := 56) (N := 75000) (b := b) (c := c) walk_range hD2 (B8.le (by omega)) (by omega) (HdsG K n) (fun M G G' ys B k ⟨us, h1, h2⟩ => ⟨us, h1.kp B k, h2⟩) (fun H ys zs o hp ⟨us, h1, h2⟩ => ⟨us, h1.upd hp, h2⟩) (fun H => ⟨[], .nil, fun u hu => absurd hu (by simp)⟩) (fun _ _ _ _ y => y.1) (fun _ _ => trivial) (fun x H9 M K9 B9 Q2 hq => ?_) fun H9 zs B9 K9 hD9 hl9 hu9 => hN _ _ ?_⟩⟩
      · exact ⟨_, rfl, _, rfl, b, c, M, n, rfl, B9, n1, n5, fun u sa ga h H10 B10 K10 _ hh gh go => hq _ H10 B10 K10 fun ys ⟨us, h1, h2⟩ => ⟨us ++ [h], h1.app (.cons hh .nil), fun w hw => by
          rcases List.mem_append.mp hw with hw | hw
          · exact h2 w hw
          · obtain rfl := List.mem_singleton.mp hw
            exact ⟨gh, go⟩⟩⟩
      clear hN N
      obtain ⟨us, hus, ug⟩ := hu9
      have K79 : Kp b H7 H9 := Same.trans K8 K9
      have hD7' : H9 D1 = some (.lst rs) := Kp.get K79 Db hD7
      have fr9 := fr7.kp B7 K79
      have D2b : D2 ≠ b := new_ne B8 hD2
      have lus := hus.len
      refine cut_seq (fun σ H => ∃ (zs : List V) (hs : List Hd), σ = [some (.ref a), some (.ref b), some (.int (n : Int)), some (.ref D1), x4, x5, some (.ref D2), none, none, none, none, none, none, none, none, none, none, none, none] ∧ Bag 70000 H b c ∧ Ki K H b D1 D2 n rs zs fss hs) (fun N hN => ?_) ?_
      · have ki : Ki K H9 b D1 D2 n rs zs fss us := ⟨n1, n5, hD7', hD9, Db, D2b, fr9, rg, l9, hus, ug, by omega, pd⟩
        walk_at "rs"
        refine ⟨b, c, 3, 74999, rfl, B9, by decide, by decide, fun r10 H10 _ _ B10 K10 => ⟨r10, rfl, ite2 (fun _ => ?_) (fun _ => hN _ _ ⟨zs, us, rfl, B10.le (by omega), ki.bag B9 K10⟩)⟩⟩
        replace ki := ki.bag B9 K10
        have n12 : D1 ≠ D2 := fun e => by
          have := Kp.get K8 Db hD7
          rw [e, hD2] at this; cases this
        have c2 : c ≠ D2 := fun e => by
          obtain ⟨xc, ec⟩ := B8.at2
          rw [← e, ec] at hD2; cases hD2
        have lu2 : us.length ≤ 2 := by omega
        have ez : ∃ z zs', zs = z :: zs' := by
          cases zs with
          | nil => rw [List.length_nil] at hl9; omega
          | cons z zs' => exact ⟨z, zs', rfl⟩
        obtain ⟨z, zs', rfl⟩ := ez
        obtain ⟨u0, eu0, ua, sa, ga, xs, ys, rfl, g1, g2, g3, g4, g5⟩ := ki.un.get (n := 0) (x := z) rfl
        have pg0 := ug u0 (List.mem_of_getElem? eu0)
        refine ⟨.inl ⟨rfl, _, SqL.of ki.hU⟩, _, SqL.of ki.hU, _, at_ofN (show (0 : Int) = ((0 : Nat) : Int) from rfl) rfl, ua, rfl, _, g1, _, rfl, b, c, 70000, n, rfl, B10.le (by omega), n1, n5, fun u sa1 ga1 h H11 B11 K11 _ hh gh go => ?_⟩
        have B10' : Bag 74999 H10 b c := B10
        replace ki := ki.bag B10' K11
        replace g1 := seqT_kp B10' K11 g1
        replace g2 := seqT_kp B10' K11 g2
        replace g3 := g3.kp B10' K11
        obtain ⟨ub, sb, gb, xs2, ys2, eb, h1, h2, h3, h4, h5⟩ := hh
        cases eb
        refine ⟨u, rfl, _, h1, _, rfl, by decide, fun p H12 s12 p0 p1 => ⟨_, s12 _ _ ki.hU, Nat.lt_of_le_of_lt (show _ ≤ 1000 by omega) (by decide), hN _ _ ⟨V.ref ua :: zs' ++ [V.ref p], us ++ [⟨u0.sc, h.giv⟩], rfl, ((B11.same s12).upd D2b.symm c2), ?_⟩⟩⟩
        have kj := ki.same s12
        refine ⟨n1, n5, by rw [upd_ne n12]; exact kj.hD, upd_same, Db, D2b, kj.fr.upd2 kj.hU, rg, l9, (kj.un.upd kj.hU).app (.cons ?_ .nil), fun w hw => ?_, by rw [List.length_append]; simp only [List.length_cons, List.length_nil]; omega, pd⟩
        · exact ⟨p, sa, gb, xs, ys2, rfl, seqT_upd kj.hU (.inl (.inl p1)), seqT_upd kj.hU (Same.seqT s12 g2), (g3.same s12).upd kj.hU, seqT_upd kj.hU (Same.seqT s12 h4), (h5.same s12).upd kj.hU⟩
        · rcases List.mem_append.mp hw with hw | hw
          · exact ug w hw
          · obtain rfl := List.mem_singleton.mp hw
            exact ⟨⟨pg0.g.sl, gh.gl, pg0.g.sa, gh.ga⟩, pg0.o⟩
      · rintro σ H ⟨zs, hs, rfl, B, q⟩
        exact go06 _ _ H b c D1 D2 n rs zs fss hs _ _ _ k rfl B q
end
end LK

set_option Elab.async false
set_option linter.all false
set_option maxRecDepth 100000
namespace LK
open PySem PySem.Spec PyProof.Rows L2
local macro_rules | `(tactic| walk_at "rs") => `(tactic| simp only [cxK, cxNK, tCallZ, tAsg, tOp, rI0, rS0, rB0, rI, rU, tUn, rEq, rNe, rIxL, rIxT, rIxS, rSetL, rSlLU, rSlS, rSlU, rCatL, rCatU, rRepL, rIn, tVar, tC, gName, gSub, tIfS, tTest, tB, tAnd, tOr, tNot, tNotV, tAndV, tOrV, tIf, tCall, tCons, tNil, tCB, tDrop, tRet, tRetN, tNext, tLstU, tTupU, tM0, tM1, tPar, tPar3, tAug, ipI, tBM, tBM0, rAppend, rPop, tBreak, tCont, tChain, tSl, tPart, tNoPart, L2.start, List.map, List.length_cons, List.length_nil, List.replicate, List.cons_append, List.nil_append, List.append_nil, List.getElem?_cons_zero, List.getElem?_cons_succ, List.set_cons_zero, List.set_cons_succ, Option.some.injEq, V.int.injEq, V.ref.injEq, V.str.injEq, V.bl.injEq, exists_eq_left', exists_eq_left, exists_and_left, decide_eq_true_eq, List.cons.injEq, and_true, true_and, scal, Bool.not_eq_true', decide_eq_false_iff_not, Nat.zero_add, Nat.reduceAdd, Nat.reduceSub, reduceCtorEq, false_and, exists_false, false_or, or_false, CPow, CPowW, CMul, CDiv, Int.reduceToNat, ↓reduceIte, wipe, sw, List.nil_append, List.singleton_append])
local macro_rules | `(tactic| walk_at "st") => `(tactic| (refine seq_op fun N hN => ?_; walk_at "rs"))
local macro_rules | `(tactic| walk_at "sd") => `(tactic| first | assumption | decide | omega)
local macro_rules | `(tactic| walk_at "rd") => `(tactic| repeat (first
  | refine ⟨_, SqL.of (by assumption), ?_⟩ | refine ⟨_, SqL.of upd_same, ?_⟩ | refine ⟨_, .inl (SqL.of (by assumption)), ?_⟩ | refine ⟨_, (by assumption : _ = some (HO.lst _)), ?_⟩ | refine ⟨_, upd_same, ?_⟩
  | refine ⟨_, rfl, ?_⟩ | refine And.intro (by walk_at "sd") ?_))
/-! ### what the head tells, as Bools -/
def oexB (K : PySem.W.Frag) (C : Addr) : Bool := (match K.lookup C with
  | some ⟨.type c, _, .cls cd, sl⟩ => (match cd.mro, sl.toList with
    | .ref C' :: bm, [_, _, _, _, some (.builtin n), _] => decide (c = "type") && (decide (C' = C) && (decide (n = "ValueError.__new__") && (!cd.hasDel && (cd.hasDict && PySem.HandSPX.refsVE bm))))
    | _, _ => false)
  | _ => false) && (He.eqO (PySem.W.findIn K (.ref C) "__setattr__") (some (some (.builtin "object.__setattr__"))) && (decide (PySem.W.subIn K (.ref C) (.type "BaseException") = some true) && (decide (PySem.W.typeIn K (.ref C) = some (.type "type")) && PySem.W.keepIn K (.ref C))))
theorem oexB_ok {K : PySem.W.Frag} {C : Addr} (h : oexB K C = true) : OexC K C := by
  obtain ⟨h1, h2⟩ := He.ba h
  obtain ⟨h3, h4⟩ := He.ba h2
  obtain ⟨h5, h6⟩ := He.ba h4
  obtain ⟨h7, h8⟩ := He.ba h6
  refine ⟨?_, He.eqO_ok h3, of_decide_eq_true h5, of_decide_eq_true h7, h8⟩
  cases e : K.lookup C with
  | none => rw [e] at h1; cases h1
  | some ob =>
    obtain ⟨oc, od, dt, osl⟩ := ob
    rw [e] at h1
    cases oc with
    | type c =>
      cases dt with
      | cls cd =>
        obtain ⟨nm, bs, mro, ns, qn, hd, sn, sb, ab, col, del⟩ := cd
        dsimp only at h1
        split at h1
        · rename_i xl C' bm k0 k1 k2 k3 n k5 es
          obtain ⟨a1, b1⟩ := He.ba h1
          obtain ⟨a2, b2⟩ := He.ba b1
          obtain ⟨a3, b3⟩ := He.ba b2
          obtain ⟨a4, b4⟩ := He.ba b3
          obtain ⟨a5, a6⟩ := He.ba b4
          have ec : c = "type" := of_decide_eq_true a1
          have eC : C' = C := of_decide_eq_true a2
          have en : n = "ValueError.__new__" := of_decide_eq_true a3
          have ed : del = false := by cases del with
            | false => rfl
            | true => cases a4
          have eh : hd = true := a5
          have eo : osl = #[k0, k1, k2, k3, some (.builtin n), k5] := by
            have := congrArg List.toArray es
            simpa using this
          subst ec eC en ed eh eo
          exact ⟨nm, qn, ns, bs, bm, sn, sb, ab, col, od, k0, k1, k2, k3, k5, rfl, a6⟩
        · cases h1
      | _ => cases h1
    | _ => cases dt <;> cases h1
def bvC (K : PySem.W.Frag) : Addr := He.ga K "BadValue"
def bvI (K : PySem.W.Frag) : Addr := He.fAd K ("BadValue", some "__init__")
def exB (K : PySem.W.Frag) : Bool := oexB K (bvC K) && (He.eqO (PySem.W.nsIn K mainGlobals "gcd") (some (some (.builtin "math.gcd"))) && (decide (PySem.W.typeIn K (.ref (bvI K)) = some (.type "function")) && (He.eqO (PySem.W.findIn K (.ref (bvC K)) "__init__") (some (some (.ref (bvI K)))) && (He.tupB K "ZERO" [.int 0, .int 1]))))
def dInit : He.DefD := ⟨("BadValue", some "__init__"), "__init__", "BadValue.__init__", defArgs s_BadValue, defBody s_BadValue, defScope s_BadValue, [], []⟩
def D_is_number : He.DefD := ⟨("is_number", none), "is_number", "is_number", defArgs s_is_number, defBody s_is_number, defScope s_is_number, [], []⟩
def D_is_fraction : He.DefD := ⟨("is_fraction", none), "is_fraction", "is_fraction", defArgs s_is_fraction, defBody s_is_fraction, defScope s_is_fraction, [], []⟩
def D_fraction : He.DefD := ⟨("fraction", none), "fraction", "fraction", defArgs s_fraction, defBody s_fraction, defScope s_fraction, [.int 1], []⟩
def D_plus : He.DefD := ⟨("plus", none), "plus", "plus", defArgs s_plus, defBody s_plus, defScope s_plus, [], []⟩
def D_times : He.DefD := ⟨("times", none), "times", "times", defArgs s_times, defBody s_times, defScope s_times, [], []⟩
def D_quotient : He.DefD := ⟨("quotient", none), "quotient", "quotient", defArgs s_quotient, defBody s_quotient, defScope s_quotient, [], []⟩
def D_below : He.DefD := ⟨("below", none), "below", "below", defArgs s_below, defBody s_below, defScope s_below, [], []⟩
def D_mean_of : He.DefD := ⟨("mean_of", none), "mean_of", "mean_of", defArgs s_mean_of, defBody s_mean_of, defScope s_mean_of, [], []⟩
def D_row_with : He.DefD := ⟨("row_with", none), "row_with", "row_with", defArgs s_row_with, defBody s_row_with, defScope s_row_with, [], []⟩
def D_sum_of : He.DefD := ⟨("sum_of", none), "sum_of", "sum_of", defArgs s_sum_of, defBody s_sum_of, defScope s_sum_of, [], []⟩
def D_scores : He.DefD := ⟨("scores", none), "scores", "scores", defArgs s_scores, defBody s_scores, defScope s_scores, [], []⟩
def D_looked_at : He.DefD := ⟨("looked_at", none), "looked_at", "looked_at", defArgs s_looked_at, defBody s_looked_at, defScope s_looked_at, [], []⟩
def D_head_gifts : He.DefD := ⟨("head_gifts", none), "head_gifts", "head_gifts", defArgs s_head_gifts, defBody s_head_gifts, defScope s_head_gifts, [], []⟩
def D_heads_done : He.DefD := ⟨("heads_done", none), "heads_done", "heads_done", defArgs s_heads_done, defBody s_heads_done, defScope s_heads_done, [], []⟩
def D__law_bag : He.DefD := ⟨("_law_bag", none), "_law_bag", "_law_bag", defArgs s__law_bag, defBody s__law_bag, defScope s__law_bag, [], []⟩
def D__law_draw : He.DefD := ⟨("_law_draw", none), "_law_draw", "_law_draw", defArgs s__law_draw, defBody s__law_draw, defScope s__law_draw, [], []⟩
def D__law_of : He.DefD := ⟨("_law_of", none), "_law_of", "_law_of", defArgs s__law_of, defBody s__law_of, defScope s__law_of, [], []⟩
def D__law_like : He.DefD := ⟨("_law_like", none), "_law_like", "_law_like", defArgs s__law_like, defBody s__law_like, defScope s__law_like, [], []⟩
def D__law_gcd : He.DefD := ⟨("_law_gcd", none), "_law_gcd", "_law_gcd", defArgs s__law_gcd, defBody s__law_gcd, defScope s__law_gcd, [], []⟩
def D__law_low : He.DefD := ⟨("_law_low", none), "_law_low", "_law_low", defArgs s__law_low, defBody s__law_low, defScope s__law_low, [], []⟩
def D__law_great : He.DefD := ⟨("_law_great", none), "_law_great", "_law_great", defArgs s__law_great, defBody s__law_great, defScope s__law_great, [], []⟩
def D__law_factor : He.DefD := ⟨("_law_factor", none), "_law_factor", "_law_factor", defArgs s__law_factor, defBody s__law_factor, defScope s__law_factor, [], []⟩
def D__law_number : He.DefD := ⟨("_law_number", none), "_law_number", "_law_number", defArgs s__law_number, defBody s__law_number, defScope s__law_number, [], []⟩
def D__law_is_fraction : He.DefD := ⟨("_law_is_fraction", none), "_law_is_fraction", "_law_is_fraction", defArgs s__law_is_fraction, defBody s__law_is_fraction, defScope s__law_is_fraction, [], []⟩
def D__law_common : He.DefD := ⟨("_law_common", none), "_law_common", "_law_common", defArgs s__law_common, defBody s__law_common, defScope s__law_common, [], []⟩
def D__law_state : He.DefD := ⟨("_law_state", none), "_law_state", "_law_state", defArgs s__law_state, defBody s__law_state, defScope s__law_state, [], []⟩
def D__law_scored : He.DefD := ⟨("_law_scored", none), "_law_scored", "_law_scored", defArgs s__law_scored, defBody s__law_scored, defScope s__law_scored, [], []⟩
def D__law_seen : He.DefD := ⟨("_law_seen", none), "_law_seen", "_law_seen", defArgs s__law_seen, defBody s__law_seen, defScope s__law_seen, [], []⟩
def D__law_after_heads : He.DefD := ⟨("_law_after_heads", none), "_law_after_heads", "_law_after_heads", defArgs s__law_after_heads, defBody s__law_after_heads, defScope s__law_after_heads, [], []⟩
def D__law_same : He.DefD := ⟨("_law_same", none), "_law_same", "_law_same", defArgs s__law_same, defBody s__law_same, defScope s__law_same, [], []⟩
def D__law_row_same : He.DefD := ⟨("_law_row_same", none), "_law_row_same", "_law_row_same", defArgs s__law_row_same, defBody s__law_row_same, defScope s__law_row_same, [], []⟩
def D__law_rows_same : He.DefD := ⟨("_law_rows_same", none), "_law_rows_same", "_law_rows_same", defArgs s__law_rows_same, defBody s__law_rows_same, defScope s__law_rows_same, [], []⟩
def D__law_light : He.DefD := ⟨("_law_light", none), "_law_light", "_law_light", defArgs s__law_light, defBody s__law_light, defScope s__law_light, [], []⟩
def D__law_lights : He.DefD := ⟨("_law_lights", none), "_law_lights", "_law_lights", defArgs s__law_lights, defBody s__law_lights, defScope s__law_lights, [], []⟩
def D__law_rows : He.DefD := ⟨("_law_rows", none), "_law_rows", "_law_rows", defArgs s__law_rows, defBody s__law_rows, defScope s__law_rows, [], []⟩
def D__law_head : He.DefD := ⟨("_law_head", none), "_law_head", "_law_head", defArgs s__law_head, defBody s__law_head, defScope s__law_head, [], []⟩
def D__law_look_fits : He.DefD := ⟨("_law_look_fits", none), "_law_look_fits", "_law_look_fits", defArgs s__law_look_fits, defBody s__law_look_fits, defScope s__law_look_fits, [], []⟩
def D__law_raised : He.DefD := ⟨("_law_raised", none), "_law_raised", "_law_raised", defArgs s__law_raised, defBody s__law_raised, defScope s__law_raised, [], []⟩
def D_law : He.DefD := ⟨("law", none), "law", "law", defArgs s_law, defBody s_law, defScope s_law, [], []⟩
def fnL : List He.DefD := [dInit, D_is_number, D_is_fraction, D_fraction, D_plus, D_times, D_quotient, D_below, D_mean_of, D_row_with, D_sum_of, D_scores, D_looked_at, D_head_gifts, D_heads_done, D__law_bag, D__law_draw, D__law_of, D__law_like, D__law_gcd, D__law_low, D__law_great, D__law_factor, D__law_number, D__law_is_fraction, D__law_common, D__law_state, D__law_scored, D__law_seen, D__law_after_heads, D__law_same, D__law_row_same, D__law_rows_same, D__law_light, D__law_lights, D__law_rows, D__law_head, D__law_look_fits, D__law_raised, D_law]
def faL : List He.Fa := [.free "len", .free "int", .free "list", .free "tuple", .free "bool", .free "str", .free "dict", .free "isinstance", .free "all", .free "range", .free "zip", .free "abs", .free "enumerate", .free "max", .free "sum", .glo "ZERO", .glo "BadValue", .glo "is_number", .glo "is_fraction", .glo "fraction", .glo "plus", .glo "times", .glo "quotient", .glo "below", .glo "mean_of", .glo "row_with", .glo "sum_of", .glo "scores", .glo "looked_at", .glo "head_gifts", .glo "heads_done", .glo "_law_bag", .glo "_law_draw", .glo "_law_of", .glo "_law_like", .glo "_law_gcd", .glo "_law_low", .glo "_law_great", .glo "_law_factor", .glo "_law_number", .glo "_law_is_fraction", .glo "_law_common", .glo "_law_state", .glo "_law_scored", .glo "_law_seen", .glo "_law_after_heads", .glo "_law_same", .glo "_law_row_same", .glo "_law_rows_same", .glo "_law_light", .glo "_law_lights", .glo "_law_rows", .glo "_law_head", .glo "_law_look_fits", .glo "_law_raised", .glo "law", .noat "BadValue" "value", .noat "BadValue" "code"]
theorem fun_ofD {K : PySem.W.Frag} {x q : Str} {st : Stmt} {f : Addr} {fd : FuncData} {kws : List (Str × V)} (F : FunD K x q (defArgs st) (defBody st) (defScope st) [] kws f fd) : Fun K x q st f fd := by
  obtain ⟨oc, od, dV, kV, doc, pm, an, cdv, ct, osl, rfl, lk, hcd, hD, _⟩ := F.ex
  rcases hD with ⟨_, rfl⟩ | ⟨e, _⟩
  · exact ⟨⟨oc, od, kV, doc, pm, an, cdv, ct, osl, rfl, lk, hcd⟩, F.kp⟩
  · exact absurd rfl e
set_option maxHeartbeats 0 in
theorem facts {P : Program} {w : World} {K : PySem.W.Frag} {h : Heap} {mg : Str → Option Value} {f : Addr} (X : K.In h) (G : h.Ns mainGlobals mg) (hfa : mg ("law" : Str) = some (.ref f)) (c : He.SaysX faL fnL [] [] exB w h K) :
    ∃ (fd : FuncData) (cs : List (Addr × Addr)) (sp : Sp), (∀ p ∈ cs, h.get? p.2 = some { cls := .none, data := .fields #[] }) ∧ (∀ p ∈ cs, K.lookup p.2 = none) ∧ (∀ p ∈ cs, PySem.W.CodeHd h p.1 p.2) ∧ (∀ (s : Shared) (u : Value), BindsTo s fd ⟨[u], []⟩ [("script", u)]) ∧
      (∀ (H : Hp) (a : Addr) (ns : List Int), ns.length ≤ 63 → (∀ z ∈ ns, Builtin.Int.intBits z ≤ 1048576) → (∀ p ∈ cs, H p.2 = some (.tbl #[])) → SqL K H a (ns.map V.int) → sp [.ref a] H (fun v _ => v = .bl true) fun _ _ _ => False) ∧
      ∀ base : Heap, K.In base → base.Ns mainGlobals mg → (∀ p ∈ cs, LamX.TabB base mg p.1 p.2) → FnOk P w K mg base CX0 10 f fd ["script"] sp := by
  have d := c.t.d
  have ex := c.more
  obtain ⟨e1, ex⟩ := He.ba ex
  obtain ⟨e2, ex⟩ := He.ba ex
  obtain ⟨e3, ex⟩ := He.ba ex
  obtain ⟨e4, ex⟩ := He.ba ex
  have e5 := ex
  obtain ⟨d_init, FD_init⟩ := d.def_ 0 (d := dInit) rfl
  obtain ⟨d_is_number, FD_is_number⟩ := d.def_ 1 (d := D_is_number) rfl
  obtain ⟨d_is_fraction, FD_is_fraction⟩ := d.def_ 2 (d := D_is_fraction) rfl
  obtain ⟨d_fraction, FD_fraction⟩ := d.def_ 3 (d := D_fraction) rfl
  obtain ⟨d_plus, FD_plus⟩ := d.def_ 4 (d := D_plus) rfl
  obtain ⟨d_times, FD_times⟩ := d.def_ 5 (d := D_times) rfl
  obtain ⟨d_quotient, FD_quotient⟩ := d.def_ 6 (d := D_quotient) rfl
  obtain ⟨d_below, FD_below⟩ := d.def_ 7 (d := D_below) rfl
  obtain ⟨d_mean_of, FD_mean_of⟩ := d.def_ 8 (d := D_mean_of) rfl
  obtain ⟨d_row_with, FD_row_with⟩ := d.def_ 9 (d := D_row_with) rfl
  obtain ⟨d_sum_of, FD_sum_of⟩ := d.def_ 10 (d := D_sum_of) rfl
  obtain ⟨d_scores, FD_scores⟩ := d.def_ 11 (d := D_scores) rfl
  obtain ⟨d_looked_at, FD_looked_at⟩ := d.def_ 12 (d := D_looked_at) rfl
  obtain ⟨d_head_gifts, FD_head_gifts⟩ := d.def_ 13 (d := D_head_gifts) rfl
  obtain ⟨d_heads_done, FD_heads_done⟩ := d.def_ 14 (d := D_heads_done) rfl
  obtain ⟨d__law_bag, FD__law_bag⟩ := d.def_ 15 (d := D__law_bag) rfl
  obtain ⟨d__law_draw, FD__law_draw⟩ := d.def_ 16 (d := D__law_draw) rfl
  obtain ⟨d__law_of, FD__law_of⟩ := d.def_ 17 (d := D__law_of) rfl
  obtain ⟨d__law_like, FD__law_like⟩ := d.def_ 18 (d := D__law_like) rfl
  obtain ⟨d__law_gcd, FD__law_gcd⟩ := d.def_ 19 (d := D__law_gcd) rfl
  obtain ⟨d__law_low, FD__law_low⟩ := d.def_ 20 (d := D__law_low) rfl
  obtain ⟨d__law_great, FD__law_great⟩ := d.def_ 21 (d := D__law_great) rfl
  obtain ⟨d__law_factor, FD__law_factor⟩ := d.def_ 22 (d := D__law_factor) rfl
  obtain ⟨d__law_number, FD__law_number⟩ := d.def_ 23 (d := D__law_number) rfl
  obtain ⟨d__law_is_fraction, FD__law_is_fraction⟩ := d.def_ 24 (d := D__law_is_fraction) rfl
  obtain ⟨d__law_common, FD__law_common⟩ := d.def_ 25 (d := D__law_common) rfl
  obtain ⟨d__law_state, FD__law_state⟩ := d.def_ 26 (d := D__law_state) rfl
  obtain ⟨d__law_scored, FD__law_scored⟩ := d.def_ 27 (d := D__law_scored) rfl
  obtain ⟨d__law_seen, FD__law_seen⟩ := d.def_ 28 (d := D__law_seen) rfl
  obtain ⟨d__law_after_heads, FD__law_after_heads⟩ := d.def_ 29 (d := D__law_after_heads) rfl
  obtain ⟨d__law_same, FD__law_same⟩ := d.def_ 30 (d := D__law_same) rfl
  obtain ⟨d__law_row_same, FD__law_row_same⟩ := d.def_ 31 (d := D__law_row_same) rfl
  obtain ⟨d__law_rows_same, FD__law_rows_same⟩ := d.def_ 32 (d := D__law_rows_same) rfl
  obtain ⟨d__law_light, FD__law_light⟩ := d.def_ 33 (d := D__law_light) rfl
  obtain ⟨d__law_lights, FD__law_lights⟩ := d.def_ 34 (d := D__law_lights) rfl
  obtain ⟨d__law_rows, FD__law_rows⟩ := d.def_ 35 (d := D__law_rows) rfl
  obtain ⟨d__law_head, FD__law_head⟩ := d.def_ 36 (d := D__law_head) rfl
  obtain ⟨d__law_look_fits, FD__law_look_fits⟩ := d.def_ 37 (d := D__law_look_fits) rfl
  obtain ⟨d__law_raised, FD__law_raised⟩ := d.def_ 38 (d := D__law_raised) rfl
  obtain ⟨d_law, FD_law⟩ := d.def_ 39 (d := D_law) rfl
  have F_init : Fun K "__init__" "BadValue.__init__" s_BadValue (bvI K) d_init := fun_ofD FD_init
  have F_is_number : Fun K "is_number" "is_number" s_is_number (He.ga K "is_number") d_is_number := fun_ofD FD_is_number
  have F_is_fraction : Fun K "is_fraction" "is_fraction" s_is_fraction (He.ga K "is_fraction") d_is_fraction := fun_ofD FD_is_fraction
  have F_plus : Fun K "plus" "plus" s_plus (He.ga K "plus") d_plus := fun_ofD FD_plus
  have F_times : Fun K "times" "times" s_times (He.ga K "times") d_times := fun_ofD FD_times
  have F_quotient : Fun K "quotient" "quotient" s_quotient (He.ga K "quotient") d_quotient := fun_ofD FD_quotient
  have F_below : Fun K "below" "below" s_below (He.ga K "below") d_below := fun_ofD FD_below
  have F_mean_of : Fun K "mean_of" "mean_of" s_mean_of (He.ga K "mean_of") d_mean_of := fun_ofD FD_mean_of
  have F_row_with : Fun K "row_with" "row_with" s_row_with (He.ga K "row_with") d_row_with := fun_ofD FD_row_with
  have F_sum_of : Fun K "sum_of" "sum_of" s_sum_of (He.ga K "sum_of") d_sum_of := fun_ofD FD_sum_of
  have F_scores : Fun K "scores" "scores" s_scores (He.ga K "scores") d_scores := fun_ofD FD_scores
  have F_looked_at : Fun K "looked_at" "looked_at" s_looked_at (He.ga K "looked_at") d_looked_at := fun_ofD FD_looked_at
  have F_head_gifts : Fun K "head_gifts" "head_gifts" s_head_gifts (He.ga K "head_gifts") d_head_gifts := fun_ofD FD_head_gifts
  have F_heads_done : Fun K "heads_done" "heads_done" s_heads_done (He.ga K "heads_done") d_heads_done := fun_ofD FD_heads_done
  have F__law_bag : Fun K "_law_bag" "_law_bag" s__law_bag (He.ga K "_law_bag") d__law_bag := fun_ofD FD__law_bag
  have F__law_draw : Fun K "_law_draw" "_law_draw" s__law_draw (He.ga K "_law_draw") d__law_draw := fun_ofD FD__law_draw
  have F__law_of : Fun K "_law_of" "_law_of" s__law_of (He.ga K "_law_of") d__law_of := fun_ofD FD__law_of
  have F__law_like : Fun K "_law_like" "_law_like" s__law_like (He.ga K "_law_like") d__law_like := fun_ofD FD__law_like
  have F__law_gcd : Fun K "_law_gcd" "_law_gcd" s__law_gcd (He.ga K "_law_gcd") d__law_gcd := fun_ofD FD__law_gcd
  have F__law_low : Fun K "_law_low" "_law_low" s__law_low (He.ga K "_law_low") d__law_low := fun_ofD FD__law_low
  have F__law_great : Fun K "_law_great" "_law_great" s__law_great (He.ga K "_law_great") d__law_great := fun_ofD FD__law_great
  have F__law_factor : Fun K "_law_factor" "_law_factor" s__law_factor (He.ga K "_law_factor") d__law_factor := fun_ofD FD__law_factor
  have F__law_number : Fun K "_law_number" "_law_number" s__law_number (He.ga K "_law_number") d__law_number := fun_ofD FD__law_number
  have F__law_is_fraction : Fun K "_law_is_fraction" "_law_is_fraction" s__law_is_fraction (He.ga K "_law_is_fraction") d__law_is_fraction := fun_ofD FD__law_is_fraction
  have F__law_common : Fun K "_law_common" "_law_common" s__law_common (He.ga K "_law_common") d__law_common := fun_ofD FD__law_common
  have F__law_state : Fun K "_law_state" "_law_state" s__law_state (He.ga K "_law_state") d__law_state := fun_ofD FD__law_state
  have F__law_scored : Fun K "_law_scored" "_law_scored" s__law_scored (He.ga K "_law_scored") d__law_scored := fun_ofD FD__law_scored
  have F__law_seen : Fun K "_law_seen" "_law_seen" s__law_seen (He.ga K "_law_seen") d__law_seen := fun_ofD FD__law_seen
  have F__law_after_heads : Fun K "_law_after_heads" "_law_after_heads" s__law_after_heads (He.ga K "_law_after_heads") d__law_after_heads := fun_ofD FD__law_after_heads
  have F__law_same : Fun K "_law_same" "_law_same" s__law_same (He.ga K "_law_same") d__law_same := fun_ofD FD__law_same
  have F__law_row_same : Fun K "_law_row_same" "_law_row_same" s__law_row_same (He.ga K "_law_row_same") d__law_row_same := fun_ofD FD__law_row_same
  have F__law_rows_same : Fun K "_law_rows_same" "_law_rows_same" s__law_rows_same (He.ga K "_law_rows_same") d__law_rows_same := fun_ofD FD__law_rows_same
  have F__law_light : Fun K "_law_light" "_law_light" s__law_light (He.ga K "_law_light") d__law_light := fun_ofD FD__law_light
  have F__law_lights : Fun K "_law_lights" "_law_lights" s__law_lights (He.ga K "_law_lights") d__law_lights := fun_ofD FD__law_lights
  have F__law_rows : Fun K "_law_rows" "_law_rows" s__law_rows (He.ga K "_law_rows") d__law_rows := fun_ofD FD__law_rows
  have F__law_head : Fun K "_law_head" "_law_head" s__law_head (He.ga K "_law_head") d__law_head := fun_ofD FD__law_head
  have F__law_look_fits : Fun K "_law_look_fits" "_law_look_fits" s__law_look_fits (He.ga K "_law_look_fits") d__law_look_fits := fun_ofD FD__law_look_fits
  have F__law_raised : Fun K "_law_raised" "_law_raised" s__law_raised (He.ga K "_law_raised") d__law_raised := fun_ofD FD__law_raised
  have F_law : Fun K "law" "law" s_law (He.ga K "law") d_law := fun_ofD FD_law
  have b_init := F_init.binds (ps := ["self", "value"]) fun _ _ _ _ _ _ us hl => match us, hl with | [_, _], _ => rfl
  have b_is_number := F_is_number.binds (ps := ["value"]) fun _ _ _ _ _ _ us hl => match us, hl with | [_], _ => rfl
  have b_is_fraction := F_is_fraction.binds (ps := ["value"]) fun _ _ _ _ _ _ us hl => match us, hl with | [_], _ => rfl
  have b_plus := F_plus.binds (ps := ["a", "b"]) fun _ _ _ _ _ _ us hl => match us, hl with | [_, _], _ => rfl
  have b_times := F_times.binds (ps := ["a", "b"]) fun _ _ _ _ _ _ us hl => match us, hl with | [_, _], _ => rfl
  have b_quotient := F_quotient.binds (ps := ["a", "b"]) fun _ _ _ _ _ _ us hl => match us, hl with | [_, _], _ => rfl
  have b_below := F_below.binds (ps := ["a", "b"]) fun _ _ _ _ _ _ us hl => match us, hl with | [_, _], _ => rfl
  have b_mean_of := F_mean_of.binds (ps := ["values"]) fun _ _ _ _ _ _ us hl => match us, hl with | [_], _ => rfl
  have b_row_with := F_row_with.binds (ps := ["row", "gifts"]) fun _ _ _ _ _ _ us hl => match us, hl with | [_, _], _ => rfl
  have b_sum_of := F_sum_of.binds (ps := ["row", "entries"]) fun _ _ _ _ _ _ us hl => match us, hl with | [_, _], _ => rfl
  have b_scores := F_scores.binds (ps := ["rows", "head", "at"]) fun _ _ _ _ _ _ us hl => match us, hl with | [_, _, _], _ => rfl
  have b_looked_at := F_looked_at.binds (ps := ["rows", "head", "at"]) fun _ _ _ _ _ _ us hl => match us, hl with | [_, _, _], _ => rfl
  have b_head_gifts := F_head_gifts.binds (ps := ["rows", "head", "at"]) fun _ _ _ _ _ _ us hl => match us, hl with | [_, _, _], _ => rfl
  have b_heads_done := F_heads_done.binds (ps := ["rows", "heads"]) fun _ _ _ _ _ _ us hl => match us, hl with | [_, _], _ => rfl
  have b__law_bag := F__law_bag.binds (ps := ["script"]) fun _ _ _ _ _ _ us hl => match us, hl with | [_], _ => rfl
  have b__law_draw := F__law_draw.binds (ps := ["bag", "many"]) fun _ _ _ _ _ _ us hl => match us, hl with | [_, _], _ => rfl
  have b__law_of := F__law_of.binds (ps := ["bag", "things"]) fun _ _ _ _ _ _ us hl => match us, hl with | [_, _], _ => rfl
  have b__law_like := F__law_like.binds (ps := ["found", "due"]) fun _ _ _ _ _ _ us hl => match us, hl with | [_, _], _ => rfl
  have b__law_gcd := F__law_gcd.binds (ps := ["a", "b"]) fun _ _ _ _ _ _ us hl => match us, hl with | [_, _], _ => rfl
  have b__law_low := F__law_low.binds (ps := ["p", "q"]) fun _ _ _ _ _ _ us hl => match us, hl with | [_, _], _ => rfl
  have b__law_great := F__law_great.binds (ps := ["bag"]) fun _ _ _ _ _ _ us hl => match us, hl with | [_], _ => rfl
  have b__law_factor := F__law_factor.binds (ps := ["bag"]) fun _ _ _ _ _ _ us hl => match us, hl with | [_], _ => rfl
  have b__law_number := F__law_number.binds (ps := ["x"]) fun _ _ _ _ _ _ us hl => match us, hl with | [_], _ => rfl
  have b__law_is_fraction := F__law_is_fraction.binds (ps := ["x"]) fun _ _ _ _ _ _ us hl => match us, hl with | [_], _ => rfl
  have b__law_common := F__law_common.binds (ps := ["parts"]) fun _ _ _ _ _ _ us hl => match us, hl with | [_], _ => rfl
  have b__law_state := F__law_state.binds (ps := ["rows_y"]) fun _ _ _ _ _ _ us hl => match us, hl with | [_], _ => rfl
  have b__law_scored := F__law_scored.binds (ps := ["state", "head_z", "at_z"]) fun _ _ _ _ _ _ us hl => match us, hl with | [_, _, _], _ => rfl
  have b__law_seen := F__law_seen.binds (ps := ["state", "head_z", "at_z"]) fun _ _ _ _ _ _ us hl => match us, hl with | [_, _, _], _ => rfl
  have b__law_after_heads := F__law_after_heads.binds (ps := ["state", "heads_y"]) fun _ _ _ _ _ _ us hl => match us, hl with | [_, _], _ => rfl
  have b__law_same := F__law_same.binds (ps := ["told", "upper", "lower"]) fun _ _ _ _ _ _ us hl => match us, hl with | [_, _, _], _ => rfl
  have b__law_row_same := F__law_row_same.binds (ps := ["told", "row", "lower"]) fun _ _ _ _ _ _ us hl => match us, hl with | [_, _, _], _ => rfl
  have b__law_rows_same := F__law_rows_same.binds (ps := ["told", "state"]) fun _ _ _ _ _ _ us hl => match us, hl with | [_, _], _ => rfl
  have b__law_light := F__law_light.binds (ps := ["bag"]) fun _ _ _ _ _ _ us hl => match us, hl with | [_], _ => rfl
  have b__law_lights := F__law_lights.binds (ps := ["bag", "many", "width", "most"]) fun _ _ _ _ _ _ us hl => match us, hl with | [_, _, _, _], _ => rfl
  have b__law_rows := F__law_rows.binds (ps := ["bag", "many", "width"]) fun _ _ _ _ _ _ us hl => match us, hl with | [_, _, _], _ => rfl
  have b__law_head := F__law_head.binds (ps := ["bag", "width"]) fun _ _ _ _ _ _ us hl => match us, hl with | [_, _], _ => rfl
  have b__law_look_fits := F__law_look_fits.binds (ps := ["bag", "rows_y", "state", "head_z", "at_z"]) fun _ _ _ _ _ _ us hl => match us, hl with | [_, _, _, _, _], _ => rfl
  have b__law_raised := F__law_raised.binds (ps := ["items", "factor"]) fun _ _ _ _ _ _ us hl => match us, hl with | [_, _], _ => rfl
  have b_law := F_law.binds (ps := ["script"]) fun _ _ _ _ _ _ us hl => match us, hl with | [_], _ => rfl
  have b_fraction : Binds K d_fraction ["p", "q"] [] := by
    obtain ⟨ds, hv, hb⟩ := FunD.binds1 (ps := ["p", "q"]) FD_fraction 2 1 (List.cons_ne_nil _ _) rfl fun _ _ _ _ _ _ _ us its h1 h2 => match us, its, h1, h2 with | [_, _], [_], _, _ => ⟨_, rfl, rfl⟩
    cases hv
    exact hb
  have dfl_fraction : ∃ ds, Vals [.int 1] ds ∧ Binds K d_fraction ["p", "q"] ds := FunD.binds1 (ps := ["p", "q"]) FD_fraction 1 0 (List.cons_ne_nil _ _) rfl fun _ _ _ _ _ _ _ us its h1 h2 => match us, its, h1, h2 with | [_], [_], _, _ => ⟨_, rfl, rfl⟩
  have z_scores : KBn K d_scores ["rows", "head", "at"] 0 ["rows", "head", "at"] (fun _ ws => ws) (fun _ zs => zs) := kb_of F_scores (n := 0) (ks := ["rows", "head", "at"]) (ps := ["rows", "head", "at"]) (fun _ ws => ws) (fun _ h => h) fun _ _ _ _ _ _ us ws h1 h2 => match us, ws, h1, h2 with | [], [_, _, _], _, _ => rfl
  have z_looked_at : KBn K d_looked_at ["rows", "head", "at"] 0 ["rows", "head", "at"] (fun _ ws => ws) (fun _ zs => zs) := kb_of F_looked_at (n := 0) (ks := ["rows", "head", "at"]) (ps := ["rows", "head", "at"]) (fun _ ws => ws) (fun _ h => h) fun _ _ _ _ _ _ us ws h1 h2 => match us, ws, h1, h2 with | [], [_, _, _], _, _ => rfl
  have z_heads_done : KBn K d_heads_done ["rows", "heads"] 0 ["rows", "heads"] (fun _ ws => ws) (fun _ zs => zs) := kb_of F_heads_done (n := 0) (ks := ["rows", "heads"]) (ps := ["rows", "heads"]) (fun _ ws => ws) (fun _ h => h) fun _ _ _ _ _ _ us ws h1 h2 => match us, ws, h1, h2 with | [], [_, _], _, _ => rfl
  let T : Txt w K mg := {
    n_len := He.free_ok X G (d.fact 0 (f := .free "len") rfl)
    n_int := He.free_ok X G (d.fact 1 (f := .free "int") rfl)
    n_list := He.free_ok X G (d.fact 2 (f := .free "list") rfl)
    n_tuple := He.free_ok X G (d.fact 3 (f := .free "tuple") rfl)
    n_bool := He.free_ok X G (d.fact 4 (f := .free "bool") rfl)
    n_str := He.free_ok X G (d.fact 5 (f := .free "str") rfl)
    n_dict := He.free_ok X G (d.fact 6 (f := .free "dict") rfl)
    n_isinstance := He.free_ok X G (d.fact 7 (f := .free "isinstance") rfl)
    n_all := He.free_ok X G (d.fact 8 (f := .free "all") rfl)
    n_range := He.free_ok X G (d.fact 9 (f := .free "range") rfl)
    n_zip := He.free_ok X G (d.fact 10 (f := .free "zip") rfl)
    n_abs := He.free_ok X G (d.fact 11 (f := .free "abs") rfl)
    n_enumerate := He.free_ok X G (d.fact 12 (f := .free "enumerate") rfl)
    n_max := He.free_ok X G (d.fact 13 (f := .free "max") rfl)
    n_sum := He.free_ok X G (d.fact 14 (f := .free "sum") rfl)
    m_gcd := PySem.W.mg_of X G (He.eqO_ok e2)
    a_ZERO := He.ga K "ZERO"
    m_ZERO := He.glo_ok X G (d.fact 15 (f := .glo "ZERO") rfl)
    s_ZERO := fun H => He.tupB_ok e5 H
    C_BadValue := bvC K
    f_BadValue := bvI K
    d_BadValue := d_init
    m_BadValue := He.glo_ok X G (d.fact 16 (f := .glo "BadValue") rfl)
    X_BadValue := oexB_ok e1
    i_BadValue := He.eqO_ok e4
    t_BadValue := of_decide_eq_true e3
    F_BadValue := F_init
    B_BadValue__init := b_init
    v_BadValue := He.noat_ok (d.fact 56 (f := .noat "BadValue" "value") rfl)
    c_BadValue := He.noat_ok (d.fact 57 (f := .noat "BadValue" "code") rfl)
    a_is_number := He.ga K "is_number"
    d_is_number := d_is_number
    F_is_number := F_is_number
    m_is_number := He.glo_ok X G (d.fact 17 (f := .glo "is_number") rfl)
    B_is_number := b_is_number
    a_is_fraction := He.ga K "is_fraction"
    d_is_fraction := d_is_fraction
    F_is_fraction := F_is_fraction
    m_is_fraction := He.glo_ok X G (d.fact 18 (f := .glo "is_fraction") rfl)
    B_is_fraction := b_is_fraction
    a_fraction := He.ga K "fraction"
    d_fraction := d_fraction
    F_fraction := FD_fraction
    m_fraction := He.glo_ok X G (d.fact 19 (f := .glo "fraction") rfl)
    B_fraction := b_fraction
    a_plus := He.ga K "plus"
    d_plus := d_plus
    F_plus := F_plus
    m_plus := He.glo_ok X G (d.fact 20 (f := .glo "plus") rfl)
    B_plus := b_plus
    a_times := He.ga K "times"
    d_times := d_times
    F_times := F_times
    m_times := He.glo_ok X G (d.fact 21 (f := .glo "times") rfl)
    B_times := b_times
    a_quotient := He.ga K "quotient"
    d_quotient := d_quotient
    F_quotient := F_quotient
    m_quotient := He.glo_ok X G (d.fact 22 (f := .glo "quotient") rfl)
    B_quotient := b_quotient
    a_below := He.ga K "below"
    d_below := d_below
    F_below := F_below
    m_below := He.glo_ok X G (d.fact 23 (f := .glo "below") rfl)
    B_below := b_below
    a_mean_of := He.ga K "mean_of"
    d_mean_of := d_mean_of
    F_mean_of := F_mean_of
    m_mean_of := He.glo_ok X G (d.fact 24 (f := .glo "mean_of") rfl)
    B_mean_of := b_mean_of
    a_row_with := He.ga K "row_with"
    d_row_with := d_row_with
    F_row_with := F_row_with
    m_row_with := He.glo_ok X G (d.fact 25 (f := .glo "row_with") rfl)
    B_row_with := b_row_with
    a_sum_of := He.ga K "sum_of"
    d_sum_of := d_sum_of
    F_sum_of := F_sum_of
    m_sum_of := He.glo_ok X G (d.fact 26 (f := .glo "sum_of") rfl)
    B_sum_of := b_sum_of
    a_scores := He.ga K "scores"
    d_scores := d_scores
    F_scores := F_scores
    m_scores := He.glo_ok X G (d.fact 27 (f := .glo "scores") rfl)
    B_scores := b_scores
    a_looked_at := He.ga K "looked_at"
    d_looked_at := d_looked_at
    F_looked_at := F_looked_at
    m_looked_at := He.glo_ok X G (d.fact 28 (f := .glo "looked_at") rfl)
    B_looked_at := b_looked_at
    a_head_gifts := He.ga K "head_gifts"
    d_head_gifts := d_head_gifts
    F_head_gifts := F_head_gifts
    m_head_gifts := He.glo_ok X G (d.fact 29 (f := .glo "head_gifts") rfl)
    B_head_gifts := b_head_gifts
    a_heads_done := He.ga K "heads_done"
    d_heads_done := d_heads_done
    F_heads_done := F_heads_done
    m_heads_done := He.glo_ok X G (d.fact 30 (f := .glo "heads_done") rfl)
    B_heads_done := b_heads_done
    a__law_bag := He.ga K "_law_bag"
    d__law_bag := d__law_bag
    F__law_bag := F__law_bag
    m__law_bag := He.glo_ok X G (d.fact 31 (f := .glo "_law_bag") rfl)
    B__law_bag := b__law_bag
    a__law_draw := He.ga K "_law_draw"
    d__law_draw := d__law_draw
    F__law_draw := F__law_draw
    m__law_draw := He.glo_ok X G (d.fact 32 (f := .glo "_law_draw") rfl)
    B__law_draw := b__law_draw
    a__law_of := He.ga K "_law_of"
    d__law_of := d__law_of
    F__law_of := F__law_of
    m__law_of := He.glo_ok X G (d.fact 33 (f := .glo "_law_of") rfl)
    B__law_of := b__law_of
    a__law_like := He.ga K "_law_like"
    d__law_like := d__law_like
    F__law_like := F__law_like
    m__law_like := He.glo_ok X G (d.fact 34 (f := .glo "_law_like") rfl)
    B__law_like := b__law_like
    a__law_gcd := He.ga K "_law_gcd"
    d__law_gcd := d__law_gcd
    F__law_gcd := F__law_gcd
    m__law_gcd := He.glo_ok X G (d.fact 35 (f := .glo "_law_gcd") rfl)
    B__law_gcd := b__law_gcd
    a__law_low := He.ga K "_law_low"
    d__law_low := d__law_low
    F__law_low := F__law_low
    m__law_low := He.glo_ok X G (d.fact 36 (f := .glo "_law_low") rfl)
    B__law_low := b__law_low
    a__law_great := He.ga K "_law_great"
    d__law_great := d__law_great
    F__law_great := F__law_great
    m__law_great := He.glo_ok X G (d.fact 37 (f := .glo "_law_great") rfl)
    B__law_great := b__law_great
    a__law_factor := He.ga K "_law_factor"
    d__law_factor := d__law_factor
    F__law_factor := F__law_factor
    m__law_factor := He.glo_ok X G (d.fact 38 (f := .glo "_law_factor") rfl)
    B__law_factor := b__law_factor
    a__law_number := He.ga K "_law_number"
    d__law_number := d__law_number
    F__law_number := F__law_number
    m__law_number := He.glo_ok X G (d.fact 39 (f := .glo "_law_number") rfl)
    B__law_number := b__law_number
    a__law_is_fraction := He.ga K "_law_is_fraction"
    d__law_is_fraction := d__law_is_fraction
    F__law_is_fraction := F__law_is_fraction
    m__law_is_fraction := He.glo_ok X G (d.fact 40 (f := .glo "_law_is_fraction") rfl)
    B__law_is_fraction := b__law_is_fraction
    a__law_common := He.ga K "_law_common"
    d__law_common := d__law_common
    F__law_common := F__law_common
    m__law_common := He.glo_ok X G (d.fact 41 (f := .glo "_law_common") rfl)
    B__law_common := b__law_common
    a__law_state := He.ga K "_law_state"
    d__law_state := d__law_state
    F__law_state := F__law_state
    m__law_state := He.glo_ok X G (d.fact 42 (f := .glo "_law_state") rfl)
    B__law_state := b__law_state
    a__law_scored := He.ga K "_law_scored"
    d__law_scored := d__law_scored
    F__law_scored := F__law_scored
    m__law_scored := He.glo_ok X G (d.fact 43 (f := .glo "_law_scored") rfl)
    B__law_scored := b__law_scored
    a__law_seen := He.ga K "_law_seen"
    d__law_seen := d__law_seen
    F__law_seen := F__law_seen
    m__law_seen := He.glo_ok X G (d.fact 44 (f := .glo "_law_seen") rfl)
    B__law_seen := b__law_seen
    a__law_after_heads := He.ga K "_law_after_heads"
    d__law_after_heads := d__law_after_heads
    F__law_after_heads := F__law_after_heads
    m__law_after_heads := He.glo_ok X G (d.fact 45 (f := .glo "_law_after_heads") rfl)
    B__law_after_heads := b__law_after_heads
    a__law_same := He.ga K "_law_same"
    d__law_same := d__law_same
    F__law_same := F__law_same
    m__law_same := He.glo_ok X G (d.fact 46 (f := .glo "_law_same") rfl)
    B__law_same := b__law_same
    a__law_row_same := He.ga K "_law_row_same"
    d__law_row_same := d__law_row_same
    F__law_row_same := F__law_row_same
    m__law_row_same := He.glo_ok X G (d.fact 47 (f := .glo "_law_row_same") rfl)
    B__law_row_same := b__law_row_same
    a__law_rows_same := He.ga K "_law_rows_same"
    d__law_rows_same := d__law_rows_same
    F__law_rows_same := F__law_rows_same
    m__law_rows_same := He.glo_ok X G (d.fact 48 (f := .glo "_law_rows_same") rfl)
    B__law_rows_same := b__law_rows_same
    a__law_light := He.ga K "_law_light"
    d__law_light := d__law_light
    F__law_light := F__law_light
    m__law_light := He.glo_ok X G (d.fact 49 (f := .glo "_law_light") rfl)
    B__law_light := b__law_light
    a__law_lights := He.ga K "_law_lights"
    d__law_lights := d__law_lights
    F__law_lights := F__law_lights
    m__law_lights := He.glo_ok X G (d.fact 50 (f := .glo "_law_lights") rfl)
    B__law_lights := b__law_lights
    a__law_rows := He.ga K "_law_rows"
    d__law_rows := d__law_rows
    F__law_rows := F__law_rows
    m__law_rows := He.glo_ok X G (d.fact 51 (f := .glo "_law_rows") rfl)
    B__law_rows := b__law_rows
    a__law_head := He.ga K "_law_head"
    d__law_head := d__law_head
    F__law_head := F__law_head
    m__law_head := He.glo_ok X G (d.fact 52 (f := .glo "_law_head") rfl)
    B__law_head := b__law_head
    a__law_look_fits := He.ga K "_law_look_fits"
    d__law_look_fits := d__law_look_fits
    F__law_look_fits := F__law_look_fits
    m__law_look_fits := He.glo_ok X G (d.fact 53 (f := .glo "_law_look_fits") rfl)
    B__law_look_fits := b__law_look_fits
    a__law_raised := He.ga K "_law_raised"
    d__law_raised := d__law_raised
    F__law_raised := F__law_raised
    m__law_raised := He.glo_ok X G (d.fact 54 (f := .glo "_law_raised") rfl)
    B__law_raised := b__law_raised
    a_law := He.ga K "law"
    d_law := d_law
    F_law := F_law
    m_law := He.glo_ok X G (d.fact 55 (f := .glo "law") rfl)
    B_law := b_law
    Z_scores := z_scores
    Z_looked_at := z_looked_at
    Z_heads_done := z_heads_done
  }
  have ef : f = He.ga K "law" := by
    have e := hfa.symm.trans T.m_law
    cases e
    rfl
  refine ⟨d_law, [], sp_law K, fun p hp => absurd hp (by simp), fun p hp => absurd hp (by simp), fun p hp => absurd hp (by simp), fun s u => FunD.bindsA (ps := ["script"]) FD_law (fun _ _ _ _ _ _ us hl => match us, hl with | [_], _ => rfl) s [u] rfl, fun H a ns hl _ hT hS => ⟨a, ns, rfl, hS, hl, fun _ => rfl⟩, fun base _ _ hB => ?_⟩
  rw [ef]
  exact ok_law (P := P) (base := base) T
/-! ### the head's run -/
abbrev R : PySem.W.OpenRow := PySem.W.OpenLaw.row PySem.Challenge.rw_lookingnets_k18_whole_scores_and_looks
abbrev hk : PySem.W.Hook := He.hookX 6 faL fnL [] [] exB
def ob (s : PySem.W.SharedT) : He.AlX := He.obsX 6 faL fnL [] [] exB (HandSHeadRun.getT s)
theorem ob_eq (s : PySem.W.SharedT) : ob s = hk.obs s.abs := He.obsX_eq (HandSHeadRun.getT_eq s)
def loose : List Str := (["NetError", "BadValue", "ZERO", "is_number", "is_fraction", "fraction", "plus", "times", "quotient", "below", "mean_of", "row_with", "sum_of", "scores", "looked_at", "head_gifts"] : List Str) ++ (["heads_done", "_law_bag", "_law_draw", "_law_of", "_law_like", "_law_gcd", "_law_low", "_law_great", "_law_factor", "_law_number", "_law_is_fraction", "_law_common", "_law_state", "_law_scored", "_law_seen", "_law_after_heads"] : List Str) ++ (["_law_same", "_law_row_same", "_law_rows_same", "_law_light", "_law_lights", "_law_rows", "_law_head", "_law_look_fits", "_law_raised"] : List Str)
set_option maxHeartbeats 0 in
theorem run (w : World) : HandSHeadRun.RunEqI R (PySem.W.view R.prog [0, 46]) hk ob 20000 loose w := by
  unfold HandSHeadRun.RunEqI
  kernel_rfl
end LK

open PySem PySem.W PySem.Calls PyProof.Rows
set_option maxRecDepth 100000 in
set_option maxHeartbeats 0 in
theorem PySem.Challenge.cw_lookingnets_k18_whole_scores_and_looks_holds : PySem.Challenge.rw_lookingnets_k18_whole_scores_and_looks.Holds := by
  w_on; o_law
  refine HandSHeadRun.head_imp (r := OpenLaw.row PySem.Challenge.rw_lookingnets_k18_whole_scores_and_looks) (q := view (OpenLaw.row PySem.Challenge.rw_lookingnets_k18_whole_scores_and_looks).prog [0, 46]) (H := LK.hk) (ob := LK.ob) (M := 20000) (loose := LK.loose) (d := HandSHeadRun.topDef (OpenLaw.row PySem.Challenge.rw_lookingnets_k18_whole_scores_and_looks).prog 46) (kwd := []) LK.ob_eq
    LK.run (by kernel_rfl) (by kernel_rfl) (by kernel_rfl) (by rfl) (by first | assumption | decide +kernel) (by decide +kernel) ⟨rfl, rfl, rfl, rfl, rfl, by decide +kernel⟩ ?hw ?hc
  case hw => w_witness2
  case hc =>
    refine LamX.walk_ofTsE (l := PySem.Challenge.rw_lookingnets_k18_whole_scores_and_looks) (n := 63) (k := 10) (x := "script") (CX := fun _ => L2.CX0) rfl (by decide) (by kernel_rfl) ⟨rfl, by decide, by decide⟩ ?F (fun _ _ _ _ _ z => z)
    intro w mg fa h Y G hmg0
    obtain ⟨K, KX, c⟩ := Y
    have hmg : mg ("law" : PySem.Str) = some (.ref fa) := by
      have e : (HandSHeadRun.topDef (OpenLaw.row PySem.Challenge.rw_lookingnets_k18_whole_scores_and_looks).prog 46).name = ("law" : PySem.Str) := by kernel_rfl
      rw [← e]
      exact hmg0
    exact ⟨K, KX, LK.facts KX G hmg c⟩
