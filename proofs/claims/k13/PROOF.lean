import PyProof.Rows.All
import Wide.All
import OpenK.AllK
import Wide.FinOn
import HandS.ForMost
import HandS.IsInst
import HandS.Zip
import HandS.TupAny
import HandS.Style
import HandS.More
import HandS.Defaults
import HandS.Walk
import KE.GoesMore
import HandS.Deep
import HandS.TupSets
import HandS.Conv
import HandS.ExcInit
import HandS.Gcd
import HandS.Wide
import HandS.WordsExc
import HandS.HeadHook4
import HandS.HeadWalk
import HandS.Head2
import HandS.Head3
import HandS.Lambda
import PySem.Challenge.RW_lookingnets_k13_normal_forms
set_option Elab.async false
set_option linter.all false
set_option maxRecDepth 100000
namespace LK
open PySem PySem.Spec PyProof.Rows L2
/-! ### heaps but for one object -/
def hb (H : Hp) (b : Addr) : Hp := fun a => if a = b then none else H a
theorem hb_ne {H : Hp} {a b : Addr} (h : a ≠ b) : hb H b a = H a := if_neg h
theorem hb_same {H : Hp} {b : Addr} : hb H b b = none := if_pos rfl
theorem hb_some {H : Hp} {a b : Addr} {o : HO} (h : hb H b a = some o) : a ≠ b ∧ H a = some o := by
  unfold hb at h
  split at h
  · cases h
  · exact ⟨by assumption, h⟩
theorem hb_le (H : Hp) (b : Addr) : Same (hb H b) H := fun _ _ h => (hb_some h).2
/-- all but b stays -/
abbrev Kp (b : Addr) (H H' : Hp) : Prop := Same (hb H b) (hb H' b)
theorem Kp.of {b : Addr} {H H' : Hp} (s : Same H H') : Kp b H H' := fun a o h => by
  obtain ⟨h1, h2⟩ := hb_some h
  rw [hb_ne h1]
  exact s _ _ h2
theorem Kp.refl (b : Addr) (H : Hp) : Kp b H H := Same.refl _
theorem Kp.upd {b : Addr} {H : Hp} {o : HO} : Kp b H (upd H b o) := fun a u h => by
  obtain ⟨h1, h2⟩ := hb_some h
  rw [hb_ne h1, upd_ne h1]
  exact h2
theorem Kp.hd {b a : Addr} {H H' : Hp} {o : HO} (k : Kp b H H') (h : H a = some o) (n : a ≠ b) : H' a = some o := (hb_some (k a o (by rw [hb_ne n]; exact h))).2
/-- a new object -/
theorem al {H : Hp} {R : Addr → Hp → Prop} {o : HO} (h : ∀ p H1, Same H H1 → H1 p = some o → H p = none → R p H1) : ∀ p, H p = none → R p (upd H p o) := fun p hp =>
  h p _ (fun a u e => by rw [upd_ne (ne_of_none e hp)]; exact e) upd_same hp
theorem same_upd {H : Hp} {p : Addr} {o : HO} (hp : H p = none) : Same H (upd H p o) := fun a u e => by rw [upd_ne (ne_of_none e hp)]; exact e
theorem at_ofN {α : Type} {xs : List α} {z : Int} {j : Nat} {v : α} (e : z = (j : Int)) (h : xs[j]? = some v) : atI xs z = some v := by
  subst e
  exact atI_nat h
/-! ### the bag of a law -/
def Bag (N : Nat) (H : Hp) (b c : Addr) : Prop := ∃ (cells : List Int) (i g m n : Int), H b = some (.lst [.ref c, .int i, .int g, .int m, .int n]) ∧ H c = some (.lst (cells.map V.int)) ∧ c ≠ b ∧ 0 ≤ i ∧ 0 ≤ m ∧ m < 2305843009213693951 ∧ 0 ≤ n ∧ n + N ≤ 1099511627776
theorem Bag.le {N M : Nat} {H : Hp} {b c : Addr} (B : Bag N H b c) (h : M ≤ N) : Bag M H b c := by
  obtain ⟨cells, i, g, m, n, h1, h2, h3, h4, h5, h6, h7, h8⟩ := B
  exact ⟨cells, i, g, m, n, h1, h2, h3, h4, h5, h6, h7, by omega⟩
theorem Bag.same {N : Nat} {H H' : Hp} {b c : Addr} (B : Bag N H b c) (s : Same H H') : Bag N H' b c := by
  obtain ⟨cells, i, g, m, n, h1, h2, h3⟩ := B
  exact ⟨cells, i, g, m, n, s _ _ h1, s _ _ h2, h3⟩
theorem Bag.at {N : Nat} {H : Hp} {b c : Addr} (B : Bag N H b c) : ∃ xs, H b = some (.lst xs) := by
  obtain ⟨cells, i, g, m, n, h1, _⟩ := B
  exact ⟨_, h1⟩
theorem Bag.at2 {N : Nat} {H : Hp} {b c : Addr} (B : Bag N H b c) : ∃ xs, H c = some (.lst xs) := by
  obtain ⟨cells, i, g, m, n, h1, h2, _⟩ := B
  exact ⟨_, h2⟩
/-- another object is stored -/
theorem Bag.upd {N : Nat} {H : Hp} {b c p : Addr} {o : HO} (B : Bag N H b c) (n1 : b ≠ p) (n2 : c ≠ p) : Bag N (upd H p o) b c := by
  obtain ⟨cells, i, g, m, n, h1, h2, h3⟩ := B
  exact ⟨cells, i, g, m, n, by rw [upd_ne n1]; exact h1, by rw [upd_ne n2]; exact h2, h3⟩
/-- a new object beside a bag -/
theorem alB {N : Nat} {H : Hp} {R : Addr → Hp → Prop} {o : HO} {b c : Addr} (B : Bag N H b c) (h : ∀ p H1, Kp b H H1 → Bag N H1 b c → hb H1 b p = some o → Same H H1 → H p = none → R p H1) : ∀ p, H p = none → R p (upd H p o) :=
  al fun p H1 s h1 h0 => h p H1 (Kp.of s) (B.same s) (by
    have n : p ≠ b := fun e => by
      obtain ⟨xs, q⟩ := B.at
      rw [e, q] at h0; cases h0
    rw [hb_ne n]; exact h1) s h0
/-! ### data -/
theorem Same.seqT {K : PySem.W.Frag} {H H' : Hp} {a : Addr} {xs : List V} (e : Same H H') (h : SqT K H a xs) : SqT K H' a xs := by
  rcases h with (h | ⟨o, h⟩) | h
  · exact .inl (.inl (e _ _ h))
  · exact .inl (.inr ⟨o, e _ _ h⟩)
  · exact .inr h
mutual
theorem dp_same {K : PySem.W.Frag} {H H' : Hp} (e : Same H H') : ∀ {d : PyData} {v : V}, Dp K H v d → Dp K H' v d
  | .none, _, h => by cases h; exact .non
  | .bool _, _, h => by cases h; exact .bl _
  | .int _, _, h => by cases h; exact .int _
  | .str _, _, h => by cases h; exact .str _
  | .list ds, _, h => by cases h with | lst a b => exact .lst (L2.Same.seq e a) (dpa_same e b)
  | .tuple ds, _, h => by cases h with | tup a b => exact .tup (Same.seqT e a) (dpa_same e b)
  | .dict _, _, h => by cases h
theorem dpa_same {K : PySem.W.Frag} {H H' : Hp} (e : Same H H') : ∀ {ds : List PyData} {vs : List V}, DpAll K H vs ds → DpAll K H' vs ds
  | [], _, h => by cases h; exact .nil
  | _ :: _, _, h => by cases h with | cons a b => exact .cons (dp_same e a) (dpa_same e b)
end
end LK
namespace LK
open PySem PySem.Spec PyProof.Rows L2
section
variable {CX : CXT} {P : Program} {w : World} {K : PySem.W.Frag} {mg : Str → Option Value} {base : Heap} {N : List Str} {q : Str} {sc : Scope} {f : Addr} {cd : Value} {A : Around} {outer : List Env} {s : Shared} {H : Hp} {E : XK}
theorem cxK : (cxOf CX P w K mg base N q sc f cd A outer s H E).K = K := rfl
theorem cxNK : (cxOf CX P w K mg base N q sc f cd A outer s H E).nox.K = K := rfl
theorem cxW : (cxOf CX P w K mg base N q sc f cd A outer s H E).w = w := rfl
end
theorem cut_seq {t u : TS} {D : Ends} {σ : L2.St} {H : Hp} (Mid : L2.St → Hp → Prop) (h1 : ∀ N : L2.St → Hp → Prop, (∀ σ' H', Mid σ' H' → N σ' H') → t { D with nx := N } σ H) (h2 : ∀ σ' H', Mid σ' H' → u D σ' H') : tSeq t u D σ H := h1 _ h2
end LK
namespace LK
open PySem PySem.Spec PyProof.Rows L2
theorem seq_op {t u : TS} {D : Ends} {σ : L2.St} {H : Hp} (h : ∀ N : L2.St → Hp → Prop, (∀ σ' H', u D σ' H' → N σ' H') → t { D with nx := N } σ H) : tSeq t u D σ H := h _ fun _ _ z => z
end LK
namespace LK
open PySem PySem.Spec PyProof.Rows L2
section
variable {X : Cx}
theorem opr_imp {f : Value → Value → Sem Value} {r r' : R2} (h : OpR X f r) (i : ∀ x y H Q, r' x y H Q → r x y H Q) : OpR X f r' := fun pins s σ H x y v u Q I rx ry q => h pins s σ H x y v u Q I rx ry (i _ _ _ _ q)
theorem cr_imp {f : Value} {r r' : List V → Hp → VK → Prop} (h : CallR X f r) (i : ∀ x H Q, r' x H Q → r x H Q) : CallR X f r' := fun pins s σ H xs us Q I rx q => h pins s σ H xs us Q I rx (i _ _ _ q)
theorem op_eqI : OpR X (compareOp .Eq) (rI0 fun i j => .bl (decide (i = j))) := opr_imp op_eq fun x y H Q h => by
  obtain ⟨i, j, rfl, rfl, q⟩ := h
  refine ⟨rfl, ?_⟩
  rw [L2.dec_int, Bool.beq_eq_decide_eq]; exact q
theorem op_neI : OpR X (compareOp .NotEq) (rI0 fun i j => .bl (!decide (i = j))) := opr_imp op_ne fun x y H Q h => by
  obtain ⟨i, j, rfl, rfl, q⟩ := h
  refine ⟨rfl, ?_⟩
  rw [L2.dec_int, Bool.beq_eq_decide_eq]; exact q
def rS0 (g : Str → Str → V) : R2 := fun x y H Q => ∃ i j, x = .str i ∧ y = .str j ∧ Q (g i j) H
theorem op_eqS : OpR X (compareOp .Eq) (rS0 fun i j => .bl (decide (i = j))) := opr_imp op_eq fun x y H Q h => by
  obtain ⟨i, j, rfl, rfl, q⟩ := h
  refine ⟨rfl, ?_⟩
  have e : decide (V.str i = V.str j) = decide (i = j) := by
    by_cases c : i = j
    · subst c; simp
    · rw [decide_eq_false c, decide_eq_false (fun z => c (V.str.inj z))]
  rw [e]; exact q
theorem op_neS : OpR X (compareOp .NotEq) (rS0 fun i j => .bl (!decide (i = j))) := opr_imp op_ne fun x y H Q h => by
  obtain ⟨i, j, rfl, rfl, q⟩ := h
  refine ⟨rfl, ?_⟩
  have e : decide (V.str i = V.str j) = decide (i = j) := by
    by_cases c : i = j
    · subst c; simp
    · rw [decide_eq_false c, decide_eq_false (fun z => c (V.str.inj z))]
  rw [e]; exact q
def rB0 (g : Bool → Bool → V) : R2 := fun x y H Q => ∃ i j, x = .bl i ∧ y = .bl j ∧ Q (g i j) H
theorem op_eqB : OpR X (compareOp .Eq) (rB0 fun i j => .bl (i == j)) := opr_imp op_eq fun x y H Q h => by
  obtain ⟨i, j, rfl, rfl, q⟩ := h
  refine ⟨rfl, ?_⟩
  rw [L2.dec_bl]; exact q
theorem op_neB : OpR X (compareOp .NotEq) (rB0 fun i j => .bl (!(i == j))) := opr_imp op_ne fun x y H Q h => by
  obtain ⟨i, j, rfl, rfl, q⟩ := h
  refine ⟨rfl, ?_⟩
  rw [L2.dec_bl]; exact q
/-- int(n) of an int -/
theorem call_intI : CallR X (.type "int") (fun xs H Q => ∃ i, xs = [.int i] ∧ Q (.int i) H) := cr_imp call_int1 fun xs H Q h => .inl h
end
end LK
namespace LK
open PySem PySem.Spec PyProof.Rows L2
/-! ### isinstance of data -/
def tyN : PyData → String
  | .none => "NoneType" | .bool _ => "bool" | .int _ => "int" | .str _ => "str" | .list _ => "list" | .tuple _ => "tuple" | .dict _ => "dict"
def isTy (T : String) : PyData → Bool
  | .none => false | .bool _ => T == "bool" || T == "int" | .int _ => T == "int" | .str _ => T == "str" | .list _ => T == "list" | .tuple _ => T == "tuple" | .dict _ => false
theorem dp_ty {K : PySem.W.Frag} {H : Hp} {v : V} {d : PyData} (h : Dp K H v d) : TyX K H v (.type (tyN d)) := by
  cases h with
  | non => exact .base .non
  | bl b => exact .base (.bl b)
  | int i => exact .base (.int i)
  | str x => exact .base (.str x)
  | lst hs _ =>
    rcases hs with (h | ⟨o, h⟩) | ⟨o, its, n, h1, h2, _⟩
    · exact .base (.lst h)
    · exact .base (.frz h)
    · exact .kList h1 h2
  | tup hs _ =>
    rcases hs with (h | ⟨o, h⟩) | ⟨o, its, n, h1, h2, _⟩
    · exact .base (.tup h)
    · exact .fTuple h
    · exact .kTuple h1 h2
theorem dp_kit {K : PySem.W.Frag} {H : Hp} {v : V} {d : PyData} (h : Dp K H v d) {T : String} (hT : T ∈ ["str", "int", "bool", "list", "tuple"]) : PySem.W.kitOne K (.type (tyN d)) (.type T) = some (isTy T d) := by
  refine kit_ty ?_
  simp only [List.mem_cons, List.mem_nil_iff, or_false] at hT
  cases h <;> rcases hT with rfl | rfl | rfl | rfl | rfl <;> (simp only [tyN, isTy]; decide +kernel)
section
variable {X : Cx}
theorem call_isiD : CallR X (.builtin "isinstance") (fun xs H Q => ∃ x T d, xs = [x, .ty T] ∧ Dp X.K H x d ∧ T ∈ ["str", "int", "bool", "list", "tuple"] ∧ Q (.bl (isTy T d)) H) := cr_imp call_isi fun xs H Q h => by
  obtain ⟨x, T, d, rfl, hd, hT, q⟩ := h
  exact ⟨x, .ty T, _, _, _, rfl, .ty T, dp_ty hd, dp_kit hd hT, q⟩
theorem call_isiDT : CallR X (.builtin "isinstance") (fun xs H Q => ∃ x tp d, xs = [x, .ref tp] ∧ H tp = some (.tup [.ty "list", .ty "tuple"]) ∧ Dp X.K H x d ∧ Q (.bl (isTy "list" d || isTy "tuple" d)) H) := cr_imp call_isiT fun xs H Q h => by
  obtain ⟨x, tp, d, rfl, ht, hd, q⟩ := h
  refine ⟨x, tp, _, .type (tyN d), [.type "list", .type "tuple"], _, rfl, ht, .cons (.ty _) (.cons (.ty _) .nil), dp_ty hd, ?_, q⟩
  have h1 := dp_kit hd (T := "list") (by simp)
  have h2 := dp_kit hd (T := "tuple") (by simp)
  unfold PySem.W.kitAny PySem.W.kitAny PySem.W.kitAny
  rw [h1, h2]
  cases isTy "list" d <;> cases isTy "tuple" d <;> rfl
/-- len of data -/
theorem call_lenD : CallR X (.builtin "len") (fun xs H Q => ∃ x d, xs = [x] ∧ Dp X.K H x d ∧ ((∃ ds, (d = .list ds ∨ d = .tuple ds) ∧ Q (.int ds.length) H) ∨ ∃ z, d = .str z ∧ z.length ≤ sizeLine ∧ Q (.int z.length) H)) := cr_imp call_len fun xs H Q h => by
  obtain ⟨x, d, rfl, hd, ⟨ds, e, q⟩ | ⟨z, rfl, hz, q⟩⟩ := h
  · have ln : ∀ {vs : List V} {es : List PyData}, DpAll X.K H vs es → vs.length = es.length := by
      intro vs es h
      induction es generalizing vs with
      | nil => cases h; rfl
      | cons a r ih => cases h with | cons _ h2 => simp [ih h2]
    rcases e with rfl | rfl
    · cases hd with
      | lst hs ha => exact ⟨_, ds.length, rfl, .inl ⟨_, hs, (ln ha).symm⟩, q⟩
    · cases hd with
      | tup hs ha => exact ⟨_, ds.length, rfl, .inr ⟨_, hs, (ln ha).symm⟩, q⟩
  · cases hd
    exact ⟨_, z.length, rfl, ⟨hz, rfl⟩, q⟩
/-- t[lo:hi] of a tuple: some tuple of that content -/
def rSlU (K : PySem.W.Frag) : V → Option Int → Option Int → Hp → VK → Prop := fun x lo hi H Q => ∃ a xs, x = .ref a ∧ SqT K H a xs ∧ ∀ q H', Same H H' → SqT K H' q (cutV xs lo hi) → Q (.ref q) H'
theorem sl_tupU : SlR X (rSlU X.K) := by
  intro pins s σ H x v vl vu lo hi sl Q I rx hs pl pu h
  obtain ⟨a, xs, rfl, hx, q⟩ := h
  refine sl_tupA pins s σ H _ v vl vu lo hi sl Q I rx hs pl pu ⟨a, xs, rfl, hx, fun hw => q a H (Same.refl H) ?_, fun hw p hp => q p _ (fun b o e => ?_) (.inl (.inl upd_same))⟩
  · have e : cutV xs lo hi = xs := by
      unfold cutV
      rw [hw.1, hw.2]
      simp
    rw [e]; exact hx
  · rw [upd_ne (ne_of_none e hp)]; exact e
def rCatU (K : PySem.W.Frag) : R2 := fun x y H Q => ∃ a b xs ys, x = .ref a ∧ y = .ref b ∧ SqT K H a xs ∧ SqT K H b ys ∧ xs.length + ys.length ≤ sizeLine ∧ ∀ q H', Same H H' → SqT K H' q (xs ++ ys) → Q (.ref q) H'
theorem op_catU : OpR X (binaryOp .Add) (rCatU X.K) := opr_imp op_catA fun x y H Q h => by
  obtain ⟨a, b, xs, ys, rfl, rfl, ha, hb, hz, q⟩ := h
  refine ⟨a, b, xs, ys, rfl, rfl, ha, hb, hz, fun e => q b H (Same.refl H) ?_, fun _ e => q a H (Same.refl H) ?_, fun _ _ p hp => q p _ (fun c o e => ?_) (.inl (.inl upd_same))⟩
  · subst e; exact hb
  · subst e; rw [List.append_nil]; exact ha
  · rw [upd_ne (ne_of_none e hp)]; exact e
/-- tuple(x) of a list or tuple -/
theorem call_tupleU : CallR X (.type "tuple") (fun xs H Q => ∃ p ys, xs = [.ref p] ∧ (SqL X.K H p ys ∨ SqT X.K H p ys) ∧ ∀ q H', Same H H' → SqT X.K H' q ys → Q (.ref q) H') := cr_imp call_tuple_of fun xs H Q h => by
  obtain ⟨p, ys, rfl, h, q⟩ := h
  refine ⟨p, ys, rfl, ?_⟩
  rcases h with h | h
  · exact .inl ⟨h, fun l hl => q l _ (fun c o e => by rw [upd_ne (ne_of_none e hl)]; exact e) (.inl (.inl upd_same))⟩
  · exact .inr ⟨h, q p H (Same.refl H) h⟩
end
/-! ### calls by keywords alone -/
def tCallZ (m : Nat) (sp : Sp) (gV : List V → List V) (E : XK) (tk : TA) : TE := fun σ H Q => tk σ H fun zs H2 => zs.length = m ∧ sp (gV zs) H2 Q E
section
variable {X : Cx} {CX : CXT} {k : Nat} {f : Addr} {fd : FuncData} {ps ks : List Str} {sp : Sp} {E : XK} {x : Str} {p pos : Pos} {kws : List Keyword} {tk : TA} {g : List Value → List Value} {gV : List V → List V}
/-- f(k = v, ..) -/
theorem pe_callZ (F : FnOk X.prog X.w X.K X.mg X.base CX k f fd ps sp) (hr : Room k X.A) (hg : Gl X x) (hm : X.mg x = some (.ref f)) (hk : PySem.W.keepIn X.K (.ref f) = true) (hb : KBn X.K fd ps 0 ks (fun _ ws => g ws) (fun _ zs => gV zs)) (hx : Passes CX X E)
    (hkw : PK X kws tk) (hall : (backToKw pos (keywordEach kws X.env)).all (·.1.isSome) = true := by rfl) (hks : (backToKw pos (keywordEach kws X.env)).filterMap (·.1) = ks := by rfl)
    (hdb : (x == ("__debug__" : Str)) = false := by decide)
    (hpl : ((backTo pos (starEach [] X.env)).any (·.1) || (backToKw pos (keywordEach kws X.env)).any (·.1.isNone)) = false := by rfl) :
    PE X (.Call (.Name x p) [] kws pos) (tCallZ ks.length sp gV E tk) := by
  refine ⟨fun pins s σ H Q I h => ?_⟩
  refine wpAny_Call_Name_kw (ld_glob I hg hm ?_ hdb)
  refine PySem.W.callWith_KW0 (h₀ := X.base) I.ok.mod.kin hk hall (thn (hkw.run pos pins s σ H _ I h) fun ws s2 ⟨zs, H2, I2, rz, l2, q2⟩ => ⟨I2.kIn, ?_⟩) hpl
  rw [hks]
  exact run_fnN F hr hb hx I2 .nil rz rfl l2 q2
end
theorem kb_of {K : PySem.W.Frag} {x qual : Str} {st : Stmt} {f : Addr} {fd : FuncData} {ps : List Str} (F : Fun K x qual st f fd) {n : Nat} {ks : List Str} (g : {α : Type} → List α → List α → List α)
    (hrel : ∀ {vs zs : List V} {us ws : List Value}, Vals vs us → Vals zs ws → Vals (g vs zs) (g us ws))
    (h : ∀ (kV doc pm : Value) (an : Option Addr) (cdv ct : Value) (us ws : List Value), us.length = n → ws.length = ks.length → bindArgs (PySem.W.fnOf x qual (defArgs st) (defBody st) (defScope st) .none kV doc pm an cdv ct) ⟨us, ks.zip ws⟩ = pure (ps.zip (g us ws))) : KBn K fd ps n ks (fun us ws => g us ws) (fun vs zs => g vs zs) := by
  obtain ⟨oc, od, kV, doc, pm, an, cdv, ct, osl, rfl, lk, hcd⟩ := F.ex
  exact ⟨fun s us ws _ l1 l2 => .of_eq (h kV doc pm an cdv ct us ws l1 l2), hrel⟩
end LK

namespace LK
open PySem PySem.Spec PyProof.Rows L2
/-! ### t[::-1] of a tuple -/
theorem fm_map {α β : Type} {f : α → Option β} {g : α → β} : ∀ {l : List α}, (∀ m ∈ l, f m = some (g m)) → l.filterMap f = l.map g
  | [], _ => rfl
  | a :: l, h => by
    rw [List.filterMap_cons, h a List.mem_cons_self]
    exact congrArg (g a :: ·) (fm_map fun m hm => h m (List.mem_cons_of_mem _ hm))
theorem rev_pick (xs : Array Value) : ((List.range xs.size).filterMap fun (m : Nat) => xs[(((xs.size : Int) - 1) + (m : Int) * (-1)).toNat]?).toArray = xs.toList.reverse.toArray := by
  have e : ((List.range xs.size).filterMap fun (m : Nat) => xs[(((xs.size : Int) - 1) + (m : Int) * (-1)).toNat]?) = xs.toList.reverse := by
    have h : ∀ m ∈ List.range xs.size, (xs[(((xs.size : Int) - 1) + (m : Int) * (-1)).toNat]?) = some (xs.toList.reverse.getD m .none) := by
      intro m hm
      have hm := List.mem_range.mp hm
      have e1 : (((xs.size : Int) - 1) + (m : Int) * (-1)).toNat = xs.size - 1 - m := by omega
      rw [e1, List.getD_eq_getElem?_getD, List.getElem?_reverse (by simpa using hm)]
      rw [Array.getElem?_eq_getElem (by omega), Array.length_toList, List.getElem?_eq_getElem (by rw [Array.length_toList]; omega)]
      rfl
    rw [fm_map h]
    refine List.ext_getElem? fun i => ?_
    rw [List.getElem?_map]
    by_cases hi : i < xs.size
    · rw [List.getElem?_range hi, List.getElem?_eq_getElem (by simpa using hi)]
      simp [List.getElem?_eq_getElem, hi]
    · rw [List.getElem?_eq_none (by simpa using hi), List.getElem?_eq_none (by simpa using hi)]
      rfl
  rw [e]
section
variable {prog : Program} {w : World} {A : Around} {E : Value → Shared → Prop} {s : Shared}
theorem sliceApplied_rev {sl : Addr} {vl vu vs : Value} {n : Nat} {Q : Int × Int × Nat → Shared → Prop} (hs : s.heap.IsSliceOf sl vl vu vs) (pl : IsPart vl none) (pu : IsPart vu none) (ps : IsPart vs (some (-1)))
    (h : Q ((n : Int) - 1, -1, n) s) : wpAny (model prog w) A (Builtin.Slice.sliceApplied (.ref sl) (pure (n : Int))) Q E s := by
  obtain ⟨os, hos, hcs, hds⟩ := id hs
  unfold Builtin.Slice.sliceApplied Builtin.Slice.sliceFields
  refine wpAny_bind (wpAny_bind (wpAny_field hos hds (x := vl) rfl (wpAny_bind (wpAny_field hos hds (x := vu) rfl (wpAny_bind (wpAny_field hos hds (x := vs) rfl (wpAny_pure ?_)))))))
  refine wpAny_bind (HT.slicePart_ ps ?_)
  show wpAny _ _ (if ((-1 : Int) == 0) = true then _ else _) _ _ s
  rw [if_neg (by decide)]
  refine wpAny_bind (HT.slicePart_ pl (wpAny_bind (HT.slicePart_ pu (wpAny_bind (wpAny_pure ?_)))))
  show wpAny _ _ (match Builtin.Slice.sliceAdjust none none (-1) (n : Int) with | (lo, hi) => pure (lo, (-1 : Int), Builtin.Slice.slicePlaces lo hi (-1))) _ _ s
  have e1 : Builtin.Slice.sliceAdjust none none (-1) (n : Int) = ((n : Int) - 1, -1) := rfl
  rw [e1]
  show wpAny _ _ (pure ((n : Int) - 1, (-1 : Int), Builtin.Slice.slicePlaces ((n : Int) - 1) (-1) (-1))) _ _ s
  have e2 : Builtin.Slice.slicePlaces ((n : Int) - 1) (-1) (-1) = n := by
    unfold Builtin.Slice.slicePlaces
    rw [if_neg (by decide)]
    by_cases c : n = 0
    · subst c; rfl
    · rw [if_pos (by omega)]
      show (((n : Int) - 1 - -1 - 1) / 1 + 1).toNat = n
      rw [Int.ediv_one]; omega
  rw [e2]
  exact wpAny_pure h
theorem getItem_tuple_rev {t sl : Addr} {items : Array Value} {vl vu vs : Value} {Q : Value → Shared → Prop} (ht : IsTup s.heap t items) (hs : s.heap.IsSliceOf sl vl vu vs) (pl : IsPart vl none) (pu : IsPart vu none) (ps : IsPart vs (some (-1)))
    (h : Q (.ref s.heap.objs.size) { s with heap := s.heap.push { cls := .type "tuple", data := .seq items.toList.reverse.toArray } })
    (hsz : items.size ≤ sizeLine) : wpAny (model prog w) A (getItem (.ref t) (.ref sl)) Q E s := by
  have htake : sizeOk (.seq items.toList.reverse.toArray) := by
    show items.toList.reverse.toArray.size ≤ sizeLine
    simpa using hsz
  obtain ⟨os, hos, hcs, hds⟩ := id hs
  have hTs : s.TypeIs (.ref sl) "slice" := ⟨os, hos, hcs⟩
  unfold getItem
  try with_reducible refine wpAny_holding ?_
  first | refine wpAny_bind (wpAny_pure ?_) | skip
  refine wpAny_bind (wpAny_sequenceKey ht.typeIs (by decide) ?_)
  refine wpAny_bind (wpAny_callSpecial?_slot (name := Str.ofString "__getitem__") ht.typeIs PyProof.Rows.slot_tuple_getitem
    (wpAny_call_entry PyProof.Rows.slot_tuple_getitem ht.typeIs PyProof.Rows.entry_tuple_getitem ?_ (PyProof.Rows.args_tuple_getitem _ _)))
  show wpAny _ _ (Builtin.Tuple.tupleItemsOf (.ref t) >>= _) _ _ s
  refine wpAny_bind (PyProof.Rows.tupleItemsOf_ ht ?_)
  refine wpAny_bind (wpAny_typeOf hTs ?_)
  rw [if_pos (by decide)]
  refine wpAny_bind (sliceApplied_rev hs pl pu ps ?_)
  have hno : ¬ ((((items.size : Int) - 1) == 0 && (-1 : Int) == 1 && items.size == items.size) = true) := by
    intro q
    rw [Bool.and_eq_true, Bool.and_eq_true] at q
    exact absurd (eq_of_beq q.1.2) (by decide)
  show wpAny _ _ (if (((items.size : Int) - 1) == 0 && (-1 : Int) == 1 && items.size == items.size) = true then _ else _) _ _ s
  rw [if_neg hno, rev_pick]
  first
    | exact wpAny_bind (m := Builtin.Tuple.tupleExact _) (wpAny_newObj_type (wpAny_pure ⟨_, rfl, wpAny_pure h⟩) htake)
    | exact wpAny_bind (m := Builtin.Tuple.tupleExact _) (wpAny_newObj_type (wpAny_bind (wpAny_pure (wpAny_pure ⟨_, rfl, wpAny_pure h⟩))) htake)
    | exact wpAny_bind (wpAny_bind (m := Builtin.Tuple.tupleExact _) (wpAny_newObj_type (wpAny_pure (wpAny_pure ⟨_, rfl, wpAny_pure h⟩)) htake))
    | exact wpAny_bind (wpAny_bind (m := Builtin.Tuple.tupleExact _) (wpAny_newObj_type (wpAny_pure ⟨_, rfl, wpAny_pure h⟩) htake))
end
section
variable {X : Cx}
def tRevT (K : PySem.W.Frag) (te : TE) : TE := fun σ H Q => te σ H fun x H1 => ∃ a xs, x = .ref a ∧ SqT K H1 a xs ∧ ∀ p H2, Same H1 H2 → H1 p = none → H2 p = some (.tup xs.reverse) → Q (.ref p) H2
theorem pe_revT {e : Expr} {te : TE} {k : Nat} {p1 p2 p3 pos : Pos} (he : PE X e te) : PE X (.Subscript e (.Slice none none (some (.UnaryOp .USub (.Constant (.int 1) k p1) p2)) p3) pos) (tRevT X.K te) := by
  refine ⟨fun pins s σ H Q I h => ?_⟩
  refine Subscript_ (thn (he.run pins s σ H _ I h) fun v s1 ⟨x, H1, I1, r1, q1⟩ => ?_)
  obtain ⟨a, xs, ex, hx, q⟩ := q1
  subst ex
  cases r1
  have hst : PO X (some (.UnaryOp .USub (.Constant (.int 1) k p1) p2)) (tPart (tUn (rU fun i => .int (-i)) (tC (.int 1)))) := po_some (pe_un un_neg pe_int)
  refine wpAny_Slice (thn (po_none.run pins s1 σ H1 (fun o H2 => o = none ∧ H2 = H1) I1 ⟨rfl, rfl⟩) fun vl s2 ⟨l, H2, I2, pl, el, e2⟩ => ?_)
  subst el e2
  refine thn (po_none.run pins s2 σ H2 (fun o H3 => o = none ∧ H3 = H2) I2 ⟨rfl, rfl⟩) fun vu s3 ⟨u, H3, I3, pu, eu, e3⟩ => ?_
  subst eu e3
  refine thn (hst.run pins s3 σ H3 (fun o H4 => o = some (-1) ∧ H4 = H3) I3 ⟨1, rfl, -1, rfl, rfl, rfl⟩) fun vs s4 ⟨o, H4, I4, ps, eo, e4⟩ => ?_
  subst eo e4
  have I5 : Inv X pins σ H4 { s4 with heap := s4.heap.push { cls := .type "slice", data := .fields #[vl, vu, vs] } } := I4.kept (t' := s4.toks) fun b ob q => Heap.get?_push_of_some _ q
  obtain ⟨its, r, ht, hz⟩ := I5.tuple hx
  have hlen := r.length
  show wpAny (model X.prog X.w) X.A (subscriptTail e (.Slice none none (some (.UnaryOp .USub (.Constant (.int 1) k p1) p2)) p3) (.ref a) (.ref s4.heap.objs.size)) (EP X pins σ Q) X.xe { s4 with heap := s4.heap.push { cls := .type "slice", data := .fields #[vl, vu, vs] } }
  refine tail_any (ops := [.ref a, .ref s4.heap.objs.size]) ht.typeIs (PyProof.Rows.slot_tuple_getitem.lookup) ?_ (by with_unfolding_all rfl)
  refine getItem_tuple_rev ht (Heap.IsSliceOf.new _ vl vu vs) pl pu ps ?_ (by rw [List.size_toArray]; omega)
  refine ⟨.ref _, _, I5.laid (t' := s4.toks) (o := .tup xs.reverse) (fun b ob q => Heap.get?_push_of_some _ q) (Nat.le_refl _) ?_, rfl, q _ _ (same_upd (I5.hok.fresh (Nat.le_refl _))) (I5.hok.fresh (Nat.le_refl _)) upd_same⟩
  exact ⟨by rw [List.length_reverse]; exact hz, _, r.reverse, IsTup.new _ _⟩
end
end LK
namespace LK
open PySem PySem.Spec PyProof.Rows L2
/-! ### d.get(k) of a written dict with text keys -/
section
variable {X : Cx} {d : Addr} {es : Array DictEntry} {n : Nat} {o e : Expr} {apos cpos : Pos} {td ty : TE}
def tWget (K : PySem.W.Frag) (d : Addr) (td ty : TE) : TE := fun σ H Q => td σ H fun x H1 => x = .ref d ∧ ty σ H1 fun y H2 => ∃ (z : Str) (r : Option Value) (v : V), y = .str z ∧ PySem.W.nsIn K d z = some r ∧ RelV v (r.getD .none) ∧ Q v H2
theorem pe_wget (D : KDict X.K X.w d es n) (ho : PE X o td) (he : PE X e ty) (hbase : attributeBase o "get" X.env (eval o X.env) = eval o X.env := by rfl)
    (hfew : ((backTo cpos (starEach [e] X.env)).all (fun x => !x.1) && (backToKw cpos (keywordEach [] X.env)).all (fun x => x.1.isSome)
    && decide (([e] : List Expr).length + ([] : List Keyword).length + (if ([] : List Keyword).isEmpty then 0 else 1) < 30)) = true := by rfl)
    (hline : (apos.endLine == cpos.line) = true := by rfl) (htr : backTo cpos (starEach [e] X.env) = [(false, eval e X.env)] := by rfl) : PE X (.Call (.Attribute o "get" apos) [e] [] cpos) (tWget X.K d td ty) := by
  refine ⟨fun pins s σ H Q I h => ?_⟩
  refine wpAny_Call_method hbase hfew hline PySem.F.plainAttrs_dict PySem.F.slot_dict_get PySem.F.type_dict_get (thn (ho.run pins s σ H _ I h) fun u s1 ⟨x, H1, I1, rx, ex, q1⟩ => ?_)
  subst ex
  obtain rfl : u = Value.ref d := rx
  have ob := I1.kIn _ _ D.at_
  refine ⟨kd_type D I1, fun b q => ?_, ?_⟩
  · cases q
    exact ⟨_, ob, rfl⟩
  rw [htr]
  refine Calls.callWith_builtin rfl (Calls.evalArgs_plain (Calls.spliced_cons (thn (he.run pins s1 σ H1 _ I1 q1) fun iv s2 ⟨y, H2, I2, ry, z, r, v, ey, hn, rv, q2⟩ => Calls.spliced_nil ?_)))
  subst ey
  obtain ⟨t, rfl⟩ := ry
  refine call_meetsIn PySem.F.slot_dict_get (kd_type D I2) PySem.F.entry_dict_get (PySem.F.args_dict_get_2 _ _) (meets_dict_get (strKind X.prog X.w) d (PySem.strKind_is X.prog X.w z t) D.low)
    ⟨_, PySem.W.mapOf_K (prog := X.prog) I2.kIn D.at_ D.lit, v, H2, I2.tok _, ?_, q2⟩
  rw [PySem.W.find_K D.at_ hn]
  exact rv
end
end LK
namespace LK
open PySem PySem.Spec PyProof.Rows L2
/-! ### comprehensions without tests -/
/-- what is new since H -/
def nw (H H' : Hp) : Hp := fun a => if H a = none then H' a else none
theorem nw_some {H H' : Hp} {a : Addr} {o : HO} (h : nw H H' a = some o) : H a = none ∧ H' a = some o := by
  unfold nw at h
  split at h
  · exact ⟨by assumption, h⟩
  · cases h
theorem nw_of {H H' : Hp} {a : Addr} {o : HO} (h0 : H a = none) (h : H' a = some o) : nw H H' a = some o := by
  unfold nw
  rw [if_pos h0]; exact h
theorem nw_le (H H' : Hp) : Same (nw H H') H' := fun _ _ h => (nw_some h).2
theorem nw_hb {H H' : Hp} {b : Addr} {o : HO} (h : H b = some o) : Same (nw H H') (hb H' b) := fun a u e => by
  obtain ⟨h1, h2⟩ := nw_some e
  have n : a ≠ b := fun q => by rw [q, h] at h1; cases h1
  rw [hb_ne n]; exact h2
/-- new since a later heap is new since an earlier one -/
theorem nw_anti {H0 H H' : Hp} (d : ∀ a, H a = none → H0 a = none) : Same (nw H H') (nw H0 H') := fun a u e => by
  obtain ⟨h1, h2⟩ := nw_some e
  exact nw_of (d a h1) h2
theorem nw_same {H H' H'' : Hp} (s : ∀ a o, H a = none → H' a = some o → H'' a = some o) : Same (nw H H') (nw H H'') := fun a u e => by
  obtain ⟨h1, h2⟩ := nw_some e
  exact nw_of h1 (s _ _ h1 h2)
theorem Kp.dom {b : Addr} {H H' : Hp} {o : HO} (k : Kp b H H') (hb' : H' b = some o) : ∀ a, H' a = none → H a = none := fun a h => by
  cases q : H a with
  | none => rfl
  | some u =>
    by_cases e : a = b
    · subst e; rw [hb'] at h; cases h
    · rw [k.hd q e] at h; cases h
theorem Same.dom {H H' : Hp} (k : Same H H') : ∀ a, H' a = none → H a = none := fun a h => k.free h

/-- a pure one -/
theorem lc_pure {J : It} {n : Nat} {G : Hp → Prop} {Y : Nat → Hp → V → Hp → Prop} (w : Walk J n G Y) {g : TG} {te : TE} {vs : List Nat} {σ : L2.St} {H1 : Hp} {D : Addr} {Qd : Hp → Prop} (hD : H1 D = none) (hn : n ≤ 1000000) (y : Nat → V)
    (hG : ∀ H, Same H1 H → G H)
    (hs : ∀ i x H H', i < n → Same H1 H → Y i H x H' → g x (wipe σ vs) H' fun σ2 H2 => Same H H2 ∧ wipe σ2 vs = wipe σ vs ∧ ∀ Q2 : V → Hp → Prop, (∀ H3, Same H2 H3 → Q2 (y i) H3) → te σ2 H2 Q2)
    (gm : ∀ x σ0 H0 Q0 Q1, (∀ σ2 H2, Q0 σ2 H2 → Q1 σ2 H2) → g x σ0 H0 Q0 → g x σ0 H0 Q1)
    (hq : ∀ H', Same H1 H' → H' D = some (.lst ((List.range n).map y)) → Qd H') :
    ∃ W : Nat → Nat → Hp → Prop, (∃ m, W 0 m (upd H1 D (.lst []))) ∧ ∀ i m H, W i m H →
      (J.stop i H ∧ Qd H) ∨ (J.go i H ∧ ∃ Nx : Hp → Prop, (∀ H', Nx H' → ∃ m', m' < m ∧ W (i + 1) m' H') ∧ ∀ x H', J.yld i H x H' → g x (wipe σ vs) H' fun σ2 H2 => wipe σ2 vs = wipe σ vs ∧ tYes σ2 H2 fun b H3 =>
        if b = true then te σ2 H3 fun y H4 => ∃ acc, H4 D = some (.lst acc) ∧ acc.length < sizeLine ∧ Nx (upd H4 D (.lst (acc ++ [y]))) else Nx H3) := by
  have up : ∀ {H : Hp} {o : HO}, Same H1 H → Same H1 (upd H D o) := fun s a u e => by
    rw [upd_ne (ne_of_none e hD)]; exact s _ _ e
  refine lc_it w (fun i H => Same H1 H ∧ H D = some (.lst ((List.range i).map y))) ⟨up (Same.refl _), upd_same⟩ (fun i H _ h => hG H h.1) (fun i x H H' hi ⟨s1, h1⟩ hY => ?_) (fun H h => hq H h.1 h.2)
  refine gm _ _ _ _ _ (fun σ2 H2 ⟨s2, e2, k⟩ => ⟨e2, ?_⟩) (hs i x H H' hi s1 hY)
  simp only [tYes, eq_self, ite_true]
  refine k _ fun H3 s3 => ⟨_, s3 _ _ (s2 _ _ h1), ?_, up (Same.trans (Same.trans s1 s2) s3), ?_⟩
  · rw [List.length_map, List.length_range]
    exact Nat.lt_of_lt_of_le (Nat.lt_of_lt_of_le hi hn) (by decide)
  · rw [upd_same, List.range_succ, List.map_append]
    rfl
/-- one that draws from a bag -/
theorem lc_bag {J : It} {n k N : Nat} {G : Hp → Prop} {Y : Nat → Hp → V → Hp → Prop} (w : Walk J n G Y) {g : TG} {te : TE} {vs : List Nat} {σ : L2.St} {H1 : Hp} {D b c : Addr} {Qd : Hp → Prop} (hD : H1 D = none) (hB : Bag (N + n * k) H1 b c) (hn : n ≤ 1000000) (Φ : Hp → V → Prop) (mono : ∀ G G' v, Same G G' → Φ G v → Φ G' v)
    (hG : ∀ H, Kp b H1 H → G H)
    (hs : ∀ i x H H' M, i < n → Kp b H1 H → Bag (M + k) H b c → Y i H x H' → g x (wipe σ vs) H' fun σ2 H2 => Same H H2 ∧ wipe σ2 vs = wipe σ vs ∧ ∀ Q2 : V → Hp → Prop, (∀ v H3, Bag M H3 b c → Kp b H2 H3 → Φ (nw H2 H3) v → Q2 v H3) → te σ2 H2 Q2)
    (gm : ∀ x σ0 H0 Q0 Q1, (∀ σ2 H2, Q0 σ2 H2 → Q1 σ2 H2) → g x σ0 H0 Q0 → g x σ0 H0 Q1)
    (hq : ∀ H' ys, Bag N H' b c → Kp b H1 H' → H' D = some (.lst ys) → ys.length = n → (∀ v ∈ ys, Φ (nw (upd H1 D (.lst [])) H') v) → Qd H') :
    ∃ W : Nat → Nat → Hp → Prop, (∃ m, W 0 m (upd H1 D (.lst []))) ∧ ∀ i m H, W i m H →
      (J.stop i H ∧ Qd H) ∨ (J.go i H ∧ ∃ Nx : Hp → Prop, (∀ H', Nx H' → ∃ m', m' < m ∧ W (i + 1) m' H') ∧ ∀ x H', J.yld i H x H' → g x (wipe σ vs) H' fun σ2 H2 => wipe σ2 vs = wipe σ vs ∧ tYes σ2 H2 fun b H3 =>
        if b = true then te σ2 H3 fun y H4 => ∃ acc, H4 D = some (.lst acc) ∧ acc.length < sizeLine ∧ Nx (upd H4 D (.lst (acc ++ [y]))) else Nx H3) := by
  obtain ⟨xb, eb⟩ := hB.at
  obtain ⟨xc, ec⟩ := hB.at2
  have nbD : b ≠ D := fun e => by rw [← e, eb] at hD; cases hD
  have ncD : c ≠ D := fun e => by rw [← e, ec] at hD; cases hD
  have up : ∀ {H : Hp} {o : HO}, Kp b H1 H → Kp b H1 (upd H D o) := fun s a u e => by
    obtain ⟨h1, h2⟩ := hb_some e
    rw [hb_ne h1, upd_ne (ne_of_none h2 hD)]
    exact s.hd h2 h1
  refine lc_it w (fun i H => Kp b H1 H ∧ Bag (N + (n - i) * k) H b c ∧ ∃ ys, H D = some (.lst ys) ∧ ys.length = i ∧ ∀ v ∈ ys, Φ (nw (upd H1 D (.lst [])) H) v) ⟨up (Kp.refl _ _), hB.upd nbD ncD, [], upd_same, rfl, fun v hv => absurd hv (by simp)⟩ (fun i H _ h => hG H h.1) (fun i x H H' hi ⟨s1, B1, ys, h1, hl, hp⟩ hY => ?_) (fun H ⟨s1, B1, ys, h1, hl, hp⟩ => hq H ys (B1.le (Nat.le_add_right _ _)) s1 h1 hl hp)
  refine gm _ _ _ _ _ (fun σ2 H2 ⟨s2, e2, kq⟩ => ⟨e2, ?_⟩) (hs i x H H' (N + (n - (i + 1)) * k) hi s1 (B1.le (by
    have e : n - i = (n - (i + 1)) + 1 := by omega
    rw [e, Nat.add_mul, Nat.one_mul, Nat.add_assoc]; exact Nat.le_refl _)) hY)
  simp only [tYes, eq_self, ite_true]
  have B2 := B1.same s2
  refine kq _ fun v H3 B3 k3 hv => ⟨ys, k3.hd (s2 _ _ h1) nbD.symm, ?_, up (Same.trans (Same.trans s1 (Kp.of s2)) k3), B3.upd nbD ncD, ys ++ [v], upd_same, by rw [List.length_append, hl]; rfl, fun u hu => ?_⟩
  · rw [hl]
    exact Nat.lt_of_lt_of_le (Nat.lt_of_lt_of_le hi hn) (by decide)
  · have kk : ∀ a o, upd H1 D (.lst []) a = none → H3 a = some o → upd H3 D (.lst (ys ++ [v])) a = some o := fun a o q e => by
      have n : a ≠ D := fun z => by rw [z, upd_same] at q; cases q
      rw [upd_ne n]; exact e
    rcases List.mem_append.mp hu with hu | hu
    · refine mono _ _ _ (fun a o e => ?_) (hp u hu)
      obtain ⟨q1, q2⟩ := nw_some e
      have n : a ≠ b := fun z => by rw [z, upd_ne nbD, eb] at q1; cases q1
      exact nw_of q1 (kk _ _ q1 (k3.hd (s2 _ _ q2) n))
    · obtain rfl : u = v := by simpa using hu
      refine mono _ _ _ (fun a o e => ?_) hv
      obtain ⟨q1, q2⟩ := nw_some e
      have d1 : upd H1 D (.lst []) a = none := by
        by_cases n : a = D
        · rw [n, s2 _ _ h1] at q1; cases q1
        · rw [upd_ne n]
          exact Kp.dom (Same.trans s1 (Kp.of s2)) (B2.at.choose_spec) a q1
      exact nw_of d1 (kk _ _ d1 q2)
end LK
namespace LK
open PySem PySem.Spec PyProof.Rows L2
theorem cutV_take (xs : List V) (k : Nat) : cutV xs none (some (k : Int)) = xs.take k := by
  unfold cutV HT.sIx
  simp only [List.drop_zero, Nat.sub_zero]
  by_cases h : (k : Int) < 0
  · omega
  · rw [if_neg h]
    have e : ((k : Int)).toNat = k := Int.toNat_natCast k
    by_cases c : k ≤ xs.length
    · congr 1
      omega
    · rw [List.take_of_length_le (by omega), List.take_of_length_le (by omega)]
theorem cutV_drop (xs : List V) (k : Nat) : cutV xs (some (k : Int)) none = xs.drop k := by
  unfold cutV
  rw [HT.sIx_nat, HT.sIx_none]
  by_cases c : k ≤ xs.length
  · rw [Nat.min_eq_left c, List.take_of_length_le (by simp)]
  · rw [Nat.min_eq_right (by omega), List.drop_eq_nil_of_le (by omega), List.drop_eq_nil_of_le (by omega)]
    simp
end LK
namespace LK
open PySem PySem.Spec PyProof.Rows L2
/-! ### new objects, the heap behind them by a name -/
section
variable {X : Cx} {es : List Expr} {t : TA} {pos : Pos}
def tTupU (t : TA) : TE := fun σ H Q => t σ H fun xs H1 => xs.length ≤ sizeLine ∧ ∀ p H2, Same H1 H2 → H1 p = none → H2 p = some (.tup xs) → Q (.ref p) H2
def tLstU (t : TA) : TE := fun σ H Q => t σ H fun xs H1 => xs.length ≤ sizeLine ∧ ∀ p H2, Same H1 H2 → H1 p = none → H2 p = some (.lst xs) → Q (.ref p) H2
theorem pe_tupU {x1} (h : PA X es t) : PE X (.Tuple es x1 pos) (tTupU t) := by
  refine ⟨fun pins s σ H Q I hq => ?_⟩
  refine wpAny_Tuple_spliced (thn (h.run pos pins s σ H _ I hq) fun us s1 ⟨xs, H1, I1, r, z, q⟩ => ⟨by rw [← r.length]; exact z, ?_⟩)
  have hf : H1 s1.heap.objs.size = none := I1.hok.fresh (Nat.le_refl _)
  refine ⟨.ref s1.heap.objs.size, L2.upd H1 s1.heap.objs.size (.tup xs), I1.laid (t' := s1.toks) (fun b u e => Heap.get?_push_of_some _ e) (Nat.le_refl _) ?_, rfl, q _ _ (same_upd hf) hf upd_same⟩
  exact ⟨z, us, r, ⟨_, Heap.get?_push_size _ rfl, rfl, _, rfl⟩⟩
theorem pe_lstU (h : PA X es t) : PE X (.List es pos) (tLstU t) := by
  refine ⟨fun pins s σ H Q I hq => ?_⟩
  refine wpAny_List_spliced (thn (h.run pos pins s σ H _ I hq) fun us s1 ⟨xs, H1, I1, r, z, q⟩ => ⟨by rw [← r.length]; exact z, ?_⟩)
  have hf : H1 s1.heap.objs.size = none := I1.hok.fresh (Nat.le_refl _)
  refine ⟨.ref s1.heap.objs.size, L2.upd H1 s1.heap.objs.size (.lst xs), I1.laid (t' := s1.toks) (fun b u e => Heap.get?_push_of_some _ e) (Nat.le_refl _) ?_, rfl, q _ _ (same_upd hf) hf upd_same⟩
  exact ⟨z, us, 0, r, Heap.get?_push_size _ rfl⟩
def rSlLU (K : PySem.W.Frag) : V → Option Int → Option Int → Hp → VK → Prop := fun x lo hi H Q => ∃ a xs, x = .ref a ∧ SqL K H a xs ∧ ∀ p H2, Same H H2 → H p = none → H2 p = some (.lst (cutV xs lo hi)) → Q (.ref p) H2
theorem sl_listU : SlR X (rSlLU X.K) := by
  intro pins s σ H x v vl vu lo hi sl Q I rx hs pl pu h
  obtain ⟨a, xs, rfl, hx, q⟩ := h
  exact sl_list pins s σ H _ v vl vu lo hi sl Q I rx hs pl pu ⟨a, xs, rfl, hx, fun p hp => q p _ (same_upd hp) hp upd_same⟩
theorem call_listU : CallR X (.type "list") (fun xs H Q => ∃ p ys, xs = [.ref p] ∧ (SqL X.K H p ys ∨ SqT X.K H p ys) ∧ ∀ l H2, Same H H2 → H l = none → H2 l = some (.lst ys) → Q (.ref l) H2) := cr_imp call_list_of fun xs H Q h => by
  obtain ⟨p, ys, rfl, h, q⟩ := h
  exact ⟨p, ys, rfl, h, fun l hl => q l _ (same_upd hl) hl upd_same⟩
def rCatL : R2 := fun x y H Q => ∃ l b xs zs, x = .ref l ∧ y = .ref b ∧ H l = some (.lst xs) ∧ H b = some (.lst zs) ∧ xs.length + zs.length ≤ sizeLine ∧ ∀ p H2, Same H H2 → H p = none → H2 p = some (.lst (xs ++ zs)) → Q (.ref p) H2
theorem op_catL : OpR X (binaryOp .Add) rCatL := opr_imp op_cat fun x y H Q h => by
  obtain ⟨l, b, xs, zs, rfl, rfl, h1, h2, hz, q⟩ := h
  exact ⟨l, b, xs, zs, rfl, rfl, h1, h2, hz, fun p hp => q p _ (same_upd hp) hp upd_same⟩
def rRepL : R2 := fun x y H Q => ∃ l k xs, x = .ref l ∧ y = .int k ∧ H l = some (.lst xs) ∧ -(2 ^ 63) ≤ k ∧ k < 2 ^ 63 ∧ xs.length * k.toNat ≤ sizeLine ∧ ∀ p H2, Same H H2 → H p = none → H2 p = some (.lst (List.replicate k.toNat xs).flatten) → Q (.ref p) H2
theorem op_repL : OpR X (binaryOp .Mult) rRepL := opr_imp op_rep fun x y H Q h => by
  obtain ⟨l, k, xs, rfl, rfl, h1, h2, h3, hz, q⟩ := h
  exact ⟨l, k, xs, rfl, rfl, h1, h2, h3, hz, fun p hp => q p _ (same_upd hp) hp upd_same⟩
end
end LK
namespace LK
open PySem PySem.Spec PyProof.Rows L2
/-- [f(x) for x in ..], the items known -/
theorem lc_map {J : It} {n : Nat} {G : Hp → Prop} {Y : Nat → Hp → V → Hp → Prop} (w : Walk J n G Y) {te : TE} {i : Nat} {σ : L2.St} {H1 : Hp} {D : Addr} {Qd : Hp → Prop} (xs : List V) (f : V → V) (hD : H1 D = none) (hn : n ≤ 1000000) (hx : xs.length = n)
    (hY : ∀ k H x H', k < n → Y k H x H' → H' = H ∧ xs[k]? = some x) (hG : ∀ H, Same H1 H → G H)
    (hs : ∀ x H, x ∈ xs → Same H1 H → ∀ Q2 : V → Hp → Prop, (∀ H3, Same H H3 → Q2 (f x) H3) → te ((wipe σ [i]).set i (some x)) H Q2)
    (hq : ∀ H', Same H1 H' → H' D = some (.lst (xs.map f)) → Qd H') :
    ∃ W : Nat → Nat → Hp → Prop, (∃ m, W 0 m (L2.upd H1 D (.lst []))) ∧ ∀ i' m H, W i' m H →
      (J.stop i' H ∧ Qd H) ∨ (J.go i' H ∧ ∃ Nx : Hp → Prop, (∀ H', Nx H' → ∃ m', m' < m ∧ W (i' + 1) m' H') ∧ ∀ x H', J.yld i' H x H' → gName i x (wipe σ [i]) H' fun σ2 H2 => wipe σ2 [i] = wipe σ [i] ∧ tYes σ2 H2 fun b H3 =>
        if b = true then te σ2 H3 fun y H4 => ∃ acc, H4 D = some (.lst acc) ∧ acc.length < sizeLine ∧ Nx (L2.upd H4 D (.lst (acc ++ [y]))) else Nx H3) := by
  have e : (List.range n).map (fun k => f (xs.getD k .non)) = xs.map f := by
    refine List.ext_getElem? fun k => ?_
    rw [List.getElem?_map, List.getElem?_map]
    by_cases hk : k < n
    · rw [List.getElem?_range hk, List.getElem?_eq_getElem (by omega)]
      simp [List.getD_eq_getElem?_getD, List.getElem?_eq_getElem (show k < xs.length by omega)]
    · rw [List.getElem?_eq_none (by simpa using hk), List.getElem?_eq_none (by omega)]
      rfl
  refine lc_pure w hD hn (fun k => f (xs.getD k .non)) hG (fun k x H H' hk s1 y => ?_) (fun x σ0 H0 Q0 Q1 h q => h _ _ q) (fun H' s h => hq H' s (by rw [← e]; exact h))
  obtain ⟨rfl, hx2⟩ := hY _ _ _ _ hk y
  refine ⟨Same.refl _, ?_, fun Q2 h2 => hs x H' (List.mem_of_getElem? hx2) s1 Q2 fun H3 s3 => ?_⟩
  · show ((σ.set i none).set i (some x)).set i none = σ.set i none
    rw [List.set_set, List.set_set]
  · have e2 : xs.getD k .non = x := by rw [List.getD_eq_getElem?_getD, hx2]; rfl
    have := h2 H3 s3
    rw [e2] at this
    exact this
/-- the same, drawing from a bag -/
theorem lc_draw {J : It} {n k N : Nat} {G : Hp → Prop} {Y : Nat → Hp → V → Hp → Prop} (w : Walk J n G Y) {te : TE} {i : Nat} {σ : L2.St} {H1 : Hp} {D b c : Addr} {Qd : Hp → Prop} (Φ : Hp → V → Prop) (mono : ∀ G G' v, Same G G' → Φ G v → Φ G' v) (hD : H1 D = none) (hB : Bag (N + n * k) H1 b c) (hn : n ≤ 1000000)
    (hY : ∀ k H x H', Y k H x H' → H' = H) (hG : ∀ H, Kp b H1 H → G H)
    (hs : ∀ x H M, Kp b H1 H → Bag (M + k) H b c → ∀ Q2 : V → Hp → Prop, (∀ v H3, Bag M H3 b c → Kp b H H3 → Φ (nw H H3) v → Q2 v H3) → te ((wipe σ [i]).set i (some x)) H Q2)
    (hq : ∀ H' ys, Bag N H' b c → Kp b H1 H' → H' D = some (.lst ys) → ys.length = n → (∀ v ∈ ys, Φ (nw (L2.upd H1 D (.lst [])) H') v) → Qd H') :
    ∃ W : Nat → Nat → Hp → Prop, (∃ m, W 0 m (L2.upd H1 D (.lst []))) ∧ ∀ i' m H, W i' m H →
      (J.stop i' H ∧ Qd H) ∨ (J.go i' H ∧ ∃ Nx : Hp → Prop, (∀ H', Nx H' → ∃ m', m' < m ∧ W (i' + 1) m' H') ∧ ∀ x H', J.yld i' H x H' → gName i x (wipe σ [i]) H' fun σ2 H2 => wipe σ2 [i] = wipe σ [i] ∧ tYes σ2 H2 fun b H3 =>
        if b = true then te σ2 H3 fun y H4 => ∃ acc, H4 D = some (.lst acc) ∧ acc.length < sizeLine ∧ Nx (L2.upd H4 D (.lst (acc ++ [y]))) else Nx H3) := by
  refine lc_bag w hD hB hn Φ mono hG (fun j x H H' M hk s1 B1 y => ?_) (fun x σ0 H0 Q0 Q1 h q => h _ _ q) hq
  have e := hY _ _ _ _ y
  subst e
  refine ⟨Same.refl _, ?_, fun Q2 h2 => hs x H' M s1 B1 Q2 h2⟩
  show ((σ.set i none).set i (some x)).set i none = σ.set i none
  rw [List.set_set, List.set_set]
def signsV (z : Str) : List V := z.cps.toList.map fun c => V.str ⟨#[c]⟩
theorem signsV_at {z : Str} : ∀ (k : Nat) (H : Hp) (x : V) (H' : Hp), (H' = H ∧ ∃ c, z.cps[k]? = some c ∧ x = V.str ⟨#[c]⟩) → H' = H ∧ (signsV z)[k]? = some x := by
  rintro k H x H' ⟨rfl, c, h, rfl⟩
  refine ⟨rfl, ?_⟩
  unfold signsV
  rw [List.getElem?_map, Array.getElem?_toList, h]
  rfl
theorem signsV_length (z : Str) : (signsV z).length = z.cps.size := by simp [signsV]
theorem all_map_id {α : Type} (p : α → Bool) (l : List α) : (l.map p).all id = l.all p := by
  rw [List.all_map]; rfl
end LK
namespace LK
open PySem PySem.Spec PyProof.Rows L2
/-- [p(c) for c in z], z a text -/
theorem lc_signs {z : Str} {te : TE} {i : Nat} {σ : L2.St} {H1 : Hp} {D : Addr} {Qd : Hp → Prop} (p : Nat → Bool) (hD : H1 D = none) (hz : z.length ≤ 1000000)
    (hs : ∀ c H, c ∈ z.cps.toList → Same H1 H → ∀ Q2 : V → Hp → Prop, (∀ H3, Same H H3 → Q2 (.bl (p c)) H3) → te ((wipe σ [i]).set i (some (.str ⟨#[c]⟩))) H Q2)
    (hq : ∀ H', Same H1 H' → H' D = some (.lst ((z.cps.toList.map p).map V.bl)) → Qd H') :
    ∃ W : Nat → Nat → Hp → Prop, (∃ m, W 0 m (L2.upd H1 D (.lst []))) ∧ ∀ i' m H, W i' m H →
      ((Its z).stop i' H ∧ Qd H) ∨ ((Its z).go i' H ∧ ∃ Nx : Hp → Prop, (∀ H', Nx H' → ∃ m', m' < m ∧ W (i' + 1) m' H') ∧ ∀ x H', (Its z).yld i' H x H' → gName i x (wipe σ [i]) H' fun σ2 H2 => wipe σ2 [i] = wipe σ [i] ∧ tYes σ2 H2 fun b H3 =>
        if b = true then te σ2 H3 fun y H4 => ∃ acc, H4 D = some (.lst acc) ∧ acc.length < sizeLine ∧ Nx (L2.upd H4 D (.lst (acc ++ [y]))) else Nx H3) := by
  refine lc_map walk_str (signsV z) (fun v => match v with | .str y => .bl (p (y.cps.toList.headD 0)) | _ => .non) hD hz (signsV_length z) (fun k H x H' _ y => signsV_at k H x H' y) (fun _ _ => trivial) (fun x H hx s1 Q2 h2 => ?_) (fun H' s h => hq H' s ?_)
  · obtain ⟨c, hc, rfl⟩ := List.mem_map.mp hx
    exact hs c H hc s1 Q2 h2
  · rw [h]
    unfold signsV
    rw [List.map_map, List.map_map]
    rfl
theorem starts_minus {z : Str} (h : Txt.startswith z "-" = true) : ∃ r, z.cps.toList = 45 :: r := by
  have h2 : PySem.StrLaws.At z "-" z.length 0 := by
    unfold Txt.startswith at h
    rw [Bool.and_eq_true] at h
    exact ⟨of_decide_eq_true h.1, h.2⟩
  have e : TL.tl "-" = [45] := by decide +kernel
  have q := (TL.at_iff (by rw [e]; simp) 0).mp h2
  rw [e, List.drop_zero] at q
  unfold TL.pre at q
  have q2 : z.cps.toList.take 1 = [45] := eq_of_beq q
  cases hz : z.cps.toList with
  | nil => rw [hz] at q2; simp at q2
  | cons c r => rw [hz] at q2; simp at q2; rw [q2]; exact ⟨r, rfl⟩
theorem cutS_tail (z : Str) : (cutS z (some 1) none).cps.toList = z.cps.toList.drop 1 := by
  unfold cutS
  have e1 := HT.sIx_nat z.length 0 1
  have l : z.length = z.cps.toList.length := by rw [Array.length_toList]; rfl
  show ((z.cps.toList.drop (HT.sIx z.length 0 (some ((1 : Nat) : Int)))).take (HT.sIx z.length z.length none - HT.sIx z.length 0 (some ((1 : Nat) : Int)))) = _
  rw [e1, HT.sIx_none]
  by_cases c : 1 ≤ z.length
  · rw [Nat.min_eq_left c, List.take_of_length_le (by rw [List.length_drop]; omega)]
  · rw [List.drop_eq_nil_of_le (by omega), List.drop_eq_nil_of_le (by omega)]
    simp
theorem len_cps (z : Str) : z.cps.toList.length = z.length := by rw [Array.length_toList]; rfl
end LK
namespace LK
theorem iteTT {c A B : Prop} [Decidable c] (hc : c) (h : A) : if c then A else B := by rw [if_pos hc]; exact h
theorem iteFF {c A B : Prop} [Decidable c] (hc : ¬ c) (h : B) : if c then A else B := by rw [if_neg hc]; exact h
end LK
namespace LK
open PySem PySem.Spec PyProof.Rows L2
theorem str_append (a b : Str) : (a ++ b).cps.toList = a.cps.toList ++ b.cps.toList := by
  show (a.cps ++ b.cps).toList = _
  exact Array.toList_append
theorem str_append_len (a b : Str) : (a ++ b).length = a.length + b.length := by
  rw [← len_cps, str_append, List.length_append, len_cps, len_cps]
theorem cutS_tail_len (z : Str) : (cutS z (some 1) none).length = z.length - 1 := by
  rw [← len_cps, cutS_tail, List.length_drop, len_cps]
theorem cutS_len (z : Str) (lo hi : Option Int) : (cutS z lo hi).length ≤ z.length := by
  rw [← len_cps, ← len_cps z]
  unfold cutS
  show (List.take _ (List.drop _ _)).length ≤ _
  rw [List.length_take, List.length_drop]
  omega
end LK
namespace LK
open PySem PySem.Spec PyProof.Rows L2
/-- [f(k) for k in range(n)] -/
theorem lc_rng {lo : Int} {n : Nat} {te : TE} {i : Nat} {σ : L2.St} {H1 : Hp} {D : Addr} {Qd : Hp → Prop} (f : Int → V) (hD : H1 D = none) (hn : n ≤ 1000000)
    (hs : ∀ (k : Nat) H, k < n → Same H1 H → ∀ Q2 : V → Hp → Prop, (∀ H3, Same H H3 → Q2 (f (lo + (k : Int))) H3) → te ((wipe σ [i]).set i (some (.int (lo + (k : Int))))) H Q2)
    (hq : ∀ H', Same H1 H' → H' D = some (.lst ((List.range n).map fun (k : Nat) => f (lo + (k : Int)))) → Qd H') :
    ∃ W : Nat → Nat → Hp → Prop, (∃ m, W 0 m (L2.upd H1 D (.lst []))) ∧ ∀ i' m H, W i' m H →
      ((Itr lo n).stop i' H ∧ Qd H) ∨ ((Itr lo n).go i' H ∧ ∃ Nx : Hp → Prop, (∀ H', Nx H' → ∃ m', m' < m ∧ W (i' + 1) m' H') ∧ ∀ x H', (Itr lo n).yld i' H x H' → gName i x (wipe σ [i]) H' fun σ2 H2 => wipe σ2 [i] = wipe σ [i] ∧ tYes σ2 H2 fun b H3 =>
        if b = true then te σ2 H3 fun y H4 => ∃ acc, H4 D = some (.lst acc) ∧ acc.length < sizeLine ∧ Nx (L2.upd H4 D (.lst (acc ++ [y]))) else Nx H3) := by
  refine lc_map walk_range ((List.range n).map fun (k : Nat) => V.int (lo + (k : Int))) (fun v => match v with | .int j => f j | _ => .non) hD hn (by rw [List.length_map, List.length_range]) (fun k H x H' hk y => ?_) (fun _ _ => trivial) (fun x H hx s1 Q2 h2 => ?_) (fun H' s h => hq H' s ?_)
  · refine ⟨y.1, ?_⟩
    rw [List.getElem?_map, List.getElem?_range hk, y.2]
    rfl
  · obtain ⟨k, hk, rfl⟩ := List.mem_map.mp hx
    exact hs k H (List.mem_range.mp hk) s1 Q2 h2
  · rw [h, List.map_map]
    rfl
end LK
namespace LK
open PySem PySem.Spec PyProof.Rows L2
section
variable {X : Cx} {K : PySem.W.Frag}
theorem call_isiDK (hK : X.K = K) : CallR X (.builtin "isinstance") (fun xs H Q => ∃ x T d, xs = [x, .ty T] ∧ Dp K H x d ∧ T ∈ ["str", "int", "bool", "list", "tuple"] ∧ Q (.bl (isTy T d)) H) := by
  subst hK
  exact call_isiD
end
end LK
namespace LK
open PySem PySem.Spec PyProof.Rows L2
section
variable {X : Cx}
/-- tuple(x) of a list: a new tuple -/
theorem call_tupleN : CallR X (.type "tuple") (fun xs H Q => ∃ p ys, xs = [.ref p] ∧ SqL X.K H p ys ∧ ∀ q H', Same H H' → H q = none → H' q = some (.tup ys) → Q (.ref q) H') := cr_imp call_tuple_of fun xs H Q h => by
  obtain ⟨p, ys, rfl, h, q⟩ := h
  exact ⟨p, ys, rfl, .inl ⟨h, fun l hl => q l _ (same_upd hl) hl upd_same⟩⟩
end
theorem strs_of {m : Nat} : ∀ {l : List V}, (∀ v ∈ l, ∃ z, v = V.str z ∧ z.length ≤ m) → ∃ zs : List Str, l = zs.map V.str ∧ ∀ z ∈ zs, z.length ≤ m
  | [], _ => ⟨[], rfl, fun z h => absurd h (by simp)⟩
  | v :: l, h => by
    obtain ⟨z, rfl, hz⟩ := h v List.mem_cons_self
    obtain ⟨zs, rfl, hzs⟩ := strs_of (l := l) fun v hv => h v (List.mem_cons_of_mem _ hv)
    refine ⟨z :: zs, rfl, fun y hy => ?_⟩
    rcases List.mem_cons.mp hy with rfl | hy
    · exact hz
    · exact hzs y hy
theorem sum_le {m : Nat} : ∀ {zs : List Str}, (∀ z ∈ zs, z.length ≤ m) → (zs.map (·.length)).sum ≤ zs.length * m
  | [], _ => by simp
  | z :: zs, h => by
    rw [List.map_cons, List.sum_cons, List.length_cons, Nat.succ_mul]
    have h1 := h z List.mem_cons_self
    have h2 := sum_le (zs := zs) fun y hy => h y (List.mem_cons_of_mem _ hy)
    omega
end LK
namespace LK
open PySem PySem.Spec PyProof.Rows L2
theorem joinL_len (S : List Nat) : ∀ ps : List (List Nat), (TL.joinL S ps).length ≤ (ps.map List.length).sum + ps.length * S.length
  | [] => by simp [TL.joinL]
  | [p] => by simp [TL.joinL]
  | p :: q :: r => by
    have ih := joinL_len S (q :: r)
    show (p ++ (S ++ TL.joinL S (q :: r))).length ≤ _
    rw [List.length_append, List.length_append, List.map_cons, List.sum_cons, List.length_cons, Nat.succ_mul]
    omega
theorem join_len (y : Str) (zs : List Str) : (Txt.join y zs).length ≤ (zs.map (·.length)).sum + zs.length * y.length := by
  rw [TL.join_eq, ← len_cps]
  have e := TL.tl_join y zs
  show (TL.tl (Str.join y zs)).length ≤ _
  rw [e]
  refine Nat.le_trans (joinL_len _ _) ?_
  rw [List.map_map, List.length_map]
  have e1 : ((zs.map (List.length ∘ TL.tl))) = zs.map (·.length) := List.map_congr_left fun z _ => len_cps z
  rw [e1]
  show _ + zs.length * (y.cps.toList).length ≤ _
  rw [len_cps]
  exact Nat.le_refl _
/-- the list that lc_draw has made, as texts -/
theorem kp_new {N : Nat} {b c : Addr} {H H1 : Hp} (B : Bag N H b c) (s : Same H H1) : Kp b H H1 ∧ Bag N H1 b c := ⟨Kp.of s, B.same s⟩
theorem hb_new {N : Nat} {b c p : Addr} {H H1 : Hp} {o : HO} (B : Bag N H b c) (h0 : H p = none) (h1 : H1 p = some o) : hb H1 b p = some o := by
  have n : p ≠ b := fun e => by
    obtain ⟨xs, q⟩ := B.at
    rw [e, q] at h0; cases h0
  rw [hb_ne n]; exact h1
end LK
namespace LK
open PySem PySem.Spec PyProof.Rows L2
def isIntV : V → Bool
  | .int _ => true
  | _ => false
theorem ints_of {l : List V} (h : l.all isIntV = true) : ∀ y ∈ l, ∃ i, y = V.int i := fun y hy => by
  have q := List.all_eq_true.mp h y hy
  cases y <;> first | exact ⟨_, rfl⟩ | simp [isIntV] at q
end LK
namespace LK
open PySem PySem.Spec PyProof.Rows L2
theorem nx_op {t : TS} {D : Ends} {σ : L2.St} {H : Hp} (h : ∀ N : L2.St → Hp → Prop, (∀ σ' H', D.nx σ' H' → N σ' H') → t { D with nx := N } σ H) : t D σ H := h D.nx fun _ _ z => z
/-- a test that changes nothing and whose answer does not matter -/
theorem if_any {c : TT} {t u : TS} {D : Ends} {σ : L2.St} {H : Hp} (hc : ∀ K : Bool → Hp → Prop, (∀ b, K b H) → c σ H K) (hA : t D σ H) (hB : u D σ H) : tIfS c t u D σ H := hc _ fun b => by
  cases b
  · exact iteFF (by decide) hB
  · exact iteTT rfl hA
end LK
namespace LK
open PySem PySem.Spec PyProof.Rows L2
theorem if_anyS {c : TT} {t u : TS} {D : Ends} {σ : L2.St} {H : Hp} (hc : ∀ K : Bool → Hp → Prop, (∀ b H1, Same H H1 → K b H1) → c σ H K) (hA : ∀ H1, Same H H1 → t D σ H1) (hB : ∀ H1, Same H H1 → u D σ H1) : tIfS c t u D σ H := hc _ fun b H1 s => by
  cases b
  · exact iteFF (by decide) (hB H1 s)
  · exact iteTT rfl (hA H1 s)
end LK
namespace LK
open PySem PySem.Spec PyProof.Rows L2
theorem if_of {c : TT} {t u : TS} {D : Ends} {σ : L2.St} {H : Hp} (R : Bool → Prop) (hc : ∀ K : Bool → Hp → Prop, (∀ b H1, R b → Same H H1 → K b H1) → c σ H K) (hA : ∀ H1, R true → Same H H1 → t D σ H1) (hB : ∀ H1, R false → Same H H1 → u D σ H1) : tIfS c t u D σ H := hc _ fun b H1 r s => by
  cases b
  · exact iteFF (by decide) (hB H1 r s)
  · exact iteTT rfl (hA H1 r s)
end LK

set_option Elab.async false
set_option linter.all false
set_option maxRecDepth 100000
namespace PySem
open Sem (wp)
open AutoSeq1 (wpAny_loadPart')
/-! ### enumerate of a tuple -/
theorem meets_enumerate_newT (l : Addr) (items : Array Value) (n : Nat) (dct : Option Addr) (sl : Array (Option Value)) :
    Meets (Builtin.«enumerate.__new__» ⟨[.type "enumerate", .ref l], []⟩) (fun _ R s => s.heap.get? l = some { cls := .type "tuple", dict := dct, data := .seq items n, slots := sl } ∧
      R (.ok (.ret (.ref (s.heap.push { cls := .type "tuple_iterator", data := .fields #[.ref l, .int 0 0] }).objs.size)))
        { s with heap := (s.heap.push { cls := .type "tuple_iterator", data := .fields #[.ref l, .int 0 0] }).push { cls := .type "enumerate", data := .fields #[.none, .bool false, .ref s.heap.objs.size, rawInt 0, .none, .none] } }) :=
  .of_wp fun prog w A R s h => by
    obtain ⟨hp, g, d, tk, os⟩ := s; obtain ⟨hl, h⟩ := h
    have hsub := sub_enumerate
    have hL : Heap.IsTuple (Shared.heap ⟨hp, g, d, tk, os⟩) l items := ⟨_, hl, rfl, n, rfl⟩
    wp_walk using wpAny_loadPart' hl
    refine wpAny_stack_any fun st => wpAny_pure ?_
    split
    · rename_i c _ _ _ _ _
      cases (c == Value.type "enumerate")
      · wp_walk using wpAny_loadPart' hl, wpAny_pyIter_tuple hL
        exact ⟨_, rfl, h⟩
      · wp_walk using wpAny_loadPart' hl, wpAny_pyIter_tuple hL
        exact ⟨_, rfl, h⟩
    · wp_walk using wpAny_loadPart' hl, wpAny_pyIter_tuple hL
      exact ⟨_, rfl, h⟩
theorem call_enumerate_tuple {prog : Program} {w : World} {A : Around} {E : Value → Shared → Prop} {s : Shared} {l : Addr} {items : Array Value} {Q : Value → Shared → Prop} (hL : s.heap.IsTuple l items)
    (h : ∀ h', IsEnum h' (s.heap.objs.size + 1) s.heap.objs.size 0 .none → h'.IsTupleIter s.heap.objs.size l 0 → h'.objs.size = s.heap.objs.size + 2 →
      (∀ b o, s.heap.get? b = some o → h'.get? b = some o) → Q (.ref (s.heap.objs.size + 1)) { s with heap := h' }) :
    wpAny (model prog w) A (call (.type "enumerate") [.ref l]) Q E s := by
  obtain ⟨⟨c, dct, dt, sl⟩, hl, hc, n, hd⟩ := hL
  replace hc : c = .type "tuple" := hc
  replace hd : dt = .seq items n := hd
  subst hc hd
  refine callType_new F.called_enumerate (by decide) (F.typeCall_enumerate_1 _) (F.newCall_enumerate_1 _) (fun obj => F.args_object_init_2 obj _) F.entry_enumerate_new
    (meets_enumerate_newT l items n dct sl) ⟨hl, ?_⟩
  have hz : (s.heap.push { cls := .type "tuple_iterator", data := .fields #[.ref l, .int 0 0] }).objs.size = s.heap.objs.size + 1 := Heap.size_push ..
  show _ ∧ _
  rw [hz]
  have he : IsEnum ((s.heap.push { cls := .type "tuple_iterator", data := .fields #[.ref l, .int 0 0] }).push
      { cls := .type "enumerate", data := .fields #[.none, .bool false, .ref s.heap.objs.size, rawInt 0, .none, .none] }) (s.heap.objs.size + 1) s.heap.objs.size 0 .none := by
    have := Heap.get?_push_size (s.heap.push { cls := .type "tuple_iterator", data := .fields #[.ref l, .int 0 0] })
      (o := { cls := .type "enumerate", data := .fields #[.none, .bool false, .ref s.heap.objs.size, rawInt 0, .none, .none] }) rfl
    rw [hz] at this; exact this
  refine ⟨⟨_, he, rfl⟩, h _ he ⟨_, Heap.get?_push_of_some _ (Heap.get?_push_size _ rfl), rfl, rfl⟩ (by rw [Heap.size_push, hz]) fun b o x => Heap.get?_push_of_some _ (Heap.get?_push_of_some _ x)⟩
end PySem
namespace LK
open PySem PySem.Spec PyProof.Rows L2
def Itet (K : PySem.W.Frag) (a : Addr) : It :=
  ⟨fun i H => ∃ (xs : List V) (x : V), SqT K H a xs ∧ xs[i]? = some x, fun i H v H' => ∃ T x, v = .ref T ∧ H T = none ∧ H' = L2.upd H T (.tup [.int (i : Nat), x]) ∧ ∀ xs, SqT K H a xs → xs[i]? = some x, fun i H => ∃ xs : List V, SqT K H a xs ∧ xs.length ≤ i⟩
theorem turn_enumT {P : Program} {w : World} {K : PySem.W.Frag} {elts : List Expr} {kk : Nat} {tpos : Pos} (a e it : Addr) :
    Turn P w K (.Tuple elts kk tpos) (Itet K a) [e, it] e (fun i h => (∃ old, IsEnum h e it ((i : Nat) : Int) old) ∧ h.IsTupleIter it a i ∧ e ≠ it ∧ a ≠ it ∧ a ≠ e) where
  mem := by simp
  obj := fun i h st b hb => by
    obtain ⟨⟨old, he⟩, ⟨o, ho, hc, hd⟩, _⟩ := st
    have e' : b = e ∨ b = it := by simpa using hb
    rcases e' with z | z
    · rw [z]; exact ⟨_, he, fun v q => nomatch q⟩
    · rw [z]; exact ⟨o, ho, fun v q => by rw [hd] at q; cases q⟩
  keep := fun i h h' st k => let ⟨⟨old, he⟩, hi, hne⟩ := st; ⟨⟨old, k e (by simp) _ he⟩, hi.at fun o q => k it (by simp) o q, hne⟩
  item := by
    intro X hP hw hK hc i pins s σ H E I hf st hg
    subst hP hw hK
    obtain ⟨⟨old, he⟩, hit, hne, hai, hae⟩ := st
    obtain ⟨xs, x, hq, hx⟩ := hg
    obtain ⟨its, rv, p, hz⟩ := I.tuple hq
    obtain ⟨u, hu, ru⟩ := rv.get hx
    have hel : e < s.heap.objs.size := Heap.lt_size he
    have hil : it < s.heap.objs.size := by obtain ⟨_, q, _⟩ := hit; exact Heap.lt_size q
    have hil2 : i < its.toArray.size := by
      have := (List.getElem?_eq_some_iff.mp hu).1
      simpa using this
    refine wpAny_pyNext_enum_itemD (Draws.tuple (A := X.A.in1) (I.ok.hd hc) it a hai its.toArray) he ⟨hit, p⟩ hil2 hne (by simp [hne, hae.symm]) fun y h' tk hy ho hit' hT hsz hk => ?_
    have hy : its.toArray[i]? = some y := hy
    rw [show its.toArray[i]? = some u by simpa using hu] at hy
    cases hy
    obtain ⟨hit1, _⟩ := hit'
    refine ⟨_, rfl, wpAny_letOwnedTupleGo_enum (s := { s with heap := h', toks := tk + 1 }) ho fun h'' he' sb => ?_⟩
    have hT2 : h''.get? s.heap.objs.size = some { cls := .type "tuple", data := .seq #[.int i tk, u] } := (sb.2 _ (Nat.ne_of_gt hel)).trans hT
    have new : ObjOk X.prog X.w (L2.upd H s.heap.objs.size (.tup [.int (i : Nat), x])) h'' s.heap.objs.size (.tup [.int (i : Nat), x]) :=
      ⟨by show 2 ≤ sizeLine; decide, [.int i tk, u], .cons ⟨_, rfl⟩ (.cons ru .nil), ⟨_, hT2, rfl, _, rfl⟩⟩
    have I1 : Inv X pins σ (L2.upd H s.heap.objs.size (.tup [.int (i : Nat), x])) { s with heap := h'', toks := tk + 1 } :=
      I.turnedNew (ch := [e, it]) (fun b ob hb q => (sb.2 b (fun z => hb (by simp [z]))).trans (hk b ob (fun z => hb (by simp [z])) (fun z => hb (by simp [z])) q)) hf (Nat.le_refl _) new
    refine ⟨.ref s.heap.objs.size, _, I1, rfl, ⟨_, x, rfl, I.hok.fresh (Nat.le_refl _), rfl, fun ys hy => by rw [I.tuple_inj hy hq]; exact hx⟩, ⟨⟨u, ?_⟩, hit1.at fun o q => (sb.2 it (Ne.symm hne)).trans q, hne, hai, hae⟩, fun b hb => ?_⟩
    · have e1 : ((i + 1 : Nat) : Int) = (i : Int) + 1 := by omega
      rw [e1]; exact he'
    · have hb' : b < s.heap.objs.size := by
        have e' : b = e ∨ b = it := by simpa using hb
        rcases e' with z | z
        · rw [z]; exact hel
        · rw [z]; exact hil
      rw [upd_ne (Nat.ne_of_lt hb')]
      exact (hf b hb).1
  done := by
    intro X hP hw hK hc i pins s σ H E I hf st hg
    subst hP hw hK
    obtain ⟨⟨old, he⟩, hit, hne, hai, hae⟩ := st
    obtain ⟨xs, hq, hx⟩ := hg
    obtain ⟨its, rv, p, hz⟩ := I.tuple hq
    obtain ⟨f0, f1, f2, f3, f4, f5⟩ := hf it (by simp)
    have hl := rv.length
    have hn : its.toArray[i]? = none := by simp; omega
    have hT : s.TypeIs (.ref e) "enumerate" := ⟨_, he, rfl⟩
    unfold pyNext
    refine wpAny_bind (wpAny_attempt (wpAny_callSpecial?_slot (name := Str.ofString "__next__") hT PySem.F.slot_enumerate_next
      (wpAny_call_entry PySem.F.slot_enumerate_next hT PySem.F.entry_enumerate_next ?_ (PySem.F.args_enumerate_next_1 _))))
    show wpAny _ _ (field (.ref e) 2 >>= _) _ _ _
    refine wpAny_bind (wpAny_field he rfl (x := .ref it) rfl ?_)
    refine wpAny_bind (RZ.nextOf_tuple_end (I.ok.hd hc) hit p hn fun h' x eb hx' => ?_)
    obtain ⟨o, ho, hc'⟩ := hx'
    refine wpAny_bind (wpAny_isInstance (T := "StopIteration") (b := true) ⟨o, ho, hc'⟩ isSubtype_stop ?_)
    exact wpAny_pure ⟨rfl, I.turned (t' := s.toks) (fun b o hb q => eb b o hb q) f0 f1 f3 f4 f5⟩
  self := fun A i s Q E st h => let ⟨⟨_, he⟩, _⟩ := st; wpAny_pyIter_enum he h
def iEnumT (K : PySem.W.Frag) (ta : TA) : TI := fun σ H R => ta σ H fun vs H1 => ∃ a xs, vs = [.ref a] ∧ SqT K H1 a xs ∧ R (Itet K a) H1
theorem pi_enumT {X : Cx} {e : Expr} {ta : TA} {p pos tpos : Pos} {elts : List Expr} {kk : Nat} (hg : Gl X "enumerate") (hm : X.mg "enumerate" = none) (ha : PA X [e] ta) (hs : starEach [e] X.env = [(false, eval e X.env)] := by rfl) :
    PI X (.Tuple elts kk tpos) (.Call (.Name "enumerate" p) [e] [] pos) (iEnumT X.K ta) := by
  refine ⟨fun pins s σ H R I h => ?_⟩
  refine Call_ (ld_blt I hg hm boot_enumerate (PyProof.Rows.callWith_type1 (thn (ha.run pos pins s σ H _ I h) fun us s1 ⟨vs, H1, I1, r1, q1⟩ => ?_) hs rfl))
  obtain ⟨a, xs, ex, hq, q⟩ := q1
  subst ex
  cases r1 with
  | cons r rr =>
    cases rr
    cases r
    obtain ⟨its, rv, p', hz⟩ := I1.tuple hq
    have al : a < s1.heap.objs.size := by obtain ⟨_, q, _⟩ := id p'; exact Heap.lt_size q
    refine call_enumerate_tuple p' fun h' he hit hsz hk => wpAny_pyIter_enum he ?_
    have I2 : Inv X pins σ H1 { s1 with heap := h' } := I1.kept (t' := s1.toks) hk
    refine ⟨s1.heap.objs.size + 1, [s1.heap.objs.size + 1, s1.heap.objs.size], _, _, H1, rfl, I2, turn_enumT a (s1.heap.objs.size + 1) s1.heap.objs.size, ⟨⟨.none, he⟩, hit, Nat.succ_ne_self _, Nat.ne_of_lt al, Nat.ne_of_lt (Nat.lt_succ_of_lt al)⟩, fun b hb => ?_, q⟩
    have e' : b = s1.heap.objs.size + 1 ∨ b = s1.heap.objs.size := by simpa using hb
    have hle : s1.heap.objs.size ≤ b := by
      rcases e' with z | z
      · rw [z]; exact Nat.le_add_right _ _
      · rw [z]; exact Nat.le_refl _
    exact I1.fpOk hle (I1.hok.fresh hle)
/-- of a list or a tuple -/
def iEnumLT (K : PySem.W.Frag) (ta : TA) : TI := fun σ H R => iEnum K ta σ H R ∨ iEnumT K ta σ H R
theorem pi_enumLT {X : Cx} {e : Expr} {ta : TA} {p pos tpos : Pos} {elts : List Expr} {kk : Nat} (hg : Gl X "enumerate") (hm : X.mg "enumerate" = none) (ha : PA X [e] ta) (hs : starEach [e] X.env = [(false, eval e X.env)] := by rfl) :
    PI X (.Tuple elts kk tpos) (.Call (.Name "enumerate" p) [e] [] pos) (iEnumLT X.K ta) :=
  ⟨fun pins s σ H R I h => h.elim ((pi_enum hg hm ha hs).run pins s σ H R I) ((pi_enumT hg hm ha hs).run pins s σ H R I)⟩
theorem pi_enumK {X : Cx} {K : PySem.W.Frag} (hK : X.K = K) {e : Expr} {ta : TA} {p pos tpos : Pos} {elts : List Expr} {kk : Nat} (hg : Gl X "enumerate") (hm : X.mg "enumerate" = none) (ha : PA X [e] ta) (hs : starEach [e] X.env = [(false, eval e X.env)] := by rfl) :
    PI X (.Tuple elts kk tpos) (.Call (.Name "enumerate" p) [e] [] pos) (iEnum K ta) := by subst hK; exact pi_enum hg hm ha hs
theorem walk_enumT {K : PySem.W.Frag} {a : Addr} {xs : List V} : Walk (Itet K a) xs.length (fun H => SqT K H a xs) (YPair (fun i => some (.int (i : Nat))) (fun i => xs[i]?)) := by
  refine ⟨fun i _ hi q => ⟨xs, xs[i], q, by simp [hi]⟩, fun _ q => ⟨xs, q, Nat.le_refl _⟩, fun i H v H' _ q y => ?_⟩
  obtain ⟨T, x, h1, h2, h3, h4⟩ := y
  exact ⟨T, _, x, h1, h2, h3, rfl, h4 xs q⟩
end LK

set_option Elab.async false
set_option linter.all false
set_option maxRecDepth 100000
namespace LK
open PySem PySem.Spec PyProof.Rows L2
/-! ### zip of a tuple and a list: two sources of any kind -/
structure Src (p : Program) (w : World) (it l : Addr) (It : Nat → Heap → Prop) (Con : Array Value → Heap → Prop) : Prop where
  mvI : ∀ {i : Nat} {h g : Heap}, It i h → (∀ o, h.get? it = some o → g.get? it = some o) → It i g
  mvC : ∀ {xs : Array Value} {h g : Heap}, Con xs h → (∀ o, h.get? l = some o → g.get? l = some o) → Con xs g
  fld : ∀ {i : Nat} {h : Heap}, It i h → ∃ o fs, h.get? it = some o ∧ o.data = .fields fs
  more : ∀ {A : Around} {E : Value → Shared → Prop} {s : Shared} {i : Nat} {xs : Array Value} {x : Value} {Q : Value → Shared → Prop}, It i s.heap → Con xs s.heap → xs[i]? = some x →
    (∀ g, It (i + 1) g → Heap.SameBut it s.heap g → Q x { s with heap := g }) → wpAny (model p w) A (Builtin.SmallTypes.nextOf (.ref it)) Q E s
  over : ∀ {A : Around} {E : Value → Shared → Prop} {s : Shared} {i : Nat} {xs : Array Value} {Q : Value → Shared → Prop}, A.handled = none → It i s.heap → Con xs s.heap → xs[i]? = none →
    (∀ g e, Heap.ExtBut it s.heap g → (∃ o, g.get? e = some o ∧ o.cls = .type "StopIteration") → E (.ref e) { s with heap := g }) → wpAny (model p w) A (Builtin.SmallTypes.nextOf (.ref it)) Q E s
theorem src_tup (p : Program) (w : World) (it l : Addr) : Src p w it l (fun i h => h.IsTupleIter it l i) (fun xs h => h.IsTuple l xs) where
  mvI := fun a b => a.at b
  mvC := fun a b => a.at b
  fld := fun ⟨o, e, _, d⟩ => ⟨o, _, e, d⟩
  more := fun a b c k => RZ.nextOf_tuple_item a b c k
  over := fun a b c d k => RZ.nextOf_tuple_end a b c d k
theorem src_lst (p : Program) (w : World) (it l : Addr) : Src p w it l (fun i h => h.IsListIter it l i) (fun xs h => h.IsList l xs) where
  mvI := fun a b => a.at b
  mvC := fun a b => a.at b
  fld := fun ⟨o, e, _, d⟩ => ⟨o, _, e, d⟩
  more := fun a b c k => wpAny_nextOf_list_item a b c k
  over := fun a b c d k => wpAny_nextOf_list_end a b c d k
/-- all that a zip holds, at one point of time -/
structure ZS (z TI TO i1 i2 : Addr) (I1 I2 : Nat → Heap → Prop) (C1 C2 : Array Value → Heap → Prop) (xs ys : Array Value) (h : Heap) (f a b : Value) (k1 k2 : Nat) : Prop where
  oz : IsZip h z TI TO f
  ti : IsPair h TI (.ref i1) (.ref i2)
  tt : IsPair h TO a b
  j1 : I1 k1 h
  j2 : I2 k2 h
  c1 : C1 xs h
  c2 : C2 ys h
section
variable {prog : Program} {w : World} {A : Around} {E : Value → Shared → Prop} {s : Shared} {z TI TO i1 i2 l1 l2 : Addr} {I1 I2 : Nat → Heap → Prop} {C1 C2 : Array Value → Heap → Prop} {xs ys : Array Value} {f a b : Value} {k1 k2 : Nat} {h g : Heap}
theorem ZS.atZ (D : ZipApart z TI TO i1 i2 l1 l2) (S1 : Src prog w i1 l1 I1 C1) (S2 : Src prog w i2 l2 I2 C2) (q : ZS z TI TO i1 i2 I1 I2 C1 C2 xs ys h f a b k1 k2) (e : Heap.ExtBut z h g) {f' : Value} (n : IsZip g z TI TO f') : ZS z TI TO i1 i2 I1 I2 C1 C2 xs ys g f' a b k1 k2 :=
  ⟨n, e _ _ D.TIz q.ti, e _ _ D.TOz q.tt, S1.mvI q.j1 fun o => e _ o D.i1z, S2.mvI q.j2 fun o => e _ o D.i2z, S1.mvC q.c1 fun o => e _ o D.l1z, S2.mvC q.c2 fun o => e _ o D.l2z⟩
theorem ZS.atO (D : ZipApart z TI TO i1 i2 l1 l2) (S1 : Src prog w i1 l1 I1 C1) (S2 : Src prog w i2 l2 I2 C2) (q : ZS z TI TO i1 i2 I1 I2 C1 C2 xs ys h f a b k1 k2) (e : Heap.ExtBut TO h g) {a' b' : Value} (n : IsPair g TO a' b') : ZS z TI TO i1 i2 I1 I2 C1 C2 xs ys g f a' b' k1 k2 :=
  ⟨e _ _ D.TOz.symm q.oz, e _ _ D.TITO q.ti, n, S1.mvI q.j1 fun o => e _ o D.TOi1.symm, S2.mvI q.j2 fun o => e _ o D.TOi2.symm, S1.mvC q.c1 fun o => e _ o D.l1TO, S2.mvC q.c2 fun o => e _ o D.l2TO⟩
theorem ZS.at1 (D : ZipApart z TI TO i1 i2 l1 l2) (S1 : Src prog w i1 l1 I1 C1) (S2 : Src prog w i2 l2 I2 C2) (q : ZS z TI TO i1 i2 I1 I2 C1 C2 xs ys h f a b k1 k2) (e : Heap.ExtBut i1 h g) {k : Nat} (n : I1 k g) : ZS z TI TO i1 i2 I1 I2 C1 C2 xs ys g f a b k k2 :=
  ⟨e _ _ D.i1z.symm q.oz, e _ _ D.TIi1 q.ti, e _ _ D.TOi1 q.tt, n, S2.mvI q.j2 fun o => e _ o D.i12.symm, S1.mvC q.c1 fun o => e _ o D.l1i1, S2.mvC q.c2 fun o => e _ o D.l2i1⟩
theorem ZS.at2 (D : ZipApart z TI TO i1 i2 l1 l2) (S1 : Src prog w i1 l1 I1 C1) (S2 : Src prog w i2 l2 I2 C2) (q : ZS z TI TO i1 i2 I1 I2 C1 C2 xs ys h f a b k1 k2) (e : Heap.ExtBut i2 h g) {k : Nat} (n : I2 k g) : ZS z TI TO i1 i2 I1 I2 C1 C2 xs ys g f a b k1 k :=
  ⟨e _ _ D.i2z.symm q.oz, e _ _ D.TIi2 q.ti, e _ _ D.TOi2 q.tt, S1.mvI q.j1 fun o => e _ o D.i12, n, S1.mvC q.c1 fun o => e _ o D.l1i2, S2.mvC q.c2 fun o => e _ o D.l2i2⟩
/-- what lies beside the zip stays -/
def Stay (z TO i1 i2 : Addr) (h g : Heap) : Prop := ∀ c o, c ≠ z → c ≠ TO → c ≠ i1 → c ≠ i2 → h.get? c = some o → g.get? c = some o
theorem Stay.tr {h1 h2 h3 : Heap} (p : Stay z TO i1 i2 h1 h2) (q : Stay z TO i1 i2 h2 h3) : Stay z TO i1 i2 h1 h3 := fun c o n1 n2 n3 n4 e => q c o n1 n2 n3 n4 (p c o n1 n2 n3 n4 e)
theorem Stay.zz (e : Heap.ExtBut z h g) : Stay z TO i1 i2 h g := fun c o n1 _ _ _ => e c o n1
theorem Stay.o (e : Heap.ExtBut TO h g) : Stay z TO i1 i2 h g := fun c o _ n2 _ _ => e c o n2
theorem Stay.i (e : Heap.ExtBut i1 h g) : Stay z TO i1 i2 h g := fun c o _ _ n3 _ => e c o n3
theorem Stay.j (e : Heap.ExtBut i2 h g) : Stay z TO i1 i2 h g := fun c o _ _ _ n4 => e c o n4
theorem zm_item {x y : Value} {Q : Value → Shared → Prop} (D : ZipApart z TI TO i1 i2 l1 l2) (S1 : Src prog w i1 l1 I1 C1) (S2 : Src prog w i2 l2 I2 C2) (q0 : ZS z TI TO i1 i2 I1 I2 C1 C2 xs ys s.heap .none a b k1 k2) (hx : xs[k1]? = some x) (hy : ys[k2]? = some y)
    (k : ∀ g, ZS z TI TO i1 i2 I1 I2 C1 C2 xs ys g (rawInt s.heap.objs.size) x y (k1 + 1) (k2 + 1) → IsPair g s.heap.objs.size x y → g.objs.size = s.heap.objs.size + 1 → Stay z TO i1 i2 s.heap g → Q (.ref s.heap.objs.size) { s with heap := g }) :
    wpAny (model prog w) A (Builtin.«zip.__next__» ⟨[.ref z], []⟩) (fun r s' => ∃ v, r = .done (.ret v) ∧ Q v s') E s := by
  have oz := q0.oz
  show wpAny (model prog w) _ (field (.ref z) 2 >>= _) _ E _
  refine wpAny_bind (wpAny_field oz rfl (x := .bool false) rfl ?_)
  show wpAny (model prog w) _ (field (.ref z) 3 >>= _) _ E _
  refine wpAny_bind (wpAny_field oz rfl (x := .ref TI) rfl (wpAny_bind (wpAny_seqItems q0.ti rfl ?_)))
  show wpAny (model prog w) _ (Builtin.SmallTypes.ownedTupleIsFree (.ref z) >>= _) _ E _; unfold Builtin.SmallTypes.ownedTupleIsFree
  refine wpAny_bind (wpAny_bind (wpAny_field oz rfl (x := .none) rfl (wpAny_pure ?_)))
  simp only [if_true]
  refine wpAny_bind (wpAny_rule (wpAny_bind (wpAny_field oz rfl (x := .ref TO) rfl (wpAny_bind (wpAny_setField_rec oz (by simp) fun g1 z1 e1 => ?_)))))
  have q1 := q0.atZ D S1 S2 e1.extBut (f' := .ellipsis) z1
  have t1 : Stay z TO i1 i2 s.heap g1 := .zz e1.extBut
  simp only [List.forIn_cons, List.forIn_nil, List.zipIdx_cons, List.zipIdx_nil]
  refine wpAny_bind (wpAny_bind (wpAny_bind (wpAny_onRaise ?_)))
  show wpAny (model prog w) _ (Builtin.SmallTypes.nextOf (.ref i1) >>= _) _ _ _
  refine wpAny_bind (S1.more q1.j1 q1.c1 hx fun g2 n2 e2 => wpAny_pure ?_)
  have q2 := q1.at1 D S1 S2 e2.extBut n2
  have t2 := t1.tr (.i e2.extBut)
  refine wpAny_bind (wpAny_seqItems q2.tt rfl (wpAny_bind (wpAny_updateSeq_pair q2.tt fun g3 n3 e3 => ?_)))
  have q3 := q2.atO D S1 S2 e3.extBut (a' := x) (b' := b) n3
  have t3 := t2.tr (.o e3.extBut)
  refine wpAny_bind (wpAny_letGo (wpAny_pure (wpAny_bind (wpAny_bind (wpAny_onRaise ?_)))))
  show wpAny (model prog w) _ (Builtin.SmallTypes.nextOf (.ref i2) >>= _) _ _ _
  refine wpAny_bind (S2.more q3.j2 q3.c2 hy fun g4 n4 e4 => wpAny_pure ?_)
  have q4 := q3.at2 D S1 S2 e4.extBut n4
  have t4 := t3.tr (.j e4.extBut)
  refine wpAny_bind (wpAny_seqItems q4.tt rfl (wpAny_bind (wpAny_updateSeq_pair q4.tt fun g5 n5 e5 => ?_)))
  have q5 := q4.atO D S1 S2 e5.extBut (a' := x) (b' := y) n5
  have t5 := t4.tr (.o e5.extBut)
  have sz : g5.objs.size = s.heap.objs.size := by rw [e5.1, e4.1, e3.1, e2.1, e1.1]
  refine wpAny_bind (wpAny_letGo (wpAny_pure (wpAny_pure (wpAny_bind (wpAny_seqItems q5.tt rfl (wpAny_bind (wpAny_newTuple ?_)))))))
  show wpAny (model prog w) _ (Builtin.SmallTypes.ownedTupleHandOut (.ref z) (.ref g5.objs.size) >>= _) _ E _; unfold Builtin.SmallTypes.ownedTupleHandOut
  have pz : IsZip (g5.push { cls := .type "tuple", data := .seq #[x, y] }) z TI TO .ellipsis := Heap.get?_push_of_some _ q5.oz
  refine wpAny_bind (wpAny_bind (wpAny_setField_rec pz (by simp) fun g7 z7 e7 => ?_))
  have z7' : IsZip g7 z TI TO (rawInt g5.objs.size) := z7
  refine wpAny_setField_rec z7' (by simp) fun g8 z8 e8 => ?_
  have z8' : IsZip g8 z TI TO (rawInt g5.objs.size) := z8
  have e58 : Heap.ExtBut z g5 g8 := fun c o n e => e8.extBut _ _ n (e7.extBut _ _ n (Heap.get?_push_of_some _ e))
  have q8 := q5.atZ D S1 S2 e58 z8'
  have nz : g5.objs.size ≠ z := Nat.ne_of_gt (Heap.lt_size q5.oz)
  have p8 : IsPair g8 g5.objs.size x y := e8.extBut _ _ nz (e7.extBut _ _ nz (Heap.get?_push_size _ rfl))
  have s8 : g8.objs.size = g5.objs.size + 1 := by rw [e8.1, e7.1, Heap.size_push]
  refine wpAny_pure ⟨.ref g5.objs.size, rfl, ?_⟩
  rw [sz] at q8 p8 s8 ⊢
  exact k g8 q8 p8 s8 (t5.tr (.zz e58))
/-- the last turn: one of the two has no more -/
theorem zm_end {Q : Fin → Shared → Prop} (hh : A.handled = none) (D : ZipApart z TI TO i1 i2 l1 l2) (S1 : Src prog w i1 l1 I1 C1) (S2 : Src prog w i2 l2 I2 C2) (q0 : ZS z TI TO i1 i2 I1 I2 C1 C2 xs ys s.heap .none a b k1 k2) (he : xs[k1]? = none ∨ ys[k2]? = none)
    (k : ∀ g e, Stay z TO i1 i2 s.heap g → (∃ o, g.get? e = some o ∧ o.cls = .type "StopIteration") → E (.ref e) { s with heap := g }) : wpAny (model prog w) A (Builtin.«zip.__next__» ⟨[.ref z], []⟩) Q E s := by
  have oz := q0.oz
  show wpAny (model prog w) _ (field (.ref z) 2 >>= _) _ E _
  refine wpAny_bind (wpAny_field oz rfl (x := .bool false) rfl ?_)
  show wpAny (model prog w) _ (field (.ref z) 3 >>= _) _ E _
  refine wpAny_bind (wpAny_field oz rfl (x := .ref TI) rfl (wpAny_bind (wpAny_seqItems q0.ti rfl ?_)))
  show wpAny (model prog w) _ (Builtin.SmallTypes.ownedTupleIsFree (.ref z) >>= _) _ E _; unfold Builtin.SmallTypes.ownedTupleIsFree
  refine wpAny_bind (wpAny_bind (wpAny_field oz rfl (x := .none) rfl (wpAny_pure ?_)))
  simp only [if_true]
  refine wpAny_bind (wpAny_rule (wpAny_bind (wpAny_field oz rfl (x := .ref TO) rfl (wpAny_bind (wpAny_setField_rec oz (by simp) fun g1 z1 e1 => ?_)))))
  have q1 := q0.atZ D S1 S2 e1.extBut (f' := .ellipsis) z1
  have t1 : Stay z TO i1 i2 s.heap g1 := .zz e1.extBut
  have fin : ∀ {g2 : Heap} {e : Addr}, IsZip g2 z TI TO .ellipsis → Stay z TO i1 i2 s.heap g2 → (∃ o, g2.get? e = some o ∧ o.cls = .type "StopIteration") → ∀ g3, Heap.SameBut z g2 g3 → E (.ref e) { s with heap := g3 } := fun z2 t2 ⟨o, h1, h2⟩ g3 e3 =>
    k _ _ (t2.tr (.zz e3.extBut)) ⟨o, e3.extBut _ _ (fun n => by subst n; rw [z2] at h1; cases h1; simp at h2) h1, h2⟩
  simp only [List.forIn_cons, List.forIn_nil, List.zipIdx_cons, List.zipIdx_nil]
  refine wpAny_bind (wpAny_bind (wpAny_bind (wpAny_onRaise ?_)))
  show wpAny (model prog w) _ (Builtin.SmallTypes.nextOf (.ref i1) >>= _) _ _ _
  by_cases hx : xs[k1]? = none
  · refine wpAny_bind (S1.over hh q1.j1 q1.c1 hx fun g2 e e2 so => ?_)
    have z2 := e2 _ _ D.i1z.symm q1.oz
    exact wpAny_setField_rec z2 (by simp) fun g3 _ e3 => fin z2 (t1.tr (.i e2)) so g3 e3
  · obtain ⟨x, hx1⟩ := Option.ne_none_iff_exists'.mp hx
    have hy := he.resolve_left hx
    refine wpAny_bind (S1.more q1.j1 q1.c1 hx1 fun g2 n2 e2 => wpAny_pure ?_)
    have q2 := q1.at1 D S1 S2 e2.extBut n2
    refine wpAny_bind (wpAny_seqItems q2.tt rfl (wpAny_bind (wpAny_updateSeq_pair q2.tt fun g3 n3 e3 => ?_)))
    have q3 := q2.atO D S1 S2 e3.extBut (a' := x) (b' := b) n3
    refine wpAny_bind (wpAny_letGo (wpAny_pure (wpAny_bind (wpAny_bind (wpAny_onRaise ?_)))))
    show wpAny (model prog w) _ (Builtin.SmallTypes.nextOf (.ref i2) >>= _) _ _ _
    refine wpAny_bind (S2.over hh q3.j2 q3.c2 hy fun g4 e e4 so => ?_)
    have z4 := e4 _ _ D.i2z.symm q3.oz
    exact wpAny_setField_rec z4 (by simp) fun g5 _ e5 => fin z4 (((t1.tr (.i e2.extBut)).tr (.o e3.extBut)).tr (.j e4)) so g5 e5
theorem zm_next {x y : Value} {Q : Option Value → Shared → Prop} (D : ZipApart z TI TO i1 i2 l1 l2) (S1 : Src prog w i1 l1 I1 C1) (S2 : Src prog w i2 l2 I2 C2) (q0 : ZS z TI TO i1 i2 I1 I2 C1 C2 xs ys s.heap .none a b k1 k2) (hx : xs[k1]? = some x) (hy : ys[k2]? = some y)
    (k : ∀ g, ZS z TI TO i1 i2 I1 I2 C1 C2 xs ys g (rawInt s.heap.objs.size) x y (k1 + 1) (k2 + 1) → IsPair g s.heap.objs.size x y → g.objs.size = s.heap.objs.size + 1 → Stay z TO i1 i2 s.heap g → Q (some (.ref s.heap.objs.size)) { s with heap := g }) : wpAny (model prog w) A (pyNext (.ref z)) Q E s := by
  have ty : s.TypeIs (.ref z) "zip" := ⟨_, q0.oz, rfl⟩
  unfold pyNext
  exact wpAny_bind (wpAny_attempt (wpAny_callSpecial?_slot (name := Str.ofString "__next__") ty F.slot_zip_next (wpAny_call_entry F.slot_zip_next ty F.entry_zip_next (zm_item D S1 S2 q0 hx hy fun g p1 p2 p3 p4 => wpAny_pure (k g p1 p2 p3 p4)) (F.args_zip_next_1 _))))
theorem zm_stop {Q : Option Value → Shared → Prop} (hh : A.handled = none) (D : ZipApart z TI TO i1 i2 l1 l2) (S1 : Src prog w i1 l1 I1 C1) (S2 : Src prog w i2 l2 I2 C2) (q0 : ZS z TI TO i1 i2 I1 I2 C1 C2 xs ys s.heap .none a b k1 k2) (he : xs[k1]? = none ∨ ys[k2]? = none)
    (k : ∀ g, Stay z TO i1 i2 s.heap g → Q none { s with heap := g }) : wpAny (model prog w) A (pyNext (.ref z)) Q E s := by
  have ty : s.TypeIs (.ref z) "zip" := ⟨_, q0.oz, rfl⟩
  unfold pyNext
  refine wpAny_bind (wpAny_attempt (wpAny_callSpecial?_slot (name := Str.ofString "__next__") ty F.slot_zip_next (wpAny_call_entry F.slot_zip_next ty F.entry_zip_next (zm_end hh D S1 S2 q0 he fun g e st so => ?_) (F.args_zip_next_1 _))))
  obtain ⟨o, h1, h2⟩ := so
  exact wpAny_bind (wpAny_isInstance (T := "StopIteration") (b := true) ⟨o, h1, h2⟩ isSubtype_stop (wpAny_pure (k _ st)))
end
/-- the five new objects of zip(tuple, list) -/
def zp1 (h : Heap) (l1 : Addr) : Heap := h.push { cls := .type "tuple_iterator", data := .fields #[.ref l1, .int 0 0] }
def zp2 (h : Heap) (l1 l2 : Addr) : Heap := (zp1 h l1).push { cls := .type "list_iterator", data := .fields #[.ref l2, .int 0 0] }
def zp3 (h : Heap) (l1 l2 : Addr) : Heap := (zp2 h l1 l2).push { cls := .type "tuple", data := .seq #[.ref h.objs.size, .ref (zp1 h l1).objs.size] }
def zp4 (h : Heap) (l1 l2 : Addr) : Heap := (zp3 h l1 l2).push { cls := .type "tuple", data := .seq #[.none, .none] }
def zp5 (h : Heap) (l1 l2 : Addr) : Heap := (zp4 h l1 l2).push { cls := .type "zip", data := .fields #[.none, .bool false, .bool false, .ref (zp2 h l1 l2).objs.size, .ref (zp3 h l1 l2).objs.size] }
theorem zp_new (l1 l2 : Addr) (xs ys : Array Value) : Meets (Builtin.«zip.__new__» ⟨[.type "zip", .ref l1, .ref l2], []⟩) fun _ R s => s.heap.IsTuple l1 xs ∧ s.heap.IsList l2 ys ∧ R (.ok (.ret (.ref (zp4 s.heap l1 l2).objs.size))) { s with heap := zp5 s.heap l1 l2 } :=
  .of_wp fun pr wd ar R s h => by
    obtain ⟨hp, gl, dd, tk, os⟩ := s
    obtain ⟨h1, h2, h⟩ := h
    have hsub := sub_zip
    have t1 : Heap.IsTuple (Shared.heap ⟨hp, gl, dd, tk, os⟩) l1 xs := h1
    have t2 : Heap.IsList (Shared.heap ⟨hp.push { cls := .type "tuple_iterator", data := .fields #[.ref l1, .int 0 0] }, gl, dd, tk, os⟩) l2 ys := Heap.IsList.push h2 _
    wp_walk using wpAny_pyIter_tuple t1, wpAny_pyIter_list t2
    exact ⟨_, rfl, h⟩
section
variable {prog : Program} {w : World} {s : Shared} {A : Around} {E : Value → Shared → Prop}
theorem call_zipM {l1 l2 : Addr} {xs ys : Array Value} {Q : Value → Shared → Prop} (h1 : s.heap.IsTuple l1 xs) (h2 : s.heap.IsList l2 ys)
    (k : ∀ g, IsZip g (s.heap.objs.size + 4) (s.heap.objs.size + 2) (s.heap.objs.size + 3) .none → IsPair g (s.heap.objs.size + 2) (.ref s.heap.objs.size) (.ref (s.heap.objs.size + 1)) → IsPair g (s.heap.objs.size + 3) .none .none →
      g.IsTupleIter s.heap.objs.size l1 0 → g.IsListIter (s.heap.objs.size + 1) l2 0 → (∀ c o, s.heap.get? c = some o → g.get? c = some o) → Q (.ref (s.heap.objs.size + 4)) { s with heap := g }) : wpAny (model prog w) A (call (.type "zip") [.ref l1, .ref l2]) Q E s := by
  refine callType_new F.called_zip (by decide) (F.typeCall_zip_2 _ _) (F.newCall_zip_2 _ _) (fun obj => F.args_object_init_3 obj _ _) F.entry_zip_new (zp_new l1 l2 xs ys) ⟨h1, h2, ?_⟩
  have n1 : (zp1 s.heap l1).objs.size = s.heap.objs.size + 1 := Heap.size_push _ _
  have n2 : (zp2 s.heap l1 l2).objs.size = s.heap.objs.size + 2 := (Heap.size_push _ _).trans (by rw [n1])
  have n3 : (zp3 s.heap l1 l2).objs.size = s.heap.objs.size + 3 := (Heap.size_push _ _).trans (by rw [n2])
  have n4 : (zp4 s.heap l1 l2).objs.size = s.heap.objs.size + 4 := (Heap.size_push _ _).trans (by rw [n3])
  have m5 : IsZip (zp5 s.heap l1 l2) (zp4 s.heap l1 l2).objs.size (zp2 s.heap l1 l2).objs.size (zp3 s.heap l1 l2).objs.size .none := Heap.get?_push_size _ rfl
  have m4 : IsPair (zp5 s.heap l1 l2) (zp3 s.heap l1 l2).objs.size .none .none := Heap.get?_push_of_some _ (Heap.get?_push_size _ rfl)
  have m3 : IsPair (zp5 s.heap l1 l2) (zp2 s.heap l1 l2).objs.size (.ref s.heap.objs.size) (.ref (zp1 s.heap l1).objs.size) := Heap.get?_push_of_some _ (Heap.get?_push_of_some _ (Heap.get?_push_size _ rfl))
  have m2 : (zp5 s.heap l1 l2).IsListIter (zp1 s.heap l1).objs.size l2 0 := ⟨_, Heap.get?_push_of_some _ (Heap.get?_push_of_some _ (Heap.get?_push_of_some _ (Heap.get?_push_size _ rfl))), rfl, rfl⟩
  have m1 : (zp5 s.heap l1 l2).IsTupleIter s.heap.objs.size l1 0 := ⟨_, Heap.get?_push_of_some _ (Heap.get?_push_of_some _ (Heap.get?_push_of_some _ (Heap.get?_push_of_some _ (Heap.get?_push_size _ rfl)))), rfl, rfl⟩
  have m0 : ∀ c o, s.heap.get? c = some o → (zp5 s.heap l1 l2).get? c = some o := fun c o e => Heap.get?_push_of_some _ (Heap.get?_push_of_some _ (Heap.get?_push_of_some _ (Heap.get?_push_of_some _ (Heap.get?_push_of_some _ e))))
  rw [n2, n3, n4] at m5
  rw [n3] at m4
  rw [n2, n1] at m3
  rw [n1] at m2
  show _ ∧ _
  rw [n4]
  exact ⟨⟨_, m5, rfl⟩, k _ m5 m3 m4 m1 m2 m0⟩
end
def ItzM (K : PySem.W.Frag) (a b : Addr) : It where
  go := fun i H => ∃ (xs ys : List V) (x y : V), SqT K H a xs ∧ SqL K H b ys ∧ xs[i]? = some x ∧ ys[i]? = some y
  yld := fun i H v H' => ∃ T x y, v = .ref T ∧ H T = none ∧ H' = L2.upd H T (.tup [x, y]) ∧ (∀ xs, SqT K H a xs → xs[i]? = some x) ∧ ∀ ys, SqL K H b ys → ys[i]? = some y
  stop := fun i H => ∃ xs ys : List V, SqT K H a xs ∧ SqL K H b ys ∧ (xs.length ≤ i ∨ ys.length ≤ i)
def tnM (z TI TO i1 i2 a b : Addr) (i : Nat) (h : Heap) : Prop := ∃ x y, IsZip h z TI TO .none ∧ IsPair h TI (.ref i1) (.ref i2) ∧ IsPair h TO x y ∧ h.IsTupleIter i1 a i ∧ h.IsListIter i2 b i
theorem turn_zipM {P : Program} {w : World} {K : PySem.W.Frag} {elts : List Expr} {kk : Nat} {tpos : Pos} {a b z TI TO i1 i2 : Addr} (D : ZipApart z TI TO i1 i2 a b) : Turn P w K (.Tuple elts kk tpos) (ItzM K a b) [z, TI, TO, i1, i2] z (tnM z TI TO i1 i2 a b) where
  mem := List.mem_cons_self
  obj := fun i h ⟨x, y, h1, h2, h3, h4, h5⟩ c hc => by
    obtain ⟨o4, f4, e4, d4⟩ := (src_tup P w i1 a).fld h4
    obtain ⟨o5, f5, e5, d5⟩ := (src_lst P w i2 b).fld h5
    simp only [List.mem_cons, List.not_mem_nil, or_false] at hc
    rcases hc with rfl | rfl | rfl | rfl | rfl
    · exact ⟨_, h1, fun v q => nomatch q⟩
    · exact ⟨_, h2, fun v q => nomatch q⟩
    · exact ⟨_, h3, fun v q => nomatch q⟩
    · exact ⟨o4, e4, fun v q => by rw [d4] at q; cases q⟩
    · exact ⟨o5, e5, fun v q => by rw [d5] at q; cases q⟩
  keep := fun i h g ⟨x, y, h1, h2, h3, h4, h5⟩ k => ⟨x, y, k z (by simp) _ h1, k TI (by simp) _ h2, k TO (by simp) _ h3, (src_tup P w i1 a).mvI h4 fun o => k i1 (by simp) o, (src_lst P w i2 b).mvI h5 fun o => k i2 (by simp) o⟩
  item := by
    rintro X rfl rfl rfl hc i pins s σ H E I hf ⟨x0, y0, h1, h2, h3, h4, h5⟩ ⟨xs, ys, x, y, qx, qy, ex, ey⟩
    obtain ⟨its, rv, p, _⟩ := I.tuple qx
    obtain ⟨jts, rw', p', _⟩ := I.list qy
    obtain ⟨u, eu, ru⟩ := rv.get ex
    obtain ⟨v, ev, rvv⟩ := rw'.get ey
    refine zm_next D (src_tup X.prog X.w i1 a) (src_lst X.prog X.w i2 b) ⟨h1, h2, h3, h4, h5, (show s.heap.IsTuple a its.toArray from p), p'.isList⟩ (x := u) (y := v) (by simpa using eu) (by simpa using ev) fun g q pp sz st => ⟨_, rfl, wpAny_letOwnedTupleGo_zip (s := { s with heap := g }) q.oz fun g2 z2 e2 => ?_⟩
    have q2 := q.atZ D (src_tup X.prog X.w i1 a) (src_lst X.prog X.w i2 b) e2.extBut z2
    have nz : s.heap.objs.size ≠ z := Nat.ne_of_gt (Heap.lt_size h1)
    have pp2 : IsPair g2 s.heap.objs.size u v := e2.extBut _ _ nz pp
    have ok : ObjOk X.prog X.w (L2.upd H s.heap.objs.size (.tup [x, y])) g2 s.heap.objs.size (.tup [x, y]) := ⟨by show 2 ≤ sizeLine; decide, [u, v], .cons ru (.cons rvv .nil), ⟨_, pp2, rfl, _, rfl⟩⟩
    have st2 : Stay z TO i1 i2 s.heap g2 := st.tr (.zz e2.extBut)
    have I2 : Inv X pins σ (L2.upd H s.heap.objs.size (.tup [x, y])) { s with heap := g2 } := I.turnedNew (t' := s.toks) (ch := [z, TI, TO, i1, i2]) (fun c o hb e => st2 c o (fun n => hb (by simp [n])) (fun n => hb (by simp [n])) (fun n => hb (by simp [n])) (fun n => hb (by simp [n])) e) hf (Nat.le_refl _) ok
    refine ⟨.ref s.heap.objs.size, _, I2, rfl, ⟨_, x, y, rfl, I.hok.fresh (Nat.le_refl _), rfl, fun l hl => by rw [I.tuple_inj hl qx]; exact ex, fun l hl => by rw [I.list_inj hl qy]; exact ey⟩, ⟨u, v, q2.oz, q2.ti, q2.tt, q2.j1, q2.j2⟩, fun c hcm => ?_⟩
    have lt : c < s.heap.objs.size := by
      obtain ⟨o4, _, e4, _⟩ := (src_tup X.prog X.w i1 a).fld h4
      obtain ⟨o5, _, e5, _⟩ := (src_lst X.prog X.w i2 b).fld h5
      have m := hcm
      simp only [List.mem_cons, List.not_mem_nil, or_false] at m
      rcases m with rfl | rfl | rfl | rfl | rfl
      · exact Heap.lt_size h1
      · exact Heap.lt_size h2
      · exact Heap.lt_size h3
      · exact Heap.lt_size e4
      · exact Heap.lt_size e5
    rw [upd_ne (Nat.ne_of_lt lt)]
    exact (hf c hcm).1
  done := by
    rintro X rfl rfl rfl hc i pins s σ H E I hf ⟨x0, y0, h1, h2, h3, h4, h5⟩ ⟨xs, ys, qx, qy, he⟩
    obtain ⟨its, rv, p, _⟩ := I.tuple qx
    obtain ⟨jts, rw', p', _⟩ := I.list qy
    have l1 := rv.length
    have l2 := rw'.length
    refine zm_stop (I.ok.hd hc) D (src_tup X.prog X.w i1 a) (src_lst X.prog X.w i2 b) ⟨h1, h2, h3, h4, h5, (show s.heap.IsTuple a its.toArray from p), p'.isList⟩ (he.imp (fun l => by simp; omega) fun l => by simp; omega) fun g st => ⟨rfl, I.turnedL (t' := s.toks) (ch := [z, TI, TO, i1, i2]) (fun c o hb e => st c o (fun n => hb (by simp [n])) (fun n => hb (by simp [n])) (fun n => hb (by simp [n])) (fun n => hb (by simp [n])) e) hf⟩
  self := fun A i s Q E ⟨_, _, h1, _⟩ k => wpAny_pyIter_zip h1 k
def iZipM (K : PySem.W.Frag) (ta : TA) : TI := fun σ H R => ta σ H fun vs H1 => ∃ a b xs ys, vs = [.ref a, .ref b] ∧ SqT K H1 a xs ∧ SqL K H1 b ys ∧ R (ItzM K a b) H1
theorem pi_zipM {X : Cx} {e e2 : Expr} {ta : TA} {p pos tpos : Pos} {elts : List Expr} {kk : Nat} (hg : Gl X "zip") (hm : X.mg "zip" = none) (ha : PA X [e, e2] ta) (hs : starEach [e, e2] X.env = (false, eval e X.env) :: starEach [e2] X.env := by rfl) (hpl : (backTo pos (starEach [e2] X.env)).any (·.1) = false := by rfl) :
    PI X (.Tuple elts kk tpos) (.Call (.Name "zip" p) [e, e2] [] pos) (iZipM X.K ta) := by
  refine ⟨fun pins s σ H R I h => Call_ (ld_blt I hg hm PyProof.Rows.boot_zip (PyProof.Rows.callWith_type1 (thn (ha.run pos pins s σ H _ I h) fun us s1 ⟨vs, H1, I1, r1, a, b, xs, ys, ex, qx, qy, q⟩ => ?_) hs hpl))⟩
  subst ex
  obtain _ | ⟨r, r'⟩ := r1
  obtain _ | ⟨r2, r''⟩ := r'
  cases r''
  cases r
  cases r2
  obtain ⟨its, rv, p1, _⟩ := I1.tuple qx
  obtain ⟨jts, rw', p2, _⟩ := I1.list qy
  obtain ⟨o1, ho1, _⟩ := id p1
  refine call_zipM (show s1.heap.IsTuple a its.toArray from p1) p2.isList fun g z1 z2 z3 z4 z5 k => wpAny_pyIter_zip z1 ?_
  have I2 : Inv X pins σ H1 { s1 with heap := g } := I1.kept (t' := s1.toks) k
  refine ⟨s1.heap.objs.size + 4, [s1.heap.objs.size + 4, s1.heap.objs.size + 2, s1.heap.objs.size + 3, s1.heap.objs.size, s1.heap.objs.size + 1], _, _, H1, rfl, I2, turn_zipM (PySem.W.ktu_apart s1.heap.objs.size a b (Heap.lt_size ho1) p2.lt), ⟨_, _, z1, z2, z3, z4, z5⟩, fun c hc => ?_, q⟩
  have le : s1.heap.objs.size ≤ c := by
    simp only [List.mem_cons, List.not_mem_nil, or_false] at hc
    rcases hc with rfl | rfl | rfl | rfl | rfl
    · exact Nat.le_add_right _ _
    · exact Nat.le_add_right _ _
    · exact Nat.le_add_right _ _
    · exact Nat.le_refl _
    · exact Nat.le_add_right _ _
  exact I1.fpOk le (I1.hok.fresh le)
theorem walk_zipM {K : PySem.W.Frag} {a b : Addr} {xs ys : List V} {n : Nat} (hx : xs.length = n) (hy : ys.length = n) : Walk (ItzM K a b) n (fun H => SqT K H a xs ∧ SqL K H b ys) (YPair (fun i => xs[i]?) fun i => ys[i]?) where
  goes := fun i _ hi q => ⟨xs, ys, xs[i]'(by omega), ys[i]'(by omega), q.1, q.2, List.getElem?_eq_getElem _, List.getElem?_eq_getElem _⟩
  stops := fun _ q => ⟨xs, ys, q.1, q.2, .inl (by omega)⟩
  yields := fun i H v H' _ q ⟨T, x, y, h1, h2, h3, h4, h5⟩ => ⟨T, x, y, h1, h2, h3, h4 xs q.1, h5 ys q.2⟩
end LK

set_option Elab.async false
set_option linter.all false
set_option maxRecDepth 100000
namespace LK
open PySem PySem.Spec PyProof.Rows L2
/-! ### rules with K in the place of X.K -/
section
variable {X : Cx} {K : PySem.W.Frag}
/-- of a list or a tuple -/
def rIxLT (K : PySem.W.Frag) : R2 := fun x y H Q => ∃ p xs i z, x = .ref p ∧ y = .int i ∧ (SqL K H p xs ∨ SqT K H p xs) ∧ atI xs i = some z ∧ Q z H
theorem ix_lt : IxR X (rIxLT X.K) := by
  intro value slice pins s σ H x y v u Q I rx ry h hs
  obtain ⟨p, xs, i, z, e1, e2, hq | hq, he, q⟩ := h
  · exact ix_list value slice pins s σ H x y v u Q I rx ry ⟨p, xs, i, z, e1, e2, hq, he, q⟩ hs
  · exact ix_tup value slice pins s σ H x y v u Q I rx ry ⟨p, xs, i, z, e1, e2, hq, he, q⟩ hs
theorem ix_ltK (hK : X.K = K) : IxR X (rIxLT K) := by subst hK; exact ix_lt
theorem ix_listK (hK : X.K = K) : IxR X (rIxL K) := by subst hK; exact ix_list
theorem ix_tupK (hK : X.K = K) : IxR X (rIxT K) := by subst hK; exact ix_tup
theorem sl_tupUK (hK : X.K = K) : SlR X (rSlU K) := by subst hK; exact sl_tupU
theorem sl_listUK (hK : X.K = K) : SlR X (rSlLU K) := by subst hK; exact sl_listU
theorem op_catUK (hK : X.K = K) : OpR X (binaryOp .Add) (rCatU K) := by subst hK; exact op_catU
theorem op_eqDK (hK : X.K = K) (hu : X.A.units + 64 < cLine) : OpR X (compareOp .Eq) (rEqD K) := by subst hK; exact op_eqD hu
theorem op_neDK (hK : X.K = K) (hu : X.A.units + 64 < cLine) : OpR X (compareOp .NotEq) (rNeD K) := by subst hK; exact op_neD hu
theorem call_tupleNK (hK : X.K = K) : CallR X (.type "tuple") (fun xs H Q => ∃ p ys, xs = [.ref p] ∧ SqL K H p ys ∧ ∀ q H', Same H H' → H q = none → H' q = some (.tup ys) → Q (.ref q) H') := by subst hK; exact call_tupleN
theorem call_tupleUK (hK : X.K = K) : CallR X (.type "tuple") (fun xs H Q => ∃ p ys, xs = [.ref p] ∧ (SqL K H p ys ∨ SqT K H p ys) ∧ ∀ q H', Same H H' → SqT K H' q ys → Q (.ref q) H') := by subst hK; exact call_tupleU
theorem call_listUK (hK : X.K = K) : CallR X (.type "list") (fun xs H Q => ∃ p ys, xs = [.ref p] ∧ (SqL K H p ys ∨ SqT K H p ys) ∧ ∀ l H2, Same H H2 → H l = none → H2 l = some (.lst ys) → Q (.ref l) H2) := by subst hK; exact call_listU
theorem call_len_seqK (hK : X.K = K) : CallR X (.builtin "len") (fun xs H Q => ∃ p ys, xs = [.ref p] ∧ (SqL K H p ys ∨ SqT K H p ys) ∧ Q (.int ys.length) H) := by subst hK; exact call_len_seq
theorem cr_sumK (hK : X.K = K) (hc : X.calm = true) : CallR X (.builtin "sum") (rSum K) := by subst hK; exact cr_sum hc
theorem cr_maxK (hK : X.K = K) (hc : X.calm = true) : CallR X (.builtin "max") (rMax K) := by subst hK; exact cr_max hc
theorem cr_allK (hK : X.K = K) (hc : X.calm = true) : CallR X (.builtin "all") (rAll K) := by subst hK; exact cr_all hc
theorem pi_listK (hK : X.K = K) {tg l : Expr} {tl : TE} (hl : PE X l tl) : PI X tg l (iList K tl) := by subst hK; exact pi_list hl
theorem pi_tupK (hK : X.K = K) {tg l : Expr} {tl : TE} (hl : PE X l tl) : PI X tg l (iTup K tl) := by subst hK; exact pi_tup hl
def iLT (K : PySem.W.Frag) (tl : TE) : TI := fun σ H R => iList K tl σ H R ∨ iTup K tl σ H R
theorem pi_lt {tg l : Expr} {tl : TE} (hl : PE X l tl) : PI X tg l (iLT X.K tl) :=
  ⟨fun pins s σ H R I h => h.elim ((pi_list hl).run pins s σ H R I) ((pi_tup hl).run pins s σ H R I)⟩
theorem pi_ltK (hK : X.K = K) {tg l : Expr} {tl : TE} (hl : PE X l tl) : PI X tg l (iLT K tl) := by subst hK; exact pi_lt hl
end
end LK

set_option Elab.async false
set_option linter.all false
set_option maxRecDepth 100000
namespace LK
open PySem PySem.Spec PyProof.Rows L2
/-! ### sorted(d) of a dict whose keys are tuples of whole numbers -/
theorem perm_lift {α β : Type} {f : α → β} {l m : List β} (h : l.Perm m) : ∀ {L : List α}, m = L.map f → ∃ L' : List α, l = L'.map f ∧ L'.Perm L := by
  induction h with
  | nil =>
    intro L e
    cases L with
    | nil => exact ⟨[], rfl, .nil⟩
    | cons _ _ => cases e
  | cons x _ ih =>
    intro L e
    cases L with
    | nil => cases e
    | cons a L =>
      injection e with e1 e2
      obtain ⟨L', h1, h2⟩ := ih e2
      exact ⟨a :: L', by rw [List.map_cons, ← e1, ← h1], .cons a h2⟩
  | swap x y l =>
    intro L e
    cases L with
    | nil => cases e
    | cons a L =>
      cases L with
      | nil => cases e
      | cons b L =>
        injection e with e1 e2
        injection e2 with e2 e3
        exact ⟨b :: a :: L, by rw [List.map_cons, List.map_cons, ← e1, ← e2, ← e3], .swap a b L⟩
  | trans _ _ ih1 ih2 =>
    intro L e
    obtain ⟨L1, h1, h2⟩ := ih2 e
    obtain ⟨L2, h3, h4⟩ := ih1 h1
    exact ⟨L2, h3, h4.trans h2⟩
section
variable {X : Cx}
theorem call_sortedDT (hcalm : X.calm = true) : CallR X (.builtin "sorted") (fun xs H Q => ∃ (a : Addr) (kvs : List (List L2.Key × V)) (ks : List (List Int)) (d : Nat) (B : Int), xs = [.ref a] ∧ Rd H a (.dT kvs) ∧ kvs.map (·.1) = ks.map (fun k => k.map Sum.inl) ∧ ks.length < 64 ∧ 1 ≤ d ∧ (∀ k ∈ ks, k.length = d ∧ TS.Bd B k) ∧
    ∀ (L' : List (Addr × List Int)) (p : Addr), (L'.map (·.2)).Perm ks → (∀ q ∈ L', H q.1 = some (.tup (q.2.map V.int))) → L'.Pairwise (fun q r => TS.code B q.2 ≤ TS.code B r.2) → H p = none → Q (.ref p) (upd H p (.lst (L'.map fun q => V.ref q.1)))) := by
  intro pins s σ H xs us Q I r q
  obtain ⟨a, kvs, ks, d, B, ex, hd, hks, h64, hd1, hB, q⟩ := q
  subst ex
  obtain ⟨u, eu, rx⟩ := vals1 r
  subst eu
  cases rx
  obtain ⟨z, hs, ts, pr, o, es, ep, ho, hx, hdt, he, hn⟩ := (show ObjOk X.prog X.w H s.heap a (.dT kvs) from hd.ok I.hok)
  have l1 : es.size = ts.length := size_of_entries he
  have l2 : kvs.length = ts.length := Paired.length pr
  have l3 : kvs.length = ks.length := by
    have e := congrArg List.length hks
    rw [List.length_map, List.length_map] at e
    exact e
  -- the keys with their addresses
  have keys : ∀ {kvs : List (List L2.Key × V)} {ts : List (List L2.Key × Addr × Value)} {ks : List (List Int)}, KT H kvs ts → kvs.map (·.1) = ks.map (fun k => k.map Sum.inl) →
      ∃ L : List (Addr × List Int), (ts.map fun x => x.2.1) = L.map (·.1) ∧ L.map (·.2) = ks ∧ ∀ q ∈ L, H q.1 = some (.tup (q.2.map V.int)) := by
    intro kvs ts ks pr
    induction pr generalizing ks with
    | nil =>
      intro e
      cases ks with
      | nil => exact ⟨[], rfl, rfl, fun q hq => nomatch hq⟩
      | cons _ _ => cases e
    | @cons p x ps xs hp _ ih =>
      intro e
      cases ks with
      | nil => cases e
      | cons k ks =>
        injection e with e1 e2
        obtain ⟨L, h1, h2, h3⟩ := ih e2
        refine ⟨(x.2.1, k) :: L, by rw [List.map_cons, List.map_cons, h1], by rw [List.map_cons, h2], fun q hq => ?_⟩
        rcases List.mem_cons.mp hq with rfl | hq
        · have := hp.2.1
          rw [show p.1 = k.map Sum.inl from e1, List.map_map] at this
          exact this
        · exact h3 q hq
  obtain ⟨L, hL1, hL2, hL3⟩ := keys pr hks
  have lL : L.length = ks.length := by rw [← hL2, List.length_map]
  have h16 : es.size ≤ sizeLine := by rw [l1, ← l2, l3, sizeLine_eq]; omega
  refine Calls.call_function_entry PyProof.Rows.kind_sorted PyProof.Rows.plain_sorted PyProof.Rows.entry_sorted (PyProof.Rows.args_sorted1 _) ?_
  unfold Builtin.«sorted»
  refine wpAny_bind (m := checkCount "sorted" 1 1 _) (wpAny_pure ?_)
  refine wpAny_bind (PySem.W.kdu_collect (A := X.A.in1) (kdl_raw hs hx hdt) (I.ok.hd hcalm) ho h16 fun h' tk acc hk it => ?_)
  have ea : acc.toList = L.map fun q => Value.ref q.1 := by
    have e0 : (L.map fun q => Value.ref q.1) = ts.map fun x => Value.ref x.2.1 := by
      have : (L.map fun q => Value.ref q.1) = (L.map (·.1)).map Value.ref := by rw [List.map_map]; rfl
      rw [this, ← hL1, List.map_map]; rfl
    rw [e0]
    have hl : acc.toList.length = ts.length := by rw [Array.length_toList, it.1]; exact l1
    apply List.ext_getElem?
    intro j
    rw [List.getElem?_map]
    cases hj : acc.toList[j]? with
    | none =>
      have h1 := List.getElem?_eq_none_iff.mp hj
      rw [List.getElem?_eq_none (by omega)]
      rfl
    | some v =>
      obtain ⟨en, hen, hv⟩ := it.2 j v (by rw [← Array.getElem?_toList]; exact hj)
      have qe := entry_at he j
      rw [hen] at qe
      cases hb : ts[j]? with
      | none =>
        rw [hb] at qe
        exact nomatch (show some en = none from qe)
      | some b =>
        rw [hb] at qe
        have e2 : en = entryOfKey (tupleKind (mixKind X.prog X.w)) b := Option.some.inj qe
        rw [hv, e2]
        rfl
  have hal : acc.toList.length = ks.length := by rw [ea, List.length_map, lL]
  have I1 : Inv X pins σ H { s with heap := h', toks := tk } := I.kept hk
  refine wpAny_bind (wpAny_newList ?_ (by rw [hal, sizeLine_eq]; omega))
  have hoL : (h'.push (seqObj "list" acc.toList.toArray 0)).get? h'.objs.size = some (seqObj "list" acc.toList.toArray 0) := Heap.get?_push_size _ rfl
  show wpAny _ _ _ _ _ { s with heap := h'.push (seqObj "list" acc.toList.toArray 0), toks := tk }
  have tk2 : ∀ q ∈ L, TS.TupInts (h'.push (seqObj "list" acc.toList.toArray 0)) (.ref q.1) q.2 := fun q hq => tupInts_of (P := X.prog) (w := X.w) (isT_keep (I.isT (.inl (.inl (hL3 q hq)))) fun b u e => Heap.get?_push_of_some _ (hk b u e))
  have x : TS.TupsOk (h'.push (seqObj "list" acc.toList.toArray 0)) d B acc.toList := fun v hv => by
    rw [ea] at hv
    obtain ⟨q, hq, e⟩ := List.mem_map.mp hv
    rw [← e]
    have := hB q.2 (by rw [← hL2]; exact List.mem_map_of_mem hq)
    exact ⟨q.2, tk2 q hq, this.1, this.2⟩
  refine wpAny_bind (wpAny_holding (TS.call_sort_tups (s := { s with heap := h'.push (seqObj "list" acc.toList.toArray 0), toks := tk }) hoL (by rw [hal]; exact h64) hd1 x fun out a1 a2 => ?_))
  obtain ⟨e', he'⟩ := PyProof.Rows.sortedHeap_at (vs := acc.toList) (out := out) hoL
  obtain ⟨L', hL', pm⟩ := perm_lift a1 ea
  have pw : L'.Pairwise (fun q r => TS.code B q.2 ≤ TS.code B r.2) := by
    rw [hL'] at a2
    refine List.Pairwise.imp_of_mem (fun {q r} hq hr hle => ?_) (List.pairwise_map.mp a2)
    have f1 : TS.intsOf (h'.push (seqObj "list" acc.toList.toArray 0)) (.ref q.1) = q.2 := (tk2 q (pm.mem_iff.mp hq)).ints
    have f2 : TS.intsOf (h'.push (seqObj "list" acc.toList.toArray 0)) (.ref r.1) = r.2 := (tk2 r (pm.mem_iff.mp hr)).ints
    rw [← f1, ← f2]
    exact hle
  have hlen : (L'.map fun q => V.ref q.1).length ≤ sizeLine := by
    rw [List.length_map, pm.length_eq, lL, sizeLine_eq]; omega
  refine wpAny_pure ⟨_, rfl, .ref h'.objs.size, upd H h'.objs.size (.lst (L'.map fun q => V.ref q.1)), I1.laid (t' := tk) (fun b u e => ?_) (Nat.le_refl _)
    (show ObjOk X.prog X.w _ _ _ (.lst (L'.map fun q => V.ref q.1)) from ⟨hlen, out.toList, e', by rw [hL']; exact vals_of_refs L', by rw [Array.toArray_toList]; exact he'⟩), rfl, q L' _ (by rw [← hL2]; exact pm.map _) (fun q hq => hL3 q (pm.mem_iff.mp hq)) pw (I1.hok.fresh (Nat.le_refl _))⟩
  have hb : b < h'.objs.size := Heap.lt_size e
  rw [PyProof.Rows.sortedHeap_old (Nat.ne_of_lt hb) (by rw [size_push']; exact Nat.lt_succ_of_lt hb)]
  exact Heap.get?_push_of_some _ e
end
end LK

set_option Elab.async false
set_option linter.all false
set_option maxRecDepth 100000
namespace LK
open PySem PySem.Spec PyProof.Rows L2
/-! ### set(xs) of a long list of tuples, of which few are distinct -/
theorem pigeon {α : Type} [DecidableEq α] : ∀ {l S : List α}, l.Nodup → (∀ x ∈ l, x ∈ S) → l.length ≤ S.length
  | [], _, _, _ => Nat.zero_le _
  | a :: l, S, h, hs => by
    rw [List.nodup_cons] at h
    have ha := hs a List.mem_cons_self
    have := pigeon (l := l) (S := S.erase a) h.2 fun x hx => by
      have ne : x ≠ a := fun e => h.1 (e ▸ hx)
      exact (List.mem_erase_of_ne ne).mpr (hs x (List.mem_cons_of_mem _ hx))
    rw [List.length_erase_of_mem ha] at this
    have p : 0 < S.length := List.length_pos_of_mem ha
    rw [List.length_cons]
    omega
def Stays (h h' : Heap) : Prop := ∀ b o, h.get? b = some o → h'.get? b = some o
abbrev noSet (w : World) : Obj := { cls := .type "set", dict := none, data := .set #[] 0 (.fresh 0 0 (!w.params.followText "set-order")) }
section
variable {P : Program} {w : World} {A : Around} {E : Value → Shared → Prop} {s : Shared}
def InSet (P : Program) (w : World) (h : Heap) (S : Addr) (ks : List (Addr × List Int)) (i : Nat) : Prop := ∃ L es ep t, SetTR P w h S L es ep t ∧ Got ks i L
section
variable {I S : Addr} {fp wr : List Addr} {G : Array GenState → Array GenState → Prop} {Pv : Nat → Value → Prop} {St : Nat → Shared → Prop} {R : Result → Shared → Prop} {ks : List (Addr × List Int)} {D : List (List Int)} {h0 : Heap}
theorem rounds (W : WalksS P w A.in1 I fp wr G ks.length Pv St) (nS : S ∉ fp) (few : D.length ≤ 62) (mem : ∀ p ∈ ks, p.2 ∈ D) (val : ∀ i v, Pv i v → ∃ p, ks[i]? = some p ∧ v = .ref p.1)
    (tup : ∀ p ∈ ks, IsT P w h0 p.2 p.1) (newS : h0.get? S = none) (newW : ∀ b ∈ wr, h0.get? b = none) (un : A.in1.units < cLine) : ∀ (left i : Nat) (s : Shared), i + left = ks.length → St i s → Stays h0 s.heap → InSet P w s.heap S ks i →
    (∀ s', Moved (S :: wr) G s s' → InSet P w s'.heap S ks ks.length → Stays h0 s'.heap → R (.ok (.ret .none)) s') → codeAny (model P w) A (.builtin "set.update.loop" ⟨[.ref S, .ref I], []⟩) R s := by
  have out : S ∉ wr := fun h => nS (W.sub _ h)
  have wide : ∀ b ∈ wr, b ∈ S :: wr := fun b hb => List.mem_cons_of_mem _ hb
  have hold : ∀ {s s' : Shared}, Moved wr G s s' → Stays h0 s.heap → Stays h0 s'.heap := fun m k b o e => m.heap b o (fun hb => nomatch (newW b hb).symm.trans e) (k b o e)
  have take : ∀ {s s' : Shared} {i : Nat} {L : List (Addr × List Int)} {es : Array (Int × Value)} {ep : Nat} {t : SetTable}, Moved wr G s s' → Stays h0 s.heap → SetTR P w s.heap S L es ep t → Got ks i L → SetTR P w s'.heap S L es ep t := fun m k R g =>
    R.keep (fun o e => m.heap S o out e) fun q hq => isT_keep (tup q (List.mem_of_mem_take (g.sub q hq))) (hold m k)
  intro left
  induction left with
  | zero =>
    intro i s hi st kp inn fin
    obtain rfl : i = ks.length := hi
    obtain ⟨L, es, ep, t, R0, g⟩ := inn
    refine codeAny_builtin F.entry_set_update_loop ?_
    rw [Around.under_plainId F.plain_set_update_loop _]
    change wpAny _ A.in1 (pyNext (.ref I) >>= _) _ _ s
    refine wpAny_bind (W.done s _ _ st fun s' m => ?_)
    change wpAny _ A.in1 (ret Value.none) _ _ s'
    exact wpAny_pure (fin s' (m.mono wide) ⟨L, es, ep, t, take m kp R0 g, g⟩ (hold m kp))
  | succ left ih =>
    intro i s hi st kp inn fin
    obtain ⟨L, es, ep, t, R0, g⟩ := inn
    refine codeAny_builtin F.entry_set_update_loop ?_
    rw [Around.under_plainId F.plain_set_update_loop _]
    change wpAny _ A.in1 (pyNext (.ref I) >>= _) _ _ s
    refine wpAny_bind (W.item i s _ _ (by omega) st fun v s1 pv st1 m => ?_)
    obtain ⟨q, hq, rfl⟩ := val i v pv
    have kp1 := hold m kp
    have R1 := take m kp R0 g
    have isq : IsT P w s1.heap q.2 q.1 := isT_keep (tup q (List.mem_of_getElem? hq)) kp1
    have small : L.length ≤ 62 := by
      have := pigeon R1.nd fun x hx => by
        obtain ⟨y, hy, rfl⟩ := List.mem_map.mp hx
        exact mem y (List.mem_of_mem_take (g.sub y hy))
      rw [List.length_map] at this
      exact Nat.le_trans this few
    change wpAny _ A.in1 (holding [Value.ref q.1] (setAdd S (.ref q.1)) >>= _) _ _ s1
    refine wpAny_bind (wpAny_holding ?_)
    unfold setAdd
    refine wpAny_holding ?_
    refine wpAny_bind (wpAny_pyHash_tuple un isq ?_)
    refine add_at (s := { s1 with toks := s1.toks + (q.2.length + 1) }) R1 isq un (by omega) fun b h2 L2 es2 ep2 t2 same R2 c1 c2 => ?_
    have g2 : Got ks (i + 1) L2 := (Classical.em (q.2 ∈ L.map (·.2))).elim (fun c => by rw [c1 c]; exact g.same hq c) fun c => g.more hq (c2 c)
    have kp2 : Stays h0 h2 := fun b o e => (same.2 b fun z => by subst z; exact nomatch newS.symm.trans e).trans (kp1 b o e)
    refine wpAny_pure ⟨plainId_quiet F.plain_set_update_loop _, ih (i + 1) _ (by omega) (W.frame _ s1 _ _ st1 (Nat.le_add_right _ _) fun b hb o e => ?_) kp2 ⟨L2, es2, ep2, t2, R2, g2⟩ fun s3 m3 in3 kp3 => ?_⟩
    · exact (same.2 b (fun z : b = S => nS (z ▸ hb))).trans e
    · refine fin s3 (Moved.trans W.gtrans ((m.mono wide).then_heap (Nat.le_add_right _ _) fun b o nb e => ?_) m3) in3 kp3
      exact (same.2 b (fun z : b = S => nb (by rw [z]; exact List.mem_cons_self))).trans e
end
set_option maxHeartbeats 3200000 in
theorem call_setW {l : Addr} {items : Array Value} {ks : List (Addr × List Int)} {D : List (List Int)} {Q : Value → Shared → Prop} (hh : A.handled = none) (hl : s.heap.IsList l items) (hit : items.toList = ks.map fun q => Value.ref q.1)
    (tup : ∀ q ∈ ks, IsT P w s.heap q.2 q.1) (few : D.length ≤ 62) (mem : ∀ q ∈ ks, q.2 ∈ D) (un : A.units + 3 < cLine)
    (fin : ∀ (h' : Heap) (tk : Nat), InSet P w h' s.heap.objs.size ks ks.length → Stays s.heap h' → Q (.ref s.heap.objs.size) { s with heap := h', toks := tk }) : wpAny (model P w) A (call (.type "set") [.ref l]) Q E s := by
  have size : items.size = ks.length := by rw [← Array.length_toList, hit, List.length_map]
  obtain ⟨c, tl, hmro⟩ := F.called_set.mro
  have fact1 := F.called_set.made
  have fact2 := F.called_set.sub
  refine wpAny_call (codeAny_of_tree ?_)
  change wpAny _ _ (callAny (.type "set") _) _ _ _
  refine wpAny_pure ⟨Code.quiet_builtin _ (by decide +kernel), codeAny_builtin F.entry_type_call ?_⟩
  rw [Around.under_plain (weight_type_call_type "set" [.ref l] []) rfl]
  have fact3 := F.called_set.notType
  have fact4 := F.called_set.canCreate
  have fact5 := F.typeCall_set_1 (.ref l)
  repeat (any_goals (first | assumption | wp_step))

  refine codeAny_mono (code_set_led1 (.ref l) (E := E) (Q₁ := fun obj s1 => obj = .ref s.heap.objs.size ∧ s1 = { s with heap := s.heap.push (noSet w) }) ⟨rfl, rfl⟩) fun r s1 hr => ?_
  rcases r with e | fl
  · exact hr
  · cases fl with
    | ret obj =>
      obtain ⟨rfl, rfl⟩ := hr
      have atS : (s.heap.push (noSet w)).get? s.heap.objs.size = some (noSet w) := Heap.get?_push_size _ rfl
      have hT : Shared.TypeIs { s with heap := s.heap.push (noSet w) } (.ref s.heap.objs.size) "set" := ⟨_, atS, rfl⟩
      have fact6 := F.called_set.init.lookup
      have fact7 := F.called_set.init.bind (.ref s.heap.objs.size)
      repeat (any_goals (first | assumption | wp_step))

      refine codeAny_mono (codeAny_call_builtin (R := wants (fun r s2 => r = .none ∧ ∃ h' tk, s2 = { s with heap := h', toks := tk } ∧ InSet P w h' s.heap.objs.size ks ks.length ∧ Stays s.heap h') E) F.called_set.init.plain F.entry_set_init (check_set_init_1 hT ?_)) fun r2 s2 hr2 => ?_
      · obtain ⟨⟨_, _, _, _⟩, hol, hcl, nl, hdl⟩ := hl
        simp only at hcl hdl
        subst hcl hdl
        have before : l < s.heap.objs.size := Heap.lt_size hol
        have hol1 := Heap.get?_push_of_some (noSet w) hol
        have fact8 := F.sub_list_set
        have fact9 := F.sub_list_frozenset
        have factA : (Value.type "list" == Value.type "dict") = false := by decide
        have hl1 : (s.heap.push (noSet w)).IsList l items := ⟨_, hol1, rfl, nl, rfl⟩
        unfold Builtin.«set.__init__» noKeywords Builtin.Frozenset.updateFrom
        generalize hPI : pyIter = PI
        wp_walk
        subst hPI

        refine wpAny_pyIter_list hl1 (wpAny_bind (wpAny_runValue ?_))
        have hd3 : A.in1.in1.in1.handled = none := by simp [hh]
        have sz : (s.heap.push (noSet w)).objs.size = s.heap.objs.size + 1 := Heap.size_push ..
        have ne1 : l ≠ (s.heap.push (noSet w)).objs.size := Nat.ne_of_lt (Nat.lt_of_lt_of_eq (Nat.lt_succ_of_lt before) sz.symm)
        have free : ∀ b, s.heap.objs.size ≤ b → s.heap.get? b = none := fun b hb => by
          rcases q : s.heap.get? b with _ | o
          · rfl
          · exact (Nat.lt_irrefl _ (Nat.lt_of_le_of_lt hb (Heap.lt_size q))).elim
        have W0 := (Walks.list (prog := P) (w := w) hd3 _ l ne1 items).toS
        rw [size] at W0
        refine rounds (P := P) (w := w) (h0 := s.heap) (S := s.heap.objs.size) W0 (fun z => by
          rcases List.mem_cons.mp z with z | z
          · exact Nat.ne_of_lt (Nat.lt_of_lt_of_eq (Nat.lt_succ_self _) sz.symm) z
          · exact Nat.ne_of_gt before (List.mem_singleton.mp z)) few mem (fun i v hv => ?_) tup (free _ (Nat.le_refl _)) (fun b hb => free b (by rw [List.mem_singleton.mp hb, sz]; exact Nat.le_succ _)) un ks.length 0 _ (Nat.zero_add _) ⟨⟨_, Heap.get?_push_size _ rfl, rfl, rfl⟩, hl1.push _⟩ (fun b o e => Heap.get?_push_of_some _ (Heap.get?_push_of_some _ e)) ⟨[], #[], 0, _, setTR_fresh (Heap.get?_push_of_some _ atS), Got.zero ks⟩ ?_
        · have q : items.toList[i]? = some v := by rw [Array.getElem?_toList]; exact hv
          rw [hit, List.getElem?_map] at q
          obtain ⟨p, hp, e⟩ := Option.map_eq_some_iff.mp q
          exact ⟨p, hp, e.symm⟩
        · rintro ⟨h', g2, d2, tk, os2⟩ m inn kp
          obtain rfl : g2 = s.gens := m.gens
          obtain rfl : d2 = s.drawn := m.drawn
          obtain rfl : os2 = s.os := m.os
          change wpAny _ _ _ _ _ _
          refine wpAny_pure ?_
          change wpAny _ _ (ret Value.none) _ _ _
          exact wpAny_pure ⟨rfl, h', tk, rfl, inn, kp⟩
      · rcases r2 with e | fl2
        · exact hr2
        · cases fl2 with
          | ret r =>
            obtain ⟨rfl, h', tk, rfl, inn, kp⟩ := hr2
            repeat (any_goals (first | assumption | wp_step))
            exact fin h' tk inn kp
          | _ => exact hr2.elim
    | _ => exact hr.elim
end
section
variable {X : Cx}
def rSetW (K : PySem.W.Frag) (P : Program) (w : World) : List V → Hp → VK → Prop := fun xs H Q => ∃ (l : Addr) (ks : List (Addr × List Int)), xs = [V.ref l] ∧ SqL K H l (ks.map fun q => V.ref q.1) ∧ (∀ q ∈ ks, SqT K H q.1 (q.2.map V.int)) ∧ (∃ D : List (List Int), D.length ≤ 62 ∧ ∀ q ∈ ks, q.2 ∈ D) ∧
  ∀ sa L, H sa = none → (∀ q ∈ L, q ∈ ks) → (∀ q ∈ ks, q.2 ∈ L.map (·.2)) → Q (.ref sa) (upd H sa (SetTO P w sa L))
theorem cr_setW (hc : X.calm = true) (hu : X.A.units + 64 < cLine) : CallR X (.type "set") (rSetW X.K X.prog X.w) := by
  intro pins s σ H xs us Q I r h
  obtain ⟨l, ks, rfl, hl, hk, ⟨D, hD, mD⟩, q⟩ := h
  obtain ⟨its, rv, pl, _⟩ := I.list hl
  rw [Vals.ref1 r]
  refine call_setW (P := X.prog) (w := X.w) (ks := ks) (I.ok.hd hc) pl.isList (by simpa using refs_of_vals rv) (fun q hq => I.isT (hk q hq)) hD mD (by omega) fun h' tk inn kp => ?_
  obtain ⟨L, es, ep, t, R, g⟩ := inn
  refine ⟨.ref s.heap.objs.size, upd H s.heap.objs.size (SetTO X.prog X.w s.heap.objs.size L), I.laid (t' := tk) kp (Nat.le_refl _) (setTO_new R.t0), rfl, q _ L (I.hok.fresh (Nat.le_refl _)) (fun p hp => List.mem_of_mem_take (g.sub p hp)) fun p hp => ?_⟩
  exact g.all p (by rw [List.take_length]; exact hp)
end
end LK

set_option Elab.async false
set_option linter.all false
set_option maxRecDepth 100000
namespace LK
open PySem PySem.Spec PyProof.Rows L2
def top (i : Nat) : Stmt := PySem.Challenge.pw_lookingnets_k13_normal_forms.main.body.getD i (.Pass ⟨0, 0, 0, 0⟩)
local macro_rules | `(tactic| walk_at "rs") => `(tactic| simp only [cxK, cxNK, tCallZ, tAsg, tOp, rI0, rS0, rB0, rI, rU, tUn, rEq, rNe, rIxL, rIxT, rIxS, rSetL, rSlLU, rSlS, rSlU, rCatL, rCatU, rRepL, rIn, tVar, tC, gName, gSub, tIfS, tTest, tB, tAnd, tOr, tNot, tNotV, tAndV, tOrV, tIf, tCall, tCons, tNil, tCB, tDrop, tRet, tRetN, tNext, tLstU, tTupU, tM0, tM1, tPar, tPar3, tAug, ipI, tBM, tBM0, rAppend, rPop, tBreak, sDPut, tDGet, tDGet2, tCont, tChain, tSl, tPart, tNoPart, L2.start, List.map, List.length_cons, List.length_nil, List.replicate, List.cons_append, List.nil_append, List.append_nil, List.getElem?_cons_zero, List.getElem?_cons_succ, List.set_cons_zero, List.set_cons_succ, Option.some.injEq, V.int.injEq, V.ref.injEq, V.str.injEq, V.bl.injEq, exists_eq_left', exists_eq_left, exists_and_left, decide_eq_true_eq, List.cons.injEq, and_true, true_and, scal, Bool.not_eq_true', decide_eq_false_iff_not, Nat.zero_add, Nat.reduceAdd, Nat.reduceSub, reduceCtorEq, false_and, exists_false, false_or, or_false, CPow, CPowW, CMul, CDiv, Int.reduceToNat, ↓reduceIte, wipe, sw, List.nil_append, List.singleton_append])
local macro_rules | `(tactic| walk_at "st") => `(tactic| (refine seq_op fun N hN => ?_; walk_at "rs"))
local macro_rules | `(tactic| walk_at "sd") => `(tactic| first | assumption | decide | omega)
local macro_rules | `(tactic| walk_at "rd") => `(tactic| repeat (first
  | refine ⟨_, SqL.of (by assumption), ?_⟩ | refine ⟨_, SqL.of upd_same, ?_⟩ | refine ⟨_, .inl (SqL.of (by assumption)), ?_⟩ | refine ⟨_, (by assumption : _ = some (HO.lst _)), ?_⟩ | refine ⟨_, upd_same, ?_⟩
  | refine ⟨_, rfl, ?_⟩ | refine And.intro (by walk_at "sd") ?_))

abbrev s_BadValue : Stmt := inClass (top 3) 0
abbrev N_BadValue : List Str := ["self", "value"]
theorem sc_BadValue : FnScope N_BadValue ["self", "value"] (defScope s_BadValue) := ⟨rfl, rfl, rfl, by decide +kernel, rfl, by decide +kernel, by decide +kernel⟩
abbrev s_is_number : Stmt := top 6
abbrev N_is_number : List Str := ["value"]
theorem sc_is_number : FnScope N_is_number ["value"] (defScope s_is_number) := ⟨rfl, rfl, rfl, by decide +kernel, rfl, by decide +kernel, by decide +kernel⟩

abbrev s_fraction : Stmt := top 7
abbrev N_fraction : List Str := ["p", "q", "divisor"]
theorem sc_fraction : FnScope N_fraction ["p", "q"] (defScope s_fraction) := ⟨rfl, rfl, rfl, by decide +kernel, rfl, by decide +kernel, by decide +kernel⟩

abbrev s_plus : Stmt := top 8
abbrev N_plus : List Str := ["a", "b"]
theorem sc_plus : FnScope N_plus ["a", "b"] (defScope s_plus) := ⟨rfl, rfl, rfl, by decide +kernel, rfl, by decide +kernel, by decide +kernel⟩

abbrev s_normal_entries : Stmt := top 10
abbrev N_normal_entries : List Str := ["entries", "sums", "column", "factor"]
theorem sc_normal_entries : FnScope N_normal_entries ["entries"] (defScope s_normal_entries) := ⟨rfl, rfl, rfl, by decide +kernel, rfl, by decide +kernel, by decide +kernel⟩

abbrev s_normal_triples : Stmt := top 11
abbrev N_normal_triples : List Str := ["triples", "sums", "left", "right", "factor", "pair"]
theorem sc_normal_triples : FnScope N_normal_triples ["triples"] (defScope s_normal_triples) := ⟨rfl, rfl, rfl, by decide +kernel, rfl, by decide +kernel, by decide +kernel⟩

abbrev s__law_bag : Stmt := top 13
abbrev N__law_bag : List Str := ["script", "mixed", "cell"]
theorem sc__law_bag : FnScope N__law_bag ["script"] (defScope s__law_bag) := ⟨rfl, rfl, rfl, by decide +kernel, rfl, by decide +kernel, by decide +kernel⟩

abbrev s__law_draw : Stmt := top 14
abbrev N__law_draw : List Str := ["bag", "many", "cell", "digit"]
theorem sc__law_draw : FnScope N__law_draw ["bag", "many"] (defScope s__law_draw) := ⟨rfl, rfl, rfl, by decide +kernel, rfl, by decide +kernel, by decide +kernel⟩

abbrev s__law_like : Stmt := top 15
abbrev N__law_like : List Str := ["found", "due", "one", "two"]
theorem sc__law_like : FnScope N__law_like ["found", "due"] (defScope s__law_like) := ⟨rfl, rfl, rfl, by decide +kernel, rfl, by decide +kernel, by decide +kernel⟩

abbrev s__law_gcd : Stmt := top 16
abbrev N__law_gcd : List Str := ["a", "b"]
theorem sc__law_gcd : FnScope N__law_gcd ["a", "b"] (defScope s__law_gcd) := ⟨rfl, rfl, rfl, by decide +kernel, rfl, by decide +kernel, by decide +kernel⟩

abbrev s__law_low : Stmt := top 17
abbrev N__law_low : List Str := ["p", "q", "g"]
theorem sc__law_low : FnScope N__law_low ["p", "q"] (defScope s__law_low) := ⟨rfl, rfl, rfl, by decide +kernel, rfl, by decide +kernel, by decide +kernel⟩

abbrev s__law_plus : Stmt := top 18
abbrev N__law_plus : List Str := ["a", "b"]
theorem sc__law_plus : FnScope N__law_plus ["a", "b"] (defScope s__law_plus) := ⟨rfl, rfl, rfl, by decide +kernel, rfl, by decide +kernel, by decide +kernel⟩

abbrev s__law_great : Stmt := top 19
abbrev N__law_great : List Str := ["bag"]
theorem sc__law_great : FnScope N__law_great ["bag"] (defScope s__law_great) := ⟨rfl, rfl, rfl, by decide +kernel, rfl, by decide +kernel, by decide +kernel⟩

abbrev s__law_factor : Stmt := top 20
abbrev N__law_factor : List Str := ["bag", "way", "sign"]
theorem sc__law_factor : FnScope N__law_factor ["bag"] (defScope s__law_factor) := ⟨rfl, rfl, rfl, by decide +kernel, rfl, by decide +kernel, by decide +kernel⟩

abbrev s__law_items : Stmt := top 21
abbrev N__law_items : List Str := ["bag", "many", "width", "most", "found", "k", "spot", "one", "again", "j"]
theorem sc__law_items : FnScope N__law_items ["bag", "many", "width", "most"] (defScope s__law_items) := ⟨rfl, rfl, rfl, by decide +kernel, rfl, by decide +kernel, by decide +kernel⟩

abbrev s__law_normal : Stmt := top 22
abbrev N__law_normal : List Str := ["items", "found", "spot", "total", "one"]
theorem sc__law_normal : FnScope N__law_normal ["items"] (defScope s__law_normal) := ⟨rfl, rfl, rfl, by decide +kernel, rfl, by decide +kernel, by decide +kernel⟩

abbrev s__law_light : Stmt := top 23
abbrev N__law_light : List Str := ["bag"]
theorem sc__law_light : FnScope N__law_light ["bag"] (defScope s__law_light) := ⟨rfl, rfl, rfl, by decide +kernel, rfl, by decide +kernel, by decide +kernel⟩

abbrev s__law_call : Stmt := top 24
abbrev N__law_call : List Str := ["bag", "many", "items"]
theorem sc__law_call : FnScope N__law_call ["bag", "many", "items"] (defScope s__law_call) := ⟨rfl, rfl, rfl, by decide +kernel, rfl, by decide +kernel, by decide +kernel⟩

abbrev s__law_parted : Stmt := top 25
abbrev N__law_parted : List Str := ["bag", "items", "k", "part", "p", "q", "spot", "found"]
theorem sc__law_parted : FnScope N__law_parted ["bag", "items"] (defScope s__law_parted) := ⟨rfl, rfl, rfl, by decide +kernel, rfl, by decide +kernel, by decide +kernel⟩

abbrev s_law : Stmt := top 26
abbrev N_law : List Str := ["script", "bag", "many", "width", "items", "k", "more", "due", "both", "handed", "found", "turned", "at", "one", "late", "minus_y", "zeros", "nothing", "j"]
theorem sc_law : FnScope N_law ["script"] (defScope s_law) := ⟨rfl, rfl, rfl, by decide +kernel, rfl, by decide +kernel, by decide +kernel⟩

mutual
def okD : PyData → Bool
  | .none => true | .bool _ => true | .int _ => true
  | .str z => decide (z.length ≤ 100000)
  | .list ds => decide (ds.length ≤ 100000) && okAll ds
  | .tuple ds => decide (ds.length ≤ 100000) && okAll ds
  | .dict _ => false
def okAll : List PyData → Bool
  | [] => true
  | d :: ds => okD d && okAll ds
end
theorem okD_tup {ds : List PyData} : okD (.tuple ds) = true ↔ ds.length ≤ 100000 ∧ okAll ds = true := by
  show (decide (ds.length ≤ 100000) && okAll ds) = true ↔ _
  rw [Bool.and_eq_true, decide_eq_true_iff]
theorem okD_lst {ds : List PyData} : okD (.list ds) = true ↔ ds.length ≤ 100000 ∧ okAll ds = true := by
  show (decide (ds.length ≤ 100000) && okAll ds) = true ↔ _
  rw [Bool.and_eq_true, decide_eq_true_iff]
mutual
def dep : PyData → Nat
  | .none => 0 | .bool _ => 0 | .int _ => 0 | .str _ => 0
  | .list ds => depAll ds + 1
  | .tuple ds => depAll ds + 1
  | .dict _ => 0
def depAll : List PyData → Nat
  | [] => 0
  | d :: ds => max (dep d) (depAll ds)
end
def spP (K : PySem.W.Frag) (F : PyData → V) : Sp := fun vs H Q _ => ∃ v d, vs = [v] ∧ Dp K H v d ∧ okD d = true ∧ ∀ H', Same H H' → Q (F d) H'
def SeqV (K : PySem.W.Frag) (G : Hp) (x : V) (ys : List V) : Prop := (∃ p, x = .ref p ∧ SqL K G p ys) ∨ (∃ p, x = .ref p ∧ SqT K G p ys) ∨ ∃ z, x = .str z ∧ z.length ≤ 100000 ∧ ys = z.cps.toList.map fun c => V.str ⟨#[c]⟩
def sp__law_bag (K : PySem.W.Frag) : Sp := fun vs H Q _ => ∃ (a : Addr) (ns : List Int), vs = [.ref a] ∧ SqL K H a (ns.map V.int) ∧ ns.length ≤ 63 ∧ ∀ b c H', Same H H' → Bag 1099511627776 H' b c → H b = none → Q (.ref b) H'
def sp__law_draw : Sp := fun vs H Q _ => ∃ (b c : Addr) (n : Int) (N : Nat), vs = [.ref b, .int n] ∧ Bag (N + 1) H b c ∧ 0 < n ∧ n < 1073741824 ∧ ∀ (r : Int) H', 0 ≤ r → r < n → Bag N H' b c → Kp b H H' → Q (.int r) H'
def sp__law_of (K : PySem.W.Frag) : Sp := fun vs H Q _ => ∃ (b c : Addr) (x : V) (ys : List V) (N : Nat), vs = [.ref b, x] ∧ Bag (N + 1) H b c ∧ SeqV K H x ys ∧ SeqV K (hb H b) x ys ∧ ys ≠ [] ∧ ys.length ≤ 1000000 ∧ ∀ y H', y ∈ ys → Bag N H' b c → Kp b H H' → Q y H'
def sp__law_like (K : PySem.W.Frag) (n : Nat) : Sp := fun vs H Q _ => ∃ v u d, vs = [v, u] ∧ Dp K H v d ∧ Dp K H u d ∧ okD d = true ∧ dep d ≤ n ∧ ∀ H', Same H H' → Q (.bl true) H'
def sw {α : Type} : List α → List α
  | [x, y] => [y, x]
  | l => l
theorem sw_rel : ∀ {zs : List V} {ws : List Value}, Vals zs ws → Vals (sw zs) (sw ws)
  | _, _, .nil => .nil
  | _, _, .cons a .nil => .cons a .nil
  | _, _, .cons a (.cons b .nil) => .cons b (.cons a .nil)
  | _, _, .cons a (.cons b (.cons c r)) => .cons a (.cons b (.cons c r))
/-! ### wide whole numbers -/
def CDivF (_ j : Int) : Prop := j ≠ 0 ∧ j.natAbs.log2 < 9000
theorem op_fdivF {X : Cx} : OpR X (binaryOp .FloorDiv) (rI CDivF fun i j => .int (i.fdiv j)) := opI fun _ _ _ _ _ _ _ hc q => floordiv_int hc.1 q (.inl (PyProof.noPylong_of_log2 hc.2))
/-- powers of wide numbers -/
def CPowW (i j : Int) : Prop := 0 ≤ j ∧ j ≤ 100 ∧ i.natAbs < 2 ^ 100
theorem op_powW {X : Cx} : OpR X (binaryOp .Pow) (rI CPowW fun i j => .int (i ^ j.toNat)) := opI fun i j _ _ _ _ _ hc q => by
  obtain ⟨h0, h1, h2⟩ := hc
  refine pow_int h0 ?_ q
  have hb : Builtin.Int.intBits i ≤ 100 := by
    unfold Builtin.Int.intBits
    split
    · exact Nat.zero_le _
    · have := PySem.Flt.log2_lt_of (n := i.natAbs) (by decide : 0 < 100) h2
      omega
  have : (Builtin.Int.intBits i : Int) * j ≤ 100 * 100 := Int.mul_le_mul (by omega) h1 h0 (by decide)
  exact Int.le_trans this (by decide)
theorem op_fdivU {X : Cx} : OpR X (binaryOp .FloorDiv) (rI CDivW fun i j => .int (i / j)) := op_fdivW
structure Txt (w : World) (K : PySem.W.Frag) (mg : Str → Option Value) where
  n_len : mg "len" = none
  n_int : mg "int" = none
  n_list : mg "list" = none
  n_tuple : mg "tuple" = none
  n_bool : mg "bool" = none
  n_str : mg "str" = none
  n_dict : mg "dict" = none
  n_isinstance : mg "isinstance" = none
  n_all : mg "all" = none
  n_range : mg "range" = none
  n_zip : mg "zip" = none
  n_abs : mg "abs" = none
  n_sorted : mg "sorted" = none
  n_set : mg "set" = none
  m_gcd : mg "gcd" = some (.builtin "math.gcd")
  a_ZERO : Addr
  m_ZERO : mg "ZERO" = some (.ref a_ZERO)
  s_ZERO : ∀ H, SqT K H a_ZERO [.int 0, .int 1]
  C_BadValue : Addr
  f_BadValue : Addr
  d_BadValue : FuncData
  m_BadValue : mg "BadValue" = some (.ref C_BadValue)
  X_BadValue : OexC K C_BadValue
  i_BadValue : PySem.W.findIn K (.ref C_BadValue) "__init__" = some (some (.ref f_BadValue))
  t_BadValue : PySem.W.typeIn K (.ref f_BadValue) = some (.type "function")
  F_BadValue : Fun K "__init__" "BadValue.__init__" s_BadValue f_BadValue d_BadValue
  B_BadValue__init : Binds K d_BadValue ["self", "value"] []
  v_BadValue : PySem.W.findIn K (.ref C_BadValue) "value" = some none
  c_BadValue : PySem.W.findIn K (.ref C_BadValue) "code" = some none
  a_is_number : Addr
  d_is_number : FuncData
  F_is_number : Fun K "is_number" "is_number" s_is_number a_is_number d_is_number
  m_is_number : mg "is_number" = some (.ref a_is_number)
  B_is_number : Binds K d_is_number ["value"] []
  a_fraction : Addr
  d_fraction : FuncData
  F_fraction : FunD K "fraction" "fraction" (defArgs s_fraction) (defBody s_fraction) (defScope s_fraction) [.int 1] [] a_fraction d_fraction
  m_fraction : mg "fraction" = some (.ref a_fraction)
  B_fraction : Binds K d_fraction ["p", "q"] []
  a_plus : Addr
  d_plus : FuncData
  F_plus : Fun K "plus" "plus" s_plus a_plus d_plus
  m_plus : mg "plus" = some (.ref a_plus)
  B_plus : Binds K d_plus ["a", "b"] []
  a_normal_entries : Addr
  d_normal_entries : FuncData
  F_normal_entries : Fun K "normal_entries" "normal_entries" s_normal_entries a_normal_entries d_normal_entries
  m_normal_entries : mg "normal_entries" = some (.ref a_normal_entries)
  B_normal_entries : Binds K d_normal_entries ["entries"] []
  a_normal_triples : Addr
  d_normal_triples : FuncData
  F_normal_triples : Fun K "normal_triples" "normal_triples" s_normal_triples a_normal_triples d_normal_triples
  m_normal_triples : mg "normal_triples" = some (.ref a_normal_triples)
  B_normal_triples : Binds K d_normal_triples ["triples"] []
  a__law_bag : Addr
  d__law_bag : FuncData
  F__law_bag : Fun K "_law_bag" "_law_bag" s__law_bag a__law_bag d__law_bag
  m__law_bag : mg "_law_bag" = some (.ref a__law_bag)
  B__law_bag : Binds K d__law_bag ["script"] []
  a__law_draw : Addr
  d__law_draw : FuncData
  F__law_draw : Fun K "_law_draw" "_law_draw" s__law_draw a__law_draw d__law_draw
  m__law_draw : mg "_law_draw" = some (.ref a__law_draw)
  B__law_draw : Binds K d__law_draw ["bag", "many"] []
  a__law_like : Addr
  d__law_like : FuncData
  F__law_like : Fun K "_law_like" "_law_like" s__law_like a__law_like d__law_like
  m__law_like : mg "_law_like" = some (.ref a__law_like)
  B__law_like : Binds K d__law_like ["found", "due"] []
  a__law_gcd : Addr
  d__law_gcd : FuncData
  F__law_gcd : Fun K "_law_gcd" "_law_gcd" s__law_gcd a__law_gcd d__law_gcd
  m__law_gcd : mg "_law_gcd" = some (.ref a__law_gcd)
  B__law_gcd : Binds K d__law_gcd ["a", "b"] []
  a__law_low : Addr
  d__law_low : FuncData
  F__law_low : Fun K "_law_low" "_law_low" s__law_low a__law_low d__law_low
  m__law_low : mg "_law_low" = some (.ref a__law_low)
  B__law_low : Binds K d__law_low ["p", "q"] []
  a__law_plus : Addr
  d__law_plus : FuncData
  F__law_plus : Fun K "_law_plus" "_law_plus" s__law_plus a__law_plus d__law_plus
  m__law_plus : mg "_law_plus" = some (.ref a__law_plus)
  B__law_plus : Binds K d__law_plus ["a", "b"] []
  a__law_great : Addr
  d__law_great : FuncData
  F__law_great : Fun K "_law_great" "_law_great" s__law_great a__law_great d__law_great
  m__law_great : mg "_law_great" = some (.ref a__law_great)
  B__law_great : Binds K d__law_great ["bag"] []
  a__law_factor : Addr
  d__law_factor : FuncData
  F__law_factor : Fun K "_law_factor" "_law_factor" s__law_factor a__law_factor d__law_factor
  m__law_factor : mg "_law_factor" = some (.ref a__law_factor)
  B__law_factor : Binds K d__law_factor ["bag"] []
  a__law_items : Addr
  d__law_items : FuncData
  F__law_items : Fun K "_law_items" "_law_items" s__law_items a__law_items d__law_items
  m__law_items : mg "_law_items" = some (.ref a__law_items)
  B__law_items : Binds K d__law_items ["bag", "many", "width", "most"] []
  a__law_normal : Addr
  d__law_normal : FuncData
  F__law_normal : Fun K "_law_normal" "_law_normal" s__law_normal a__law_normal d__law_normal
  m__law_normal : mg "_law_normal" = some (.ref a__law_normal)
  B__law_normal : Binds K d__law_normal ["items"] []
  a__law_light : Addr
  d__law_light : FuncData
  F__law_light : Fun K "_law_light" "_law_light" s__law_light a__law_light d__law_light
  m__law_light : mg "_law_light" = some (.ref a__law_light)
  B__law_light : Binds K d__law_light ["bag"] []
  a__law_call : Addr
  d__law_call : FuncData
  F__law_call : Fun K "_law_call" "_law_call" s__law_call a__law_call d__law_call
  m__law_call : mg "_law_call" = some (.ref a__law_call)
  B__law_call : Binds K d__law_call ["bag", "many", "items"] []
  a__law_parted : Addr
  d__law_parted : FuncData
  F__law_parted : Fun K "_law_parted" "_law_parted" s__law_parted a__law_parted d__law_parted
  m__law_parted : mg "_law_parted" = some (.ref a__law_parted)
  B__law_parted : Binds K d__law_parted ["bag", "items"] []
  a_law : Addr
  d_law : FuncData
  F_law : Fun K "law" "law" s_law a_law d_law
  m_law : mg "law" = some (.ref a_law)
  B_law : Binds K d_law ["script"] []
  Z_normal_entries : KBn K d_normal_entries ["entries"] 0 ["entries"] (fun _ ws => ws) (fun _ zs => zs)
  Z_normal_triples : KBn K d_normal_triples ["triples"] 0 ["triples"] (fun _ ws => ws) (fun _ zs => zs)

end LK

set_option Elab.async false
set_option linter.all false
set_option maxRecDepth 100000
namespace LK
open PySem PySem.Spec PyProof.Rows L2
local macro_rules | `(tactic| walk_at "rs") => `(tactic| simp only [cxK, cxNK, tCallZ, tAsg, tOp, rI0, rS0, rB0, rI, rU, tUn, rEq, rNe, rIxL, rIxT, rIxS, rSetL, rSlLU, rSlS, rSlU, rCatL, rCatU, rRepL, rIn, tVar, tC, gName, gSub, tIfS, tTest, tB, tAnd, tOr, tNot, tNotV, tAndV, tOrV, tIf, tCall, tCons, tNil, tCB, tDrop, tRet, tRetN, tNext, tLstU, tTupU, tM0, tM1, tPar, tPar3, tAug, ipI, tBM, tBM0, rAppend, rPop, tBreak, sDPut, tDGet, tDGet2, tCont, tChain, tSl, tPart, tNoPart, L2.start, List.map, List.length_cons, List.length_nil, List.replicate, List.cons_append, List.nil_append, List.append_nil, List.getElem?_cons_zero, List.getElem?_cons_succ, List.set_cons_zero, List.set_cons_succ, Option.some.injEq, V.int.injEq, V.ref.injEq, V.str.injEq, V.bl.injEq, exists_eq_left', exists_eq_left, exists_and_left, decide_eq_true_eq, List.cons.injEq, and_true, true_and, scal, Bool.not_eq_true', decide_eq_false_iff_not, Nat.zero_add, Nat.reduceAdd, Nat.reduceSub, reduceCtorEq, false_and, exists_false, false_or, or_false, CPow, CPowW, CMul, CDiv, Int.reduceToNat, ↓reduceIte, wipe, sw, List.nil_append, List.singleton_append])
local macro_rules | `(tactic| walk_at "st") => `(tactic| (refine seq_op fun N hN => ?_; walk_at "rs"))
local macro_rules | `(tactic| walk_at "sd") => `(tactic| first | assumption | decide | omega)
local macro_rules | `(tactic| walk_at "rd") => `(tactic| repeat (first
  | refine ⟨_, SqL.of (by assumption), ?_⟩ | refine ⟨_, SqL.of upd_same, ?_⟩ | refine ⟨_, .inl (SqL.of (by assumption)), ?_⟩ | refine ⟨_, (by assumption : _ = some (HO.lst _)), ?_⟩ | refine ⟨_, upd_same, ?_⟩
  | refine ⟨_, rfl, ?_⟩ | refine And.intro (by walk_at "sd") ?_))

def spV (sp : List V → Hp → VK → Prop) : Sp := fun vs H Q _ => sp vs H Q
/-- the two fields of a BadValue -/
def badF (v : V) : List (Str × V) := [("code", .str "BadValue"), ("value", v)]
def sp_BadValue (C : Addr) : Sp := fun vs H Q _ => ∃ (a : Addr) (v : V), vs = [.ref a, v] ∧ H a = some (exo a C none) ∧
  ∀ dx, H dx = none → dx ≠ a → Q .non (L2.upd (L2.upd (L2.upd H dx (exd dx [("value", v)])) a (exo a C (some dx))) dx (exd dx (badF v)))
def isNum : PyData → Bool
  | .int _ => true
  | _ => false
def spP1 (K : PySem.W.Frag) (F : PyData → V) : Sp := fun vs H Q _ => ∃ v d, vs = [v] ∧ Dp K H v d ∧ ∀ H', Same H H' → Q (F d) H'
section
variable {P : Program} {w : World} {K : PySem.W.Frag} {mg : Str → Option Value} {base : Heap}
theorem ok_BadValue (T : Txt w K mg) : FnOk P w K mg base CX0 1 T.f_BadValue T.d_BadValue ["self", "value"] (sp_BadValue T.C_BadValue) := by
  refine T.F_BadValue.ok sc_BadValue (fun vs H Q E h => ?_) (fun cdv A outer s H vs Q E hr h => ?_)
  · obtain ⟨a, v, rfl, _⟩ := h
    rfl
  · obtain ⟨a, v, rfl, ha, k⟩ := h
    refine ⟨_, pss_cons (ps_ost (pv 0) (pv 1)) (pss_one (ps_ost (pv 0) pe_str)), ?_⟩
    refine seq_op fun N hN => ?_
    unfold tOst
    walk_at "rs"
    refine ⟨T.C_BadValue, T.X_BadValue, T.v_BadValue, .inl ⟨ha, fun dx hdx ne => hN _ _ ?_⟩⟩
    clear hN N
    unfold tOst
    walk_at "rs"
    refine ⟨T.C_BadValue, T.X_BadValue, T.c_BadValue, .inr ⟨dx, upd_same, [("value", v)], by rw [upd_ne ne]; exact upd_same, by simp, k dx hdx ne⟩⟩
theorem ok_is_number (T : Txt w K mg) : FnOk P w K mg base CX0 1 T.a_is_number T.d_is_number ["value"] (spP1 K fun d => .bl (isNum d)) := by
  refine T.F_is_number.ok sc_is_number (fun vs H Q E h => ?_) (fun cdv A outer s H vs Q E hr h => ?_)
  · obtain ⟨v, d, rfl, _⟩ := h
    rfl
  · obtain ⟨v, d, rfl, hD, k⟩ := h
    refine ⟨_, (pss_one (ps_ret (pe_and (pe_callB (call_isiDK (K := K) rfl) (by rfl) T.n_isinstance (by decide +kernel) (pa_cons (pv 0) (pa_cons (pe_bltn (v := .ty "int") (u := .type "int") (by rfl) T.n_int (by decide +kernel) rfl) pa_nil))) (pe_one (pe_not (pe_callB (call_isiDK (K := K) rfl) (by rfl) T.n_isinstance (by decide +kernel) (pa_cons (pv 0) (pa_cons (pe_bltn (v := .ty "bool") (u := .type "bool") (by rfl) T.n_bool (by decide +kernel) rfl) pa_nil)))))))), ?_⟩
    walk_at "rs"
    refine ⟨v, "int", ⟨rfl, rfl⟩, d, hD, by decide, ite2 (fun h => ⟨v, "bool", ⟨rfl, rfl⟩, d, hD, by decide, ?_⟩) (fun h => ?_)⟩
    · have e : isNum d = !isTy "bool" d := by cases d <;> first | rfl | cases h
      rw [← e]; exact k H (Same.refl _)
    · have e : isNum d = false := by cases d <;> first | rfl | (exact absurd rfl h)
      have q : Q (.bl (isNum d)) H := k H (Same.refl _)
      rw [e] at q; exact q
/-! ### lowest terms -/
def frG (p q : Int) : Int := if q < 0 then -((Nat.gcd p.natAbs q.natAbs : Nat) : Int) else ((Nat.gcd p.natAbs q.natAbs : Nat) : Int)
def frP (p q : Int) : Int := p.fdiv (frG p q)
def frQ (p q : Int) : Int := q.fdiv (frG p q)
def sp_fraction (C : Addr) : Sp := fun vs H Q E => ∃ p q : Int, vs = [.int p, .int q] ∧ p.natAbs.log2 < 9000 ∧ q.natAbs.log2 < 9000 ∧
  (q ≠ 0 → ∀ t H', Same H H' → H t = none → H' t = some (.tup [.int (frP p q), .int (frQ p q)]) → Q (.ref t) H') ∧
  (q = 0 → ∀ d H', Same H H' → H d = none → H' d = some (.xd (badF (.int q))) → E (.ref C) (some d) H')
theorem gcd_log {p q : Int} (h : q ≠ 0) : (Nat.gcd p.natAbs q.natAbs).log2 ≤ q.natAbs.log2 := by
  have h0 : q.natAbs ≠ 0 := by omega
  have le : Nat.gcd p.natAbs q.natAbs ≤ q.natAbs := Nat.le_of_dvd (by omega) (Nat.gcd_dvd_right _ _)
  have g0 : Nat.gcd p.natAbs q.natAbs ≠ 0 := fun e => h0 (Nat.eq_zero_of_gcd_eq_zero_right e)
  exact (Nat.le_log2 h0).mpr (Nat.le_trans (Nat.log2_self_le g0) le)
theorem mk_bad {C : Addr} {H1 : Hp} {v : V} {Qx : XK} (k : ∀ d H', Same H1 H' → H1 d = none → H' d = some (.xd (badF v)) → Qx (.ref C) (some d) H') : ∀ a, H1 a = none → sp_BadValue C (.ref a :: ([v] ++ [])) (L2.upd H1 a (exo a C none)) (fun v2 H2 => v2 = .non ∧ ∃ (d : Addr) (fs : List (Str × V)), H2 a = some (exo a C (some d)) ∧ H2 d = some (exd d fs) ∧ H1 d = none ∧ Qx (.ref C) (some d) (L2.upd (del H2 a) d (.xd fs))) E0 := by
  intro a ha
  refine ⟨a, v, rfl, upd_same, fun dx hdx ne => ⟨rfl, dx, badF v, ?_, upd_same, ?_, k dx _ ?_ ?_ upd_same⟩⟩
  · rw [upd_ne (Ne.symm ne), upd_same]
  · rw [upd_ne ne] at hdx; exact hdx
  · intro b o e
    rw [upd_ne ne] at hdx
    have n1 : b ≠ a := fun z => by rw [z, ha] at e; cases e
    have n2 : b ≠ dx := fun z => by rw [z, hdx] at e; cases e
    rw [upd_ne n2, del_ne n1, upd_ne n2, upd_ne n1, upd_ne n2, upd_ne n1]
    exact e
  · rw [upd_ne ne] at hdx; exact hdx
theorem mk_badT {C : Addr} {ta : TA} {σ : L2.St} {H0 H1 : Hp} {v : V} {Qx : XK} (ht : ∀ K : List V → Hp → Prop, K [v] H1 → ta σ H0 K) (k : ∀ d H', Same H1 H' → H1 d = none → H' d = some (.xd (badF v)) → Qx (.ref C) (some d) H') : tMkO C (sp_BadValue C) [] ta σ H0 Qx :=
  ht _ ⟨by simp, mk_bad k⟩
theorem ok_fraction (T : Txt w K mg) : FnOk P w K mg base (L2.CX P w) 3 T.a_fraction T.d_fraction ["p", "q"] (sp_fraction T.C_BadValue) := by
  refine T.F_fraction.ok sc_fraction (fun vs H Q E h => ?_) (fun cdv A outer s H vs Q E hr h => ?_)
  · obtain ⟨p, q, rfl, _⟩ := h
    rfl
  · obtain ⟨p, q, rfl, lp, lq, k, kE⟩ := h
    have hr_is_number : Room 1 _ := hr.mono (by decide)
    have G_is_number := ok_is_number (P := P) (base := base) T
    have hr_BadValue : Room 2 _ := hr.mono (by decide)
    have G_BadValue := ok_BadValue (P := P) (base := base) T
    refine ⟨_, (pss_cons (ps_if (PW.pt (pw_or (pt_not (pt_val (pe_call G_is_number hr_is_number (by rfl) T.m_is_number T.F_is_number.kp T.B_is_number .nil pass0 (pa_cons (pv 1) pa_nil)))) (pw_or1 (pt_cmpR op_eqI (pv 1) pe_int (nomark _))))) (pss_one (ps_raise rfl (takes_of rfl rfl rfl rfl) (pmk_oex T.X_BadValue T.i_BadValue T.t_BadValue G_BadValue hr_BadValue T.B_BadValue__init .nil pass0 (by rfl) T.m_BadValue (pa_cons (pv 1) pa_nil)))) pss_nil)
      (pss_cons (ps_set (i := 2) sc_fraction.nd rfl (Or.inl rfl) (pe_callBfun cr_gcd (by rfl) T.m_gcd (pa_cons (pv 0) (pa_cons (pv 1) pa_nil))))
      (pss_cons (ps_if (pt_cmpR op_lt (pv 1) pe_int (nomark _)) (pss_one (ps_set (i := 2) sc_fraction.nd rfl (Or.inl rfl) (pe_un un_neg (pv 2)))) pss_nil)
      (pss_one (ps_ret (pe_tupU (pa_cons (pe_op op_fdivF (pv 0) (pv 2)) (pa_cons (pe_op op_fdivF (pv 1) (pv 2)) pa_nil)))))))), ?_⟩
    refine seq_op fun N hN => ?_
    walk_at "rs"
    refine ⟨_, .int q, rfl, .int q, fun H1 s1 => ⟨true, rfl, iteFF (by decide) (ite2 (fun e => ?_) (fun e => hN _ _ ?_))⟩⟩
    · subst e
      exact mk_badT (fun K h => by walk_at "rs"; exact h) fun d H2 s2 hd h2 => kE rfl d H2 (Same.trans s1 s2) (Same.dom s1 d hd) h2
    clear hN N
    replace k := k e
    clear kE
    have g0 : (Nat.gcd p.natAbs q.natAbs : Nat) ≠ 0 := fun z => e (by have := Nat.eq_zero_of_gcd_eq_zero_right z; omega)
    have gl := gcd_log (p := p) e
    refine seq_op fun N hN => ?_
    walk_at "rs"
    refine ⟨p, q, rfl, hN _ _ ?_⟩
    clear hN N
    refine cut_seq (fun σ H2 => σ = [some (.int p), some (.int q), some (.int (frG p q))] ∧ H2 = H1) (fun N hN => ?_) ?_
    · walk_at "rs"
      unfold frG at hN
      refine ite2 (fun c => ?_) (fun c => ?_)
      · rw [if_pos c] at hN; exact hN _ _ ⟨rfl, rfl⟩
      · rw [if_neg c] at hN; exact hN _ _ ⟨rfl, rfl⟩
    · rintro σ H2 ⟨rfl, rfl⟩
      have n0 : frG p q ≠ 0 := by unfold frG; split <;> omega
      have nl : (frG p q).natAbs.log2 < 9000 := by
        have : (frG p q).natAbs = Nat.gcd p.natAbs q.natAbs := by unfold frG; split <;> omega
        rw [this]; omega
      walk_at "rs"
      exact ⟨⟨n0, nl⟩, ⟨n0, nl⟩, by decide, fun t H3 s3 h03 h3 => k t H3 (Same.trans s1 s3) (Same.dom s1 t h03) h3⟩
/-! ### the reckoning -/
def FrT (p q : Int) : V × V := (.int (frP p q), .int (frQ p q))
/-- a pair of whole numbers at a -/
def Pr (K : PySem.W.Frag) (H : Hp) (a : Addr) (p q : Int) : Prop := SqT K H a [.int p, .int q]
def sp_two (K : PySem.W.Frag) (f g : Int → Int → Int → Int → Int) : Sp := fun vs H Q _ => ∃ (a b : Addr) (p q r s : Int), vs = [.ref a, .ref b] ∧ Pr K H a p q ∧ Pr K H b r s ∧ p.natAbs < 2 ^ 4000 ∧ q.natAbs < 2 ^ 4000 ∧ r.natAbs < 2 ^ 4000 ∧ s.natAbs < 2 ^ 4000 ∧ g p q r s ≠ 0 ∧
  ∀ t H', Same H H' → H t = none → H' t = some (.tup [.int (frP (f p q r s) (g p q r s)), .int (frQ (f p q r s) (g p q r s))]) → Q (.ref t) H'
theorem two_add {i j : Int} {a : Nat} (hi : i.natAbs < 2 ^ a) (hj : j.natAbs < 2 ^ a) : (i + j).natAbs < 2 ^ (a + 1) := by
  have e : 2 ^ (a + 1) = 2 * 2 ^ a := Nat.pow_succ'
  omega
theorem two_sub {i j : Int} {a : Nat} (hi : i.natAbs < 2 ^ a) (hj : j.natAbs < 2 ^ a) : (i - j).natAbs < 2 ^ (a + 1) := by
  have e : 2 ^ (a + 1) = 2 * 2 ^ a := Nat.pow_succ'
  omega
theorem mulW {i j : Int} (hi : i.natAbs < 2 ^ 4000) (hj : j.natAbs < 2 ^ 4000) : CMulW i j := wide_mul hi hj (by decide) (by decide) (by decide)
theorem mulL {i j : Int} (hi : i.natAbs < 2 ^ 4000) (hj : j.natAbs < 2 ^ 4000) : (i * j).natAbs < 2 ^ 8000 := wide_lt (a := 4000) (b := 4000) hi hj
theorem logL {i : Int} {a : Nat} (h : i.natAbs < 2 ^ a) (h0 : 0 < a) (h9 : a ≤ 9000) : i.natAbs.log2 < 9000 := Nat.lt_of_lt_of_le (PySem.Flt.log2_lt_of h0 h) h9
theorem ok_plus (T : Txt w K mg) : FnOk P w K mg base CX0 4 T.a_plus T.d_plus ["a", "b"] (sp_two K (fun p q r s => p * s + r * q) fun _ q _ s => q * s) := by
  refine T.F_plus.ok sc_plus (fun vs H Q E h => ?_) (fun cdv A outer s H vs Q E hr h => ?_)
  · obtain ⟨a, b, p, q, r, s', rfl, _⟩ := h
    rfl
  · obtain ⟨a, b, p, q, r, s', rfl, ha, hb, lp, lq, lr, ls, n0, k⟩ := h
    have hr_fraction : Room 3 _ := hr.mono (by decide)
    have G_fraction := ok_fraction (P := P) (base := base) T
    refine ⟨_, (pss_one (ps_ret (pe_call G_fraction hr_fraction (by rfl) T.m_fraction T.F_fraction.kp T.B_fraction .nil passL (pa_cons (pe_op op_add (pe_op op_mulW (pe_ix ix_tup (pv 0) pe_int (fun _ _ => rfl)) (pe_ix ix_tup (pv 1) pe_int (fun _ _ => rfl))) (pe_op op_mulW (pe_ix ix_tup (pv 1) pe_int (fun _ _ => rfl)) (pe_ix ix_tup (pv 0) pe_int (fun _ _ => rfl)))) (pa_cons (pe_op op_mulW (pe_ix ix_tup (pv 0) pe_int (fun _ _ => rfl)) (pe_ix ix_tup (pv 1) pe_int (fun _ _ => rfl))) pa_nil))))), ?_⟩
    walk_at "rs"
    refine ⟨_, ha, _, rfl, _, hb, _, rfl, _, rfl, _, rfl, mulW lp ls, _, hb, _, rfl, _, ha, _, rfl, _, rfl, _, rfl, mulW lr lq, _, ha, _, rfl, _, hb, _, rfl, _, rfl, _, rfl, mulW lq ls, ?_⟩
    exact ⟨_, _, rfl, logL (two_add (mulL lp ls) (mulL lr lq)) (by decide) (by decide), logL (mulL lq ls) (by decide) (by decide), fun _ => k, fun e => absurd e n0⟩
end
end LK

set_option Elab.async false
set_option linter.all false
set_option maxRecDepth 100000
namespace LK
open PySem PySem.Spec PyProof.Rows L2
local macro_rules | `(tactic| walk_at "rs") => `(tactic| simp only [cxK, cxNK, tCallZ, tAsg, tOp, rI0, rS0, rB0, rI, rU, tUn, rEq, rNe, rIxL, rIxT, rIxS, rSetL, rSlLU, rSlS, rSlU, rCatL, rCatU, rRepL, rIn, tVar, tC, gName, gSub, tIfS, tTest, tB, tAnd, tOr, tNot, tNotV, tAndV, tOrV, tIf, tCall, tCons, tNil, tCB, tDrop, tRet, tRetN, tNext, tLstU, tTupU, tM0, tM1, tPar, tPar3, tAug, ipI, tBM, tBM0, rAppend, rPop, tBreak, sDPut, tDGet, tDGet2, tCont, tChain, tSl, tPart, tNoPart, L2.start, List.map, List.length_cons, List.length_nil, List.replicate, List.cons_append, List.nil_append, List.append_nil, List.getElem?_cons_zero, List.getElem?_cons_succ, List.set_cons_zero, List.set_cons_succ, Option.some.injEq, V.int.injEq, V.ref.injEq, V.str.injEq, V.bl.injEq, exists_eq_left', exists_eq_left, exists_and_left, decide_eq_true_eq, List.cons.injEq, and_true, true_and, scal, Bool.not_eq_true', decide_eq_false_iff_not, Nat.zero_add, Nat.reduceAdd, Nat.reduceSub, reduceCtorEq, false_and, exists_false, false_or, or_false, CPow, CPowW, CMul, CDiv, Int.reduceToNat, ↓reduceIte, wipe, sw, List.nil_append, List.singleton_append])
local macro_rules | `(tactic| walk_at "st") => `(tactic| (refine seq_op fun N hN => ?_; walk_at "rs"))
local macro_rules | `(tactic| walk_at "sd") => `(tactic| first | assumption | decide | omega)
local macro_rules | `(tactic| walk_at "rd") => `(tactic| repeat (first
  | refine ⟨_, SqL.of (by assumption), ?_⟩ | refine ⟨_, SqL.of upd_same, ?_⟩ | refine ⟨_, .inl (SqL.of (by assumption)), ?_⟩ | refine ⟨_, (by assumption : _ = some (HO.lst _)), ?_⟩ | refine ⟨_, upd_same, ?_⟩
  | refine ⟨_, rfl, ?_⟩ | refine And.intro (by walk_at "sd") ?_))

theorem eqv_zero (r s : Int) : PyData.eqv (.tuple [.int r, .int s]) (.tuple [.int 0, .int 1]) = (decide (r = 0) && decide (s = 1)) := by
  simp [PyData.eqv, PyData.eqvAll]
  rfl
theorem shaped2 (r s : Int) : SeqAt.shaped (.tuple [.int r, .int s]) = true := by rfl
theorem dp_pair {K : PySem.W.Frag} {H : Hp} {a : Addr} {p q : Int} (h : Pr K H a p q) : Dp K H (.ref a) (.tuple [.int p, .int q]) := .tup h (.cons (.int p) (.cons (.int q) .nil))
theorem abs_if (p : Int) : (if p < 0 then -p else p) = ((p.natAbs : Nat) : Int) := by split <;> omega
theorem fr_spec (p : Int) {q : Int} (h : q ≠ 0) : frP p q * frG p q = p ∧ frQ p q * frG p q = q ∧ 1 ≤ frQ p q ∧ Nat.gcd (frP p q).natAbs (frQ p q).natAbs = 1 ∧ (frP p q).natAbs ≤ p.natAbs ∧ (frQ p q).natAbs ≤ q.natAbs ∧ frG p q ≠ 0 := by
  have g0 : Nat.gcd p.natAbs q.natAbs ≠ 0 := fun z => h (by have := Nat.eq_zero_of_gcd_eq_zero_right z; omega)
  have ga : (frG p q).natAbs = Nat.gcd p.natAbs q.natAbs := by unfold frG; split <;> omega
  have gs : (0 < q ∧ 0 < frG p q) ∨ (q < 0 ∧ frG p q < 0) := by unfold frG; split <;> omega
  have gn : frG p q ≠ 0 := by omega
  have d1 : frG p q ∣ p := Int.natAbs_dvd_natAbs.mp (by rw [ga]; exact Nat.gcd_dvd_left _ _)
  have d2 : frG p q ∣ q := Int.natAbs_dvd_natAbs.mp (by rw [ga]; exact Nat.gcd_dvd_right _ _)
  obtain ⟨a, ea⟩ := d1
  obtain ⟨b, eb⟩ := d2
  have pa : frP p q = a := by
    unfold frP
    generalize frG p q = G at ea gn
    rw [ea, Int.mul_comm]
    exact Int.mul_fdiv_cancel _ gn
  have qb : frQ p q = b := by
    unfold frQ
    generalize frG p q = G at eb gn
    rw [eb, Int.mul_comm]
    exact Int.mul_fdiv_cancel _ gn
  rw [pa, qb]
  have na : p.natAbs = a.natAbs * Nat.gcd p.natAbs q.natAbs := by
    rw [← ga, ← Int.natAbs_mul, Int.mul_comm]; exact congrArg Int.natAbs ea
  have nb : q.natAbs = b.natAbs * Nat.gcd p.natAbs q.natAbs := by
    rw [← ga, ← Int.natAbs_mul, Int.mul_comm]; exact congrArg Int.natAbs eb
  have hg : Nat.gcd a.natAbs b.natAbs = 1 := by
    have e : Nat.gcd (a.natAbs * Nat.gcd p.natAbs q.natAbs) (b.natAbs * Nat.gcd p.natAbs q.natAbs) = Nat.gcd p.natAbs q.natAbs := by rw [← na, ← nb]
    rw [Nat.gcd_mul_right] at e
    exact Nat.eq_of_mul_eq_mul_right (Nat.pos_of_ne_zero g0) (by rw [e, Nat.one_mul])
  refine ⟨by rw [Int.mul_comm]; exact ea.symm, by rw [Int.mul_comm]; exact eb.symm, ?_, hg, ?_, ?_, gn⟩
  · generalize frG p q = G at eb gs
    rcases Int.lt_trichotomy b 0 with c | c | c
    · rcases gs with ⟨h1, h2⟩ | ⟨h1, h2⟩
      · have := Int.mul_neg_of_pos_of_neg h2 c; omega
      · have := Int.mul_pos_of_neg_of_neg h2 c; omega
    · rw [c, Int.mul_zero] at eb; omega
    · omega
  · rw [na]; exact Nat.le_mul_of_pos_right _ (Nat.pos_of_ne_zero g0)
  · rw [nb]; exact Nat.le_mul_of_pos_right _ (Nat.pos_of_ne_zero g0)
theorem pow_le {n a b : Nat} (h : n < 2 ^ a) (hab : a ≤ b) : n < 2 ^ b := Nat.lt_of_lt_of_le h (Nat.pow_le_pow_right (by decide) hab)
theorem abs_div (p : Int) {q : Int} (h : 1 ≤ q) : (p.fdiv q).natAbs ≤ p.natAbs := by
  rw [Int.fdiv_eq_ediv_of_nonneg p (by omega)]
  exact Int.natAbs_ediv_le_natAbs p q
theorem eqv_pair (p q r s : Int) : PyData.eqv (.tuple [.int p, .int q]) (.tuple [.int r, .int s]) = (decide (p = r) && decide (q = s)) := by
  simp [PyData.eqv, PyData.eqvAll]
  rfl
theorem fr_low {p q : Int} (h : 1 ≤ q) (hg : Nat.gcd p.natAbs q.natAbs = 1) : frP p q = p ∧ frQ p q = q := by
  have e : frG p q = 1 := by unfold frG; rw [hg, if_neg (by omega)]; rfl
  obtain ⟨h1, h2, _⟩ := fr_spec p (q := q) (by omega)
  rw [e, Int.mul_one] at h1 h2
  exact ⟨h1, h2⟩
theorem fr_unique {P Q p q : Int} (hQ : Q ≠ 0) (h : P * q = p * Q) (hq : 1 ≤ q) (hg : Nat.gcd p.natAbs q.natAbs = 1) : frP P Q = p ∧ frQ P Q = q := by
  obtain ⟨e1, e2, e3, e4, _, _, g0⟩ := fr_spec P hQ
  have h2 : frP P Q * q = p * frQ P Q := by
    have e : (frP P Q * q) * frG P Q = (p * frQ P Q) * frG P Q := by
      have a : (frP P Q * q) * frG P Q = (frP P Q * frG P Q) * q := by
        rw [Int.mul_assoc, Int.mul_comm q, ← Int.mul_assoc]
      have b : (p * frQ P Q) * frG P Q = p * (frQ P Q * frG P Q) := Int.mul_assoc _ _ _
      rw [a, b, e1, e2, h]
    exact Int.eq_of_mul_eq_mul_right g0 e
  have hn : (frP P Q).natAbs * q.natAbs = p.natAbs * (frQ P Q).natAbs := by rw [← Int.natAbs_mul, ← Int.natAbs_mul, h2]
  have d1 : q.natAbs ∣ (frQ P Q).natAbs := by
    have d : q.natAbs ∣ p.natAbs * (frQ P Q).natAbs := ⟨(frP P Q).natAbs, by rw [← hn, Nat.mul_comm]⟩
    exact Nat.Coprime.dvd_of_dvd_mul_left (Nat.Coprime.symm hg) d
  have d2 : (frQ P Q).natAbs ∣ q.natAbs := by
    have d : (frQ P Q).natAbs ∣ (frP P Q).natAbs * q.natAbs := ⟨p.natAbs, by rw [hn, Nat.mul_comm]⟩
    exact Nat.Coprime.dvd_of_dvd_mul_left (Nat.Coprime.symm e4) d
  have en := Nat.dvd_antisymm d1 d2
  have eq : frQ P Q = q := by omega
  refine ⟨?_, eq⟩
  rw [eq] at h2
  exact Int.eq_of_mul_eq_mul_right (by omega) h2
/-- what a fraction of P and Q is worth -/
theorem fr_worth (P : Int) {Q : Int} (hQ : Q ≠ 0) : frP P Q * Q = P * frQ P Q := by
  obtain ⟨e1, e2, _⟩ := fr_spec P hQ
  have : frP P Q * Q = frP P Q * (frQ P Q * frG P Q) := by rw [e2]
  rw [this, Int.mul_comm (frQ P Q), ← Int.mul_assoc, e1]
end LK

set_option Elab.async false
set_option linter.all false
set_option maxRecDepth 100000
namespace LK
open PySem PySem.Spec PyProof.Rows L2
local macro_rules | `(tactic| walk_at "rs") => `(tactic| simp only [cxK, cxNK, tCallZ, tAsg, tOp, rI0, rS0, rB0, rI, rU, tUn, rEq, rNe, rIxL, rIxT, rIxS, rSetL, rSlLU, rSlS, rSlU, rCatL, rCatU, rRepL, rIn, tVar, tC, gName, gSub, tIfS, tTest, tB, tAnd, tOr, tNot, tNotV, tAndV, tOrV, tIf, tCall, tCons, tNil, tCB, tDrop, tRet, tRetN, tNext, tLstU, tTupU, tM0, tM1, tPar, tPar3, tAug, ipI, tBM, tBM0, rAppend, rPop, tBreak, sDPut, tDGet, tDGet2, tCont, tChain, tSl, tPart, tNoPart, L2.start, List.map, List.length_cons, List.length_nil, List.replicate, List.cons_append, List.nil_append, List.append_nil, List.getElem?_cons_zero, List.getElem?_cons_succ, List.set_cons_zero, List.set_cons_succ, Option.some.injEq, V.int.injEq, V.ref.injEq, V.str.injEq, V.bl.injEq, exists_eq_left', exists_eq_left, exists_and_left, decide_eq_true_eq, List.cons.injEq, and_true, true_and, scal, Bool.not_eq_true', decide_eq_false_iff_not, Nat.zero_add, Nat.reduceAdd, Nat.reduceSub, reduceCtorEq, false_and, exists_false, false_or, or_false, CPow, CPowW, CMul, CDiv, Int.reduceToNat, ↓reduceIte, wipe, sw, List.nil_append, List.singleton_append])
local macro_rules | `(tactic| walk_at "st") => `(tactic| (refine seq_op fun N hN => ?_; walk_at "rs"))
local macro_rules | `(tactic| walk_at "sd") => `(tactic| first | assumption | decide | omega)
local macro_rules | `(tactic| walk_at "rd") => `(tactic| repeat (first
  | refine ⟨_, SqL.of (by assumption), ?_⟩ | refine ⟨_, SqL.of upd_same, ?_⟩ | refine ⟨_, .inl (SqL.of (by assumption)), ?_⟩ | refine ⟨_, (by assumption : _ = some (HO.lst _)), ?_⟩ | refine ⟨_, upd_same, ?_⟩
  | refine ⟨_, rfl, ?_⟩ | refine And.intro (by walk_at "sd") ?_))

section
variable {P : Program} {w : World} {K : PySem.W.Frag} {mg : Str → Option Value} {base : Heap}
theorem ok__law_draw (T : Txt w K mg) : FnOk P w K mg base CX0 1 T.a__law_draw T.d__law_draw ["bag", "many"] sp__law_draw := by
  refine T.F__law_draw.ok sc__law_draw (fun vs H Q E h => ?_) (fun cdv A outer s H vs Q E hr h => ?_)
  · obtain ⟨b, c, n, N0, rfl, _⟩ := h
    rfl
  · obtain ⟨b, c, n, N0, rfl, ⟨cells, i, g, m, d, hB, hC, ncb, hi, hm, hm2, hd, hd2⟩, n0, n1, k⟩ := h
    refine ⟨_, (pss_cons (ps_asg (pe_op op_add (pe_ix ix_list (pv 0) pe_int (fun _ _ => rfl)) pe_int) (pg_sub (pv 0) pe_int set_list))
      (pss_cons (ps_if (PW.pt (pw_and (pt_cmpR op_eqI (pe_ix ix_list (pv 0) pe_int (fun _ _ => rfl)) pe_int (nomark _)) (pw_and1 (pt_cmpR op_lt (pe_ix ix_list (pv 0) pe_int (fun _ _ => rfl)) (pe_callB call_len_seq (by rfl) T.n_len (by decide +kernel) (pa_cons (pe_ix ix_list (pv 0) pe_int (fun _ _ => rfl)) pa_nil)) (nomark _))))) (pss_cons (ps_set (i := 2) sc__law_draw.nd rfl (Or.inl rfl) (pe_callTy call_intI (by rfl) T.n_int (by decide +kernel) (pa_cons (pe_ix ix_list (pe_ix ix_list (pv 0) pe_int (fun _ _ => rfl)) (pe_ix ix_list (pv 0) pe_int (fun _ _ => rfl)) (fun _ _ => rfl)) pa_nil)))
      (pss_cons (ps_asg (pe_op op_add (pe_ix ix_list (pv 0) pe_int (fun _ _ => rfl)) pe_int) (pg_sub (pv 0) pe_int set_list))
      (pss_one (ps_if (pt_cmpR op_ge (pv 2) (pe_op op_powW pe_int pe_int) (nomark _)) (pss_one (ps_asg (pv 2) (pg_sub (pv 0) pe_int set_list))) (pss_one (ps_asg (pe_op op_mod (pe_callTy call_intI (by rfl) T.n_int (by decide +kernel) (pa_cons (pe_op op_powW (pe_op op_add (pe_op op_add (pe_ix ix_list (pv 0) pe_int (fun _ _ => rfl)) (pe_op op_mul (pe_op op_mod (pe_callTy call_intI (by rfl) T.n_int (by decide +kernel) (pa_cons (pv 2) pa_nil)) pe_int) pe_int)) pe_int) pe_int) pa_nil)) pe_int) (pg_sub (pv 0) pe_int set_list))))))) pss_nil)
      (pss_cons (ps_if (pt_cmpR op_gt (pe_ix ix_list (pv 0) pe_int (fun _ _ => rfl)) pe_int (nomark _)) (pss_cons (ps_set (i := 3) sc__law_draw.nd rfl (Or.inl rfl) (pe_op op_mod (pe_callTy call_intI (by rfl) T.n_int (by decide +kernel) (pa_cons (pe_ix ix_list (pv 0) pe_int (fun _ _ => rfl)) pa_nil)) (pv 1)))
      (pss_cons (ps_asg (pe_op op_fdivW (pe_callTy call_intI (by rfl) T.n_int (by decide +kernel) (pa_cons (pe_ix ix_list (pv 0) pe_int (fun _ _ => rfl)) pa_nil)) (pv 1)) (pg_sub (pv 0) pe_int set_list))
      (pss_one (ps_ret (pv 3))))) pss_nil)
      (pss_cons (ps_asg (pe_op op_mod (pe_callTy call_intI (by rfl) T.n_int (by decide +kernel) (pa_cons (pe_op op_powW (pe_op op_add (pe_op op_add (pe_ix ix_list (pv 0) pe_int (fun _ _ => rfl)) (pe_op op_mul (pe_ix ix_list (pv 0) pe_int (fun _ _ => rfl)) pe_int)) pe_int) pe_int) pa_nil)) pe_int) (pg_sub (pv 0) pe_int set_list))
      (pss_one (ps_ret (pe_op op_mod (pe_callTy call_intI (by rfl) T.n_int (by decide +kernel) (pa_cons (pe_op op_fdivW (pe_ix ix_list (pv 0) pe_int (fun _ _ => rfl)) pe_int) pa_nil)) (pv 1)))))))), ?_⟩
    -- bag[4] = bag[4] + 1
    refine seq_op fun N hN => ?_
    walk_at "rs"
    refine ⟨_, SqL.of hB, _, rfl, _, rfl, _, hB, _, rfl, ?_⟩
    refine hN _ _ ?_
    clear hN N
    -- if bag[2] == 0 and bag[1] < len(bag[0]): ..
    have B1 : Bag N0 (upd H b (.lst [.ref c, .int i, .int g, .int m, .int (d + 1)])) b c := ⟨cells, i, g, m, d + 1, upd_same, by rw [upd_ne ncb]; exact hC, ncb, hi, hm, hm2, by omega, by omega⟩
    have K1 : Kp b H (upd H b (.lst [.ref c, .int i, .int g, .int m, .int (d + 1)])) := Kp.upd
    show tSeq _ _ _ _ (upd H b (.lst [.ref c, .int i, .int g, .int m, .int (d + 1)]))
    generalize upd H b (.lst [.ref c, .int i, .int g, .int m, .int (d + 1)]) = H1 at B1 K1 ⊢
    clear hB hC ncb hi hm hm2 hd hd2 i g m d cells
    refine cut_seq (fun σ H2 => ∃ x, σ = [some (.ref b), some (.int n), x, none] ∧ Bag N0 H2 b c ∧ Kp b H H2) (fun N hN => ?_) ?_
    · obtain ⟨cells, i, g, m, d, hB, hC, ncb, hi, hm, hm2, hd, hd2⟩ := id B1
      walk_at "rs"
      refine ⟨_, SqL.of hB, _, rfl, _, rfl, ite2 (fun z => ?_) (fun _ => hN _ _ ⟨_, rfl, B1, K1⟩)⟩
      refine ⟨_, SqL.of hB, _, rfl, _, SqL.of hB, _, rfl, _, rfl, _, .inl (SqL.of hC), _, rfl, ite2 (fun zl => ?_) (fun _ => hN _ _ ⟨_, rfl, B1, K1⟩)⟩
      -- cell = bag[0][bag[1]]
      rw [List.length_map] at zl
      obtain ⟨cl, hcl⟩ : ∃ cl, cells[i.toNat]? = some cl := ⟨cells[i.toNat]'(by omega), List.getElem?_eq_getElem _⟩
      refine seq_op fun N2 hN2 => ?_
      walk_at "rs"
      walk_at "rd"
      refine ⟨_, _, rfl, SqL.of hC, _, at_of (j := i.toNat) (v := .int cl) (by omega) (by rw [List.getElem?_map, hcl] <;> rfl), cl, rfl, hN2 _ _ ?_⟩
      clear hN2 N2
      -- bag[1] = bag[1] + 1
      refine seq_op fun N2 hN2 => ?_
      walk_at "rs"
      walk_at "rd"
      refine hN2 _ _ ?_
      clear hN2 N2
      -- if cell >= 10 ** 18: bag[2] = cell else: ..
      walk_at "rs"
      refine ⟨by decide, ite2 (fun _ => ?_) (fun _ => ?_)⟩
      · refine ⟨_, upd_same, _, rfl, hN _ _ ⟨_, rfl, ?_, ?_⟩⟩
        · exact ⟨cells, i + 1, cl, m, d, upd_same, by rw [upd_ne ncb, upd_ne ncb]; exact hC, ncb, by omega, hm, hm2, hd, hd2⟩
        · exact K1.trans (Kp.upd.trans Kp.upd)
      · walk_at "rd"
        refine hN _ _ ⟨_, rfl, ?_, ?_⟩
        · exact ⟨cells, i + 1, g, _, d, upd_same, by rw [upd_ne ncb, upd_ne ncb]; exact hC, ncb, by omega, Int.emod_nonneg _ (by decide), Int.emod_lt_of_pos _ (by decide), hd, hd2⟩
        · exact K1.trans (Kp.upd.trans Kp.upd)
    · rintro σ H2 ⟨x, rfl, B2, K2⟩
      obtain ⟨cells, i, g, m, d, hB, hC, ncb, hi, hm, hm2, hd, hd2⟩ := id B2
      -- if bag[2] > 0: ..
      refine seq_op fun N hN => ?_
      walk_at "rs"
      refine ⟨_, SqL.of hB, _, rfl, _, rfl, ite2 (fun _ => ?_) (fun _ => hN _ _ ?_)⟩
      · refine seq_op fun N2 hN2 => ?_
        walk_at "rs"
        walk_at "rd"
        refine hN2 _ _ ?_
        clear hN2 N2
        refine seq_op fun N2 hN2 => ?_
        walk_at "rs"
        refine ⟨_, SqL.of hB, _, rfl, _, rfl, ⟨n0, Nat.lt_trans (PySem.Flt.log2_lt_of (by decide : 0 < 30) (show n.natAbs < 2 ^ 30 by omega)) (by decide)⟩, ?_⟩
        walk_at "rd"
        refine hN2 _ _ ?_
        walk_at "rs"
        exact k _ _ (Int.emod_nonneg _ (by omega)) (Int.emod_lt_of_pos _ n0) ⟨cells, i, _, m, d, upd_same, by rw [upd_ne ncb]; exact hC, ncb, hi, hm, hm2, hd, hd2⟩ (K2.trans Kp.upd)
      · clear hN N
        refine seq_op fun N hN => ?_
        walk_at "rs"
        refine ⟨_, SqL.of hB, _, rfl, _, SqL.of hB, _, rfl, _, rfl, .inr (by decide), m, rfl, ⟨by decide, by decide, by omega⟩, by decide, ?_⟩
        walk_at "rd"
        refine hN _ _ ?_
        clear hN N
        walk_at "rs"
        walk_at "rd"
        exact ⟨⟨by decide, Nat.lt_trans (PySem.Flt.log2_lt_of (by decide : 0 < 31) (by decide)) (by decide)⟩, n0, k _ _ (Int.emod_nonneg _ (by omega)) (Int.emod_lt_of_pos _ n0) ⟨cells, i, g, _, d, upd_same, by rw [upd_ne ncb]; exact hC, ncb, hi, Int.emod_nonneg _ (by decide), Int.emod_lt_of_pos _ (by decide), hd, hd2⟩ (K2.trans Kp.upd)⟩

theorem ok__law_bag (T : Txt w K mg) : FnOk P w K mg base CX0 1 T.a__law_bag T.d__law_bag ["script"] (sp__law_bag K) := by
  refine T.F__law_bag.ok sc__law_bag (fun vs H Q E h => ?_) (fun cdv A outer s H vs Q E hr h => ?_)
  · obtain ⟨a, ns, rfl, _⟩ := h
    rfl
  · obtain ⟨a, ns, rfl, hS, hl, k⟩ := h
    refine ⟨_, (pss_cons (ps_set (i := 1) sc__law_bag.nd rfl (Or.inl rfl) pe_int)
      (pss_cons (ps_for PassesOwn.never rfl (pi_list (pe_slice sl_listU (pv 0) po_none (po_some pe_int))) (pg_name (i := 2) sc__law_bag.nd rfl (Or.inl rfl)) (pss_one (ps_set (i := 1) sc__law_bag.nd rfl (Or.inl rfl) (pe_op op_mod (pe_callTy call_intI (by rfl) T.n_int (by decide +kernel) (pa_cons (pe_op op_powW (pe_op op_add (pe_op op_add (pv 1) (pe_op op_mod (pe_callTy call_intI (by rfl) T.n_int (by decide +kernel) (pa_cons (pv 2) pa_nil)) pe_int)) pe_int) pe_int) pa_nil)) pe_int))))
      (pss_one (ps_ret (pe_lstU (pa_cons (pe_callTy call_listU (by rfl) T.n_list (by decide +kernel) (pa_cons (pe_slice sl_listU (pv 0) po_none (po_some pe_int)) pa_nil)) (pa_cons pe_int (pa_cons pe_int (pa_cons (pv 1) (pa_cons pe_int pa_nil)))))))))), ?_⟩
    refine seq_op fun N hN => ?_
    walk_at "rs"
    refine hN _ _ ?_
    clear hN N
    refine cut_seq (fun σ H2 => ∃ m x, σ = [some (.ref a), some (.int m), x] ∧ 0 ≤ m ∧ m < 2305843009213693951 ∧ Same H H2) (fun N hN => ?_) ?_
    · refine ⟨_, rfl, _, rfl, a, _, rfl, hS, fun p H1 s1 h0 h1 => ?_⟩
      refine ⟨p, rfl, ⟨_, SqL.of h1⟩, for_list (K := K) (a := p) (xs := cutV (ns.map V.int) none (some 63)) (fun i σ H2 => ∃ m x, σ = [some (.ref a), some (.int m), x] ∧ 0 ≤ m ∧ m < 2305843009213693951 ∧ Same H1 H2) ⟨_, _, rfl, by decide, by decide, Same.refl _⟩ (fun i σ H2 _ ⟨_, _, _, _, _, s2⟩ => SqL.of (s2 _ _ h1)) ?_ ?_⟩
      · rintro i y σ H2 hi ⟨m, x, rfl, m0, m1, s2⟩
        obtain ⟨u, rfl⟩ : ∃ u, y = V.int u := by
          have q := List.mem_of_getElem? hi
          have q2 : y ∈ (ns.map V.int).take 63 := (cutV_take (ns.map V.int) 63) ▸ q
          obtain ⟨u, _, rfl⟩ := List.mem_map.mp (List.mem_of_mem_take q2)
          exact ⟨u, rfl⟩
        walk_at "rs"
        have u0 := Int.emod_nonneg u (show (2305843009213693921 : Int) ≠ 0 by decide)
        have u1 := Int.emod_lt_of_pos u (show (0 : Int) < 2305843009213693921 by decide)
        refine ⟨by decide, ⟨by decide, by decide, by omega⟩, by decide, ?_⟩
        exact ⟨_, _, ⟨rfl, rfl⟩, Int.emod_nonneg _ (by decide), Int.emod_lt_of_pos _ (by decide), s2⟩
      · rintro σ H2 ⟨m, x, rfl, m0, m1, s2⟩
        exact hN _ _ ⟨m, x, rfl, m0, m1, Same.trans s1 s2⟩
    · rintro σ H2 ⟨m, x, rfl, m0, m1, s2⟩
      walk_at "rs"
      refine ⟨_, Same.seq s2 hS, fun p H3 s3 h30 h3 => ⟨_, .inl (SqL.of h3), fun l H4 s4 h40 h4 => ⟨by decide, fun q H5 s5 h50 h5 => ?_⟩⟩⟩
      have e : cutV (ns.map V.int) none (some 63) = ns.map V.int := by
        refine (cutV_take (ns.map V.int) 63).trans ?_
        rw [List.take_of_length_le (by simpa using hl)]
      rw [e] at h4
      have s25 : Same H2 H5 := Same.trans s3 (Same.trans s4 s5)
      refine k q l H5 (Same.trans s2 s25) ⟨ns, 0, 0, m, 0, h5, s5 _ _ h4, fun z => ?_, Int.le_refl _, m0, m1, Int.le_refl _, by decide⟩ ?_
      · rw [z, h50] at h4; cases h4
      · exact Same.dom s2 q (Same.dom s3 q (Same.dom s4 q h50))
end
end LK

set_option Elab.async false
set_option linter.all false
set_option maxRecDepth 100000
namespace LK
open PySem PySem.Spec PyProof.Rows L2
local macro_rules | `(tactic| walk_at "rs") => `(tactic| simp only [cxK, cxNK, tCallZ, tAsg, tOp, rI0, rS0, rB0, rI, rU, tUn, rEq, rNe, rIxL, rIxT, rIxS, rSetL, rSlLU, rSlS, rSlU, rCatL, rCatU, rRepL, rIn, tVar, tC, gName, gSub, tIfS, tTest, tB, tAnd, tOr, tNot, tNotV, tAndV, tOrV, tIf, tCall, tCons, tNil, tCB, tDrop, tRet, tRetN, tNext, tLstU, tTupU, tM0, tM1, tPar, tPar3, tAug, ipI, tBM, tBM0, rAppend, rPop, tBreak, sDPut, tDGet, tDGet2, tCont, tChain, tSl, tPart, tNoPart, L2.start, List.map, List.length_cons, List.length_nil, List.replicate, List.cons_append, List.nil_append, List.append_nil, List.getElem?_cons_zero, List.getElem?_cons_succ, List.set_cons_zero, List.set_cons_succ, Option.some.injEq, V.int.injEq, V.ref.injEq, V.str.injEq, V.bl.injEq, exists_eq_left', exists_eq_left, exists_and_left, decide_eq_true_eq, List.cons.injEq, and_true, true_and, scal, Bool.not_eq_true', decide_eq_false_iff_not, Nat.zero_add, Nat.reduceAdd, Nat.reduceSub, reduceCtorEq, false_and, exists_false, false_or, or_false, CPow, CPowW, CMul, CDiv, Int.reduceToNat, ↓reduceIte, wipe, sw, List.nil_append, List.singleton_append])
local macro_rules | `(tactic| walk_at "st") => `(tactic| (refine seq_op fun N hN => ?_; walk_at "rs"))
local macro_rules | `(tactic| walk_at "sd") => `(tactic| first | assumption | decide | omega)
local macro_rules | `(tactic| walk_at "rd") => `(tactic| repeat (first
  | refine ⟨_, SqL.of (by assumption), ?_⟩ | refine ⟨_, SqL.of upd_same, ?_⟩ | refine ⟨_, .inl (SqL.of (by assumption)), ?_⟩ | refine ⟨_, (by assumption : _ = some (HO.lst _)), ?_⟩ | refine ⟨_, upd_same, ?_⟩
  | refine ⟨_, rfl, ?_⟩ | refine And.intro (by walk_at "sd") ?_))

theorem Kp.bn {b : Addr} {H H' : Hp} (k : Kp b H H') {o : HO} (h : H' b = some o) {p : Addr} (h0 : H' p = none) : H p = none := k.dom h p h0
theorem sqT_hb {N : Nat} {K : PySem.W.Frag} {H : Hp} {b c q : Addr} {xs : List V} (B : Bag N H b c) (h : SqT K H q xs) : SqT K (hb H b) q xs := by
  obtain ⟨yb, eb⟩ := B.at
  rcases h with (h | ⟨o, h⟩) | h
  · refine .inl (.inl ?_)
    rw [hb_ne]; exact h
    intro e; rw [e, eb] at h; cases h
  · refine .inl (.inr ⟨o, ?_⟩)
    rw [hb_ne]; exact h
    intro e; rw [e, eb] at h; cases h
  · exact .inr h
theorem seqT_kp {N : Nat} {K : PySem.W.Frag} {H H' : Hp} {b c q : Addr} {xs : List V} (B : Bag N H b c) (k : Kp b H H') (h : SqT K H q xs) : SqT K H' q xs := Same.seqT (hb_le H' b) (Same.seqT k (sqT_hb B h))
theorem new_ne {N : Nat} {b c p : Addr} {H : Hp} (B : Bag N H b c) (h0 : H p = none) : p ≠ b := fun e => by
  obtain ⟨xb, eb⟩ := B.at
  rw [e, eb] at h0; cases h0
theorem of_lst {N : Nat} {K : PySem.W.Frag} {H : Hp} {b c p : Addr} (B : Bag (N + 1) H b c) {ys : List V} (h : H p = some (.lst ys)) (n : p ≠ b) (ne : ys ≠ []) (hl : ys.length ≤ 1000000) {Q : VK} {E : XK} (k : ∀ y H', y ∈ ys → Bag N H' b c → Kp b H H' → Q y H') : sp__law_of K [.ref b, .ref p] H Q E :=
  ⟨b, c, .ref p, ys, N, rfl, B, .inl ⟨p, rfl, SqL.of h⟩, .inl ⟨p, rfl, SqL.of (by rw [hb_ne n]; exact h)⟩, ne, hl, k⟩
end LK

set_option Elab.async false
set_option linter.all false
set_option maxRecDepth 100000
namespace LK
open PySem PySem.Spec PyProof.Rows L2
local macro_rules | `(tactic| walk_at "rs") => `(tactic| simp only [cxK, cxNK, tCallZ, tAsg, tOp, rI0, rS0, rB0, rI, rU, tUn, rEq, rNe, rIxL, rIxT, rIxS, rSetL, rSlLU, rSlS, rSlU, rCatL, rCatU, rRepL, rIn, tVar, tC, gName, gSub, tIfS, tTest, tB, tAnd, tOr, tNot, tNotV, tAndV, tOrV, tIf, tCall, tCons, tNil, tCB, tDrop, tRet, tRetN, tNext, tLstU, tTupU, tM0, tM1, tPar, tPar3, tAug, ipI, tBM, tBM0, rAppend, rPop, tBreak, sDPut, tDGet, tDGet2, tCont, tChain, tSl, tPart, tNoPart, L2.start, List.map, List.length_cons, List.length_nil, List.replicate, List.cons_append, List.nil_append, List.append_nil, List.getElem?_cons_zero, List.getElem?_cons_succ, List.set_cons_zero, List.set_cons_succ, Option.some.injEq, V.int.injEq, V.ref.injEq, V.str.injEq, V.bl.injEq, exists_eq_left', exists_eq_left, exists_and_left, decide_eq_true_eq, List.cons.injEq, and_true, true_and, scal, Bool.not_eq_true', decide_eq_false_iff_not, Nat.zero_add, Nat.reduceAdd, Nat.reduceSub, reduceCtorEq, false_and, exists_false, false_or, or_false, CPow, CPowW, CMul, CDiv, Int.reduceToNat, ↓reduceIte, wipe, sw, List.nil_append, List.singleton_append])
local macro_rules | `(tactic| walk_at "st") => `(tactic| (refine seq_op fun N hN => ?_; walk_at "rs"))
local macro_rules | `(tactic| walk_at "sd") => `(tactic| first | assumption | decide | omega)
local macro_rules | `(tactic| walk_at "rd") => `(tactic| repeat (first
  | refine ⟨_, SqL.of (by assumption), ?_⟩ | refine ⟨_, SqL.of upd_same, ?_⟩ | refine ⟨_, .inl (SqL.of (by assumption)), ?_⟩ | refine ⟨_, (by assumption : _ = some (HO.lst _)), ?_⟩ | refine ⟨_, upd_same, ?_⟩
  | refine ⟨_, rfl, ?_⟩ | refine And.intro (by walk_at "sd") ?_))

section
variable {P : Program} {w : World} {K : PySem.W.Frag} {mg : Str → Option Value} {base : Heap}
theorem ok__law_gcd (T : Txt w K mg) : FnOk P w K mg base CX0 1 T.a__law_gcd T.d__law_gcd ["a", "b"] (fun vs H Q _ => ∃ p q : Int, vs = [.int p, .int q] ∧ Q (.int ((Nat.gcd p.natAbs q.natAbs : Nat) : Int)) H) := by
  refine T.F__law_gcd.ok sc__law_gcd (fun vs H Q E h => ?_) (fun cdv A outer s H vs Q E hr h => ?_)
  · obtain ⟨p, q, rfl, _⟩ := h
    rfl
  · obtain ⟨p, q, rfl, k⟩ := h
    refine ⟨_, (pss_cons (ps_par (i := 0) (j := 1) (by rfl) sc__law_gcd.nd rfl rfl (by decide) rfl rfl (pa_cons (pe_callB call_abs (by rfl) T.n_abs (by decide +kernel) (pa_cons (pv 0) pa_nil)) (pa_cons (pe_callB call_abs (by rfl) T.n_abs (by decide +kernel) (pa_cons (pv 1) pa_nil)) pa_nil)) (by rfl))
      (pss_cons (ps_while PassesOwn.never (pt_cmpR op_gt (pv 1) pe_int (nomark _)) (pss_one (ps_par (i := 0) (j := 1) (by rfl) sc__law_gcd.nd rfl rfl (by decide) rfl rfl (pa_cons (pv 1) (pa_cons (pe_op op_mod (pe_callTy call_intI (by rfl) T.n_int (by decide +kernel) (pa_cons (pv 0) pa_nil)) (pv 1)) pa_nil)) (by rfl))))
      (pss_one (ps_ret (pv 0))))), ?_⟩
    refine seq_op fun N hN => ?_
    walk_at "rs"
    refine ⟨_, _, ⟨rfl, rfl⟩, hN _ _ ?_⟩
    clear hN N
    refine cut_seq (fun σ H2 => σ = [some (.int ((Nat.gcd p.natAbs q.natAbs : Nat) : Int)), some (.int 0)] ∧ H2 = H) (fun N hN => ?_) ?_
    · refine while_by (fun σ H2 => ∃ a b : Nat, σ = [some (.int (a : Int)), some (.int (b : Int))] ∧ H2 = H ∧ Nat.gcd a b = Nat.gcd p.natAbs q.natAbs) (fun (σ : L2.St) (_ : Hp) => match σ[1]? with
          | some (some (V.int b)) => b.toNat
          | _ => 0) ⟨p.natAbs, q.natAbs, by rw [abs_if, abs_if], rfl, rfl⟩ ?_ ?_
      · rintro σ H2 ⟨a, b, rfl, rfl, hg⟩
        walk_at "rs"
        refine ite2 (fun hb => ?_) (fun hb => ?_)
        · refine ⟨hb, _, _, ⟨rfl, rfl⟩, ⟨b, a % b, ⟨rfl, rfl⟩, ?_⟩, ?_⟩
          · rw [← hg, Nat.gcd_comm a b, Nat.gcd_rec b a, Nat.gcd_comm]
          · show ((a : Int) % (b : Int)).toNat < (b : Int).toNat
            have := Int.emod_lt_of_pos (a : Int) (show (0 : Int) < (b : Int) by omega)
            have := Int.emod_nonneg (a : Int) (show (b : Int) ≠ 0 by omega)
            omega
        · have b0 : b = 0 := by omega
          subst b0
          rw [Nat.gcd_zero_right] at hg
          rw [hg]
          exact hN _ _ ⟨rfl, rfl⟩
      · intro σ H2 Q1 Q2 h hq
        revert hq
        walk_at "rs"
        rintro ⟨v, e, i, rfl, hq⟩
        exact ⟨_, e, i, rfl, h _ _ hq⟩
    · rintro σ H2 ⟨rfl, rfl⟩
      walk_at "rs"
      exact k
def sp_low : Sp := fun vs H Q _ => ∃ p q : Int, vs = [.int p, .int q] ∧ q ≠ 0 ∧ p.natAbs < 2 ^ 8001 ∧ q.natAbs < 2 ^ 8001 ∧ ∀ t H', Same H H' → H t = none → H' t = some (.tup [.int (frP p q), .int (frQ p q)]) → Q (.ref t) H'
theorem ok__law_low (T : Txt w K mg) : FnOk P w K mg base CX0 2 T.a__law_low T.d__law_low ["p", "q"] sp_low := by
  refine T.F__law_low.ok sc__law_low (fun vs H Q E h => ?_) (fun cdv A outer s H vs Q E hr h => ?_)
  · obtain ⟨p, q, rfl, _⟩ := h
    rfl
  · obtain ⟨p, q, rfl, q0, lp, lq, k⟩ := h
    have hr__law_gcd : Room 1 _ := hr
    have G__law_gcd := ok__law_gcd (P := P) (base := base) T
    refine ⟨_, (pss_cons (ps_set (i := 2) sc__law_low.nd rfl (Or.inl rfl) (pe_call G__law_gcd hr__law_gcd (by rfl) T.m__law_gcd T.F__law_gcd.kp T.B__law_gcd .nil pass0 (pa_cons (pv 0) (pa_cons (pv 1) pa_nil))))
      (pss_cons (ps_if (pt_cmpR op_lt (pv 1) pe_int (nomark _)) (pss_one (ps_set (i := 2) sc__law_low.nd rfl (Or.inl rfl) (pe_un un_neg (pv 2)))) pss_nil)
      (pss_one (ps_ret (pe_tupU (pa_cons (pe_op op_fdivF (pv 0) (pv 2)) (pa_cons (pe_op op_fdivF (pv 1) (pv 2)) pa_nil))))))), ?_⟩
    refine seq_op fun N hN => ?_
    walk_at "rs"
    refine ⟨p, q, ⟨rfl, rfl⟩, hN _ _ ?_⟩
    clear hN N
    have g0 : (Nat.gcd p.natAbs q.natAbs : Nat) ≠ 0 := fun z => q0 (by have := Nat.eq_zero_of_gcd_eq_zero_right z; omega)
    have gl := gcd_log (p := p) q0
    have ql := logL lq (by decide) (by decide)
    have n0 : frG p q ≠ 0 := by unfold frG; split <;> omega
    have nl : (frG p q).natAbs.log2 < 9000 := by
      have : (frG p q).natAbs = Nat.gcd p.natAbs q.natAbs := by unfold frG; split <;> omega
      rw [this]; omega
    refine cut_seq (fun σ H3 => σ = [some (.int p), some (.int q), some (.int (frG p q))] ∧ H3 = H) (fun N hN => ?_) ?_
    · walk_at "rs"
      unfold frG at hN
      refine ite2 (fun c => ?_) (fun c => ?_)
      · rw [if_pos c] at hN
        exact hN _ _ ⟨rfl, rfl⟩
      · rw [if_neg c] at hN; exact hN _ _ ⟨rfl, rfl⟩
    · rintro σ H3 ⟨rfl, rfl⟩
      walk_at "rs"
      exact ⟨⟨n0, nl⟩, ⟨n0, nl⟩, by decide, k⟩
def okB (M L : Nat) (f : Int × Int) : Prop := 1 ≤ f.2 ∧ Nat.gcd f.1.natAbs f.2.natAbs = 1 ∧ f.1.natAbs ≤ M ∧ f.2.natAbs ≤ L
theorem okB_low {M L : Nat} {p q : Int} (q0 : q ≠ 0) (hp : p.natAbs ≤ M) (hq : q.natAbs ≤ L) : okB M L (frP p q, frQ p q) := by
  obtain ⟨_, _, e3, e4, e5, e6, _⟩ := fr_spec p q0
  exact ⟨e3, e4, Nat.le_trans e5 hp, Nat.le_trans e6 hq⟩
def sp_drawn (K : PySem.W.Frag) (k M L : Nat) : Sp := fun vs H Q _ => ∃ (b c : Addr) (N : Nat), vs = [.ref b] ∧ Bag (N + k) H b c ∧ ∀ (t : Addr) (f : Int × Int) H', okB M L f → H t = none → H' t = some (.tup [.int f.1, .int f.2]) → Bag N H' b c → Kp b H H' → Q (.ref t) H'
theorem low_at {M L : Nat} {H : Hp} {Q : VK} {E : XK} {p q : Int} (q0 : q ≠ 0) (hp : p.natAbs < 2 ^ 8001) (hq : q.natAbs < 2 ^ 8001) (k : ∀ t H', Same H H' → H t = none → H' t = some (.tup [.int (frP p q), .int (frQ p q)]) → Q (.ref t) H') : sp_low [.int p, .int q] H Q E := ⟨p, q, rfl, q0, hp, hq, k⟩
theorem ok__law_light (T : Txt w K mg) : FnOk P w K mg base CX0 3 T.a__law_light T.d__law_light ["bag"] (sp_drawn K 4 2000 97) := by
  refine T.F__law_light.ok sc__law_light (fun vs H Q E h => ?_) (fun cdv A outer s H vs Q E hr h => ?_)
  · obtain ⟨b, c, N, rfl, _⟩ := h
    rfl
  · obtain ⟨b, c, N0, rfl, B, k⟩ := h
    have hr__law_low : Room 2 _ := hr
    have G__law_low := ok__law_low (P := P) (base := base) T
    have hr__law_draw : Room 1 _ := hr.mono (by decide)
    have G__law_draw := ok__law_draw (P := P) (base := base) T
    refine ⟨_, (pss_cons (ps_if (pt_cmpR op_gt (pe_call G__law_draw hr__law_draw (by rfl) T.m__law_draw T.F__law_draw.kp T.B__law_draw .nil pass0 (pa_cons (pv 0) (pa_cons pe_int pa_nil))) pe_int (nomark _)) (pss_one (ps_ret (pe_tupU (pa_cons (pe_op op_sub (pe_call G__law_draw hr__law_draw (by rfl) T.m__law_draw T.F__law_draw.kp T.B__law_draw .nil pass0 (pa_cons (pv 0) (pa_cons pe_int pa_nil))) pe_int) (pa_cons pe_int pa_nil))))) pss_nil)
      (pss_cons (ps_if (pt_cmpR op_eqI (pe_call G__law_draw hr__law_draw (by rfl) T.m__law_draw T.F__law_draw.kp T.B__law_draw .nil pass0 (pa_cons (pv 0) (pa_cons pe_int pa_nil))) pe_int (nomark _)) (pss_one (ps_ret (pe_call G__law_low hr__law_low (by rfl) T.m__law_low T.F__law_low.kp T.B__law_low .nil pass0 (pa_cons (pe_op op_sub (pe_call G__law_draw hr__law_draw (by rfl) T.m__law_draw T.F__law_draw.kp T.B__law_draw .nil pass0 (pa_cons (pv 0) (pa_cons pe_int pa_nil))) pe_int) (pa_cons (pe_op op_add pe_int (pe_call G__law_draw hr__law_draw (by rfl) T.m__law_draw T.F__law_draw.kp T.B__law_draw .nil pass0 (pa_cons (pv 0) (pa_cons pe_int pa_nil)))) pa_nil))))) pss_nil)
      (pss_one (ps_ret (pe_call G__law_low hr__law_low (by rfl) T.m__law_low T.F__law_low.kp T.B__law_low .nil pass0 (pa_cons (pe_op op_sub (pe_call G__law_draw hr__law_draw (by rfl) T.m__law_draw T.F__law_draw.kp T.B__law_draw .nil pass0 (pa_cons (pv 0) (pa_cons pe_int pa_nil))) pe_int) (pa_cons (pe_op op_add pe_int (pe_call G__law_draw hr__law_draw (by rfl) T.m__law_draw T.F__law_draw.kp T.B__law_draw .nil pass0 (pa_cons (pv 0) (pa_cons pe_int pa_nil)))) pa_nil))))))), ?_⟩
    have fin : ∀ {H1 H2 : Hp} {t : Addr} {p q : Int}, q ≠ 0 → p.natAbs ≤ 2000 → q.natAbs ≤ 97 → Bag N0 H1 b c → Kp b H H1 → Same H1 H2 → H1 t = none → H2 t = some (.tup [.int (frP p q), .int (frQ p q)]) → Q (.ref t) H2 := fun q0 hp hq B1 K1 s2 h0 h2 =>
      k _ _ _ (okB_low q0 hp hq) (Kp.bn K1 B1.at.choose_spec h0) h2 (B1.same s2) (Same.trans K1 (Kp.of s2))
    refine seq_op fun N hN => ?_
    walk_at "rs"
    refine ⟨b, c, 3, N0 + 3, rfl, B, by decide, by decide, fun r1 H1 r10 r11 B1 K1 => ⟨r1, rfl, ite2 (fun _ => ?_) (fun _ => hN _ _ ?_)⟩⟩
    · refine ⟨b, c, 5, N0 + 2, rfl, B1, by decide, by decide, fun r2 H2 r20 r21 B2 K2 => ⟨r2, rfl, by decide, fun t H3 s3 h03 h3 => ?_⟩⟩
      exact k t (r2 - 2, 1) H3 ⟨Int.le_refl 1, Nat.gcd_one_right _, by show (r2 - 2).natAbs ≤ 2000; omega, by show (1 : Int).natAbs ≤ 97; decide⟩ (Kp.bn K1 B1.at.choose_spec (Kp.bn K2 B2.at.choose_spec h03)) h3 ((B2.same s3).le (by omega)) (Same.trans K1 (Same.trans K2 (Kp.of s3)))
    clear hN N
    refine seq_op fun N hN => ?_
    walk_at "rs"
    refine ⟨b, c, 9, N0 + 2, rfl, B1, by decide, by decide, fun r2 H2 r20 r21 B2 K2 => ⟨r2, rfl, ite2 (fun _ => ?_) (fun _ => hN _ _ ?_)⟩⟩
    · refine ⟨b, c, 4001, N0 + 1, rfl, B2, by decide, by decide, fun r3 H3 r30 r31 B3 K3 => ⟨r3, rfl, b, c, 97, N0, rfl, B3, by decide, by decide, fun r4 H4 r40 r41 B4 K4 => ⟨r4, rfl, ?_⟩⟩⟩
      exact low_at (M := 1) (L := 1) (by omega) (pow_le (a := 64) (by omega) (by decide)) (pow_le (a := 64) (by omega) (by decide)) fun t H5 s5 h05 h5 => fin (by omega) (by omega) (by omega) B4 (Same.trans K1 (Same.trans K2 (Same.trans K3 K4))) s5 h05 h5
    clear hN N
    walk_at "rs"
    refine ⟨b, c, 9, N0 + 1, rfl, B2, by decide, by decide, fun r3 H3 r30 r31 B3 K3 => ⟨r3, rfl, b, c, 4, N0, rfl, B3, by decide, by decide, fun r4 H4 r40 r41 B4 K4 => ⟨r4, rfl, ?_⟩⟩⟩
    exact low_at (M := 1) (L := 1) (by omega) (pow_le (a := 64) (by omega) (by decide)) (pow_le (a := 64) (by omega) (by decide)) fun t H5 s5 h05 h5 => fin (by omega) (by omega) (by omega) B4 (Same.trans K1 (Same.trans K2 (Same.trans K3 K4))) s5 h05 h5
end
end LK

set_option Elab.async false
set_option linter.all false
set_option maxRecDepth 100000
namespace LK
open PySem PySem.Spec PyProof.Rows L2
local macro_rules | `(tactic| walk_at "rs") => `(tactic| simp only [cxK, cxNK, tCallZ, tAsg, tOp, rI0, rS0, rB0, rI, rU, tUn, rEq, rNe, rIxL, rIxT, rIxS, rSetL, rSlLU, rSlS, rSlU, rCatL, rCatU, rRepL, rIn, tVar, tC, gName, gSub, tIfS, tTest, tB, tAnd, tOr, tNot, tNotV, tAndV, tOrV, tIf, tCall, tCons, tNil, tCB, tDrop, tRet, tRetN, tNext, tLstU, tTupU, tM0, tM1, tPar, tPar3, tAug, ipI, tBM, tBM0, rAppend, rPop, tBreak, sDPut, tDGet, tDGet2, tCont, tChain, tSl, tPart, tNoPart, L2.start, List.map, List.length_cons, List.length_nil, List.replicate, List.cons_append, List.nil_append, List.append_nil, List.getElem?_cons_zero, List.getElem?_cons_succ, List.set_cons_zero, List.set_cons_succ, Option.some.injEq, V.int.injEq, V.ref.injEq, V.str.injEq, V.bl.injEq, exists_eq_left', exists_eq_left, exists_and_left, decide_eq_true_eq, List.cons.injEq, and_true, true_and, scal, Bool.not_eq_true', decide_eq_false_iff_not, Nat.zero_add, Nat.reduceAdd, Nat.reduceSub, reduceCtorEq, false_and, exists_false, false_or, or_false, CPow, CPowW, CMul, CDiv, Int.reduceToNat, ↓reduceIte, wipe, sw, List.nil_append, List.singleton_append])
local macro_rules | `(tactic| walk_at "st") => `(tactic| (refine seq_op fun N hN => ?_; walk_at "rs"))
local macro_rules | `(tactic| walk_at "sd") => `(tactic| first | assumption | decide | omega)
local macro_rules | `(tactic| walk_at "rd") => `(tactic| repeat (first
  | refine ⟨_, SqL.of (by assumption), ?_⟩ | refine ⟨_, SqL.of upd_same, ?_⟩ | refine ⟨_, .inl (SqL.of (by assumption)), ?_⟩ | refine ⟨_, (by assumption : _ = some (HO.lst _)), ?_⟩ | refine ⟨_, upd_same, ?_⟩
  | refine ⟨_, rfl, ?_⟩ | refine And.intro (by walk_at "sd") ?_))

section
variable {P : Program} {w : World} {K : PySem.W.Frag} {mg : Str → Option Value} {base : Heap}
def sp_great : Sp := fun vs H Q _ => ∃ (b c : Addr) (N : Nat), vs = [.ref b] ∧ Bag (N + 2) H b c ∧ ∀ (r : Int) H', 0 ≤ r → r < 1000000000000000000 → Bag N H' b c → Kp b H H' → Q (.int r) H'
theorem ok__law_great (T : Txt w K mg) : FnOk P w K mg base CX0 2 T.a__law_great T.d__law_great ["bag"] sp_great := by
  refine T.F__law_great.ok sc__law_great (fun vs H Q E h => ?_) (fun cdv A outer s H vs Q E hr h => ?_)
  · obtain ⟨b, c, N, rfl, _⟩ := h
    rfl
  · obtain ⟨b, c, N0, rfl, B, k⟩ := h
    have hr__law_draw : Room 1 _ := hr
    have G__law_draw := ok__law_draw (P := P) (base := base) T
    refine ⟨_, (pss_one (ps_ret (pe_op op_add (pe_op op_mul (pe_call G__law_draw hr__law_draw (by rfl) T.m__law_draw T.F__law_draw.kp T.B__law_draw .nil pass0 (pa_cons (pv 0) (pa_cons (pe_op op_pow pe_int pe_int) pa_nil))) (pe_op op_pow pe_int pe_int)) (pe_call G__law_draw hr__law_draw (by rfl) T.m__law_draw T.F__law_draw.kp T.B__law_draw .nil pass0 (pa_cons (pv 0) (pa_cons (pe_op op_pow pe_int pe_int) pa_nil)))))), ?_⟩
    walk_at "rs"
    refine ⟨by decide, b, c, 10 ^ 9, N0 + 1, rfl, B, by decide, by decide, fun r1 H1 r10 r11 B1 K1 => ⟨by decide, r1, rfl, .inr (by decide), by decide, b, c, 10 ^ 9, N0, rfl, B1, by decide, by decide, fun r2 H2 r20 r21 B2 K2 => ⟨r2, rfl, k _ _ ?_ ?_ B2 (Same.trans K1 K2)⟩⟩⟩
    · omega
    · omega
theorem ok__law_factor (T : Txt w K mg) : FnOk P w K mg base CX0 3 T.a__law_factor T.d__law_factor ["bag"] (sp_drawn K 7 1000000000000000000 1000000000000000000) := by
  refine T.F__law_factor.ok sc__law_factor (fun vs H Q E h => ?_) (fun cdv A outer s H vs Q E hr h => ?_)
  · obtain ⟨b, c, N, rfl, _⟩ := h
    rfl
  · obtain ⟨b, c, N0, rfl, B, k⟩ := h
    have hr__law_low : Room 2 _ := hr
    have G__law_low := ok__law_low (P := P) (base := base) T
    have hr__law_great : Room 2 _ := hr
    have G__law_great := ok__law_great (P := P) (base := base) T
    have hr__law_draw : Room 1 _ := hr.mono (by decide)
    have G__law_draw := ok__law_draw (P := P) (base := base) T
    refine ⟨_, (pss_cons (ps_set (i := 1) sc__law_factor.nd rfl (Or.inl rfl) (pe_call G__law_draw hr__law_draw (by rfl) T.m__law_draw T.F__law_draw.kp T.B__law_draw .nil pass0 (pa_cons (pv 0) (pa_cons pe_int pa_nil))))
      (pss_cons (ps_if (pt_cmpR op_lt (pv 1) pe_int (nomark _)) (pss_one (ps_ret (pe_tupU (pa_cons (pe_op op_sub (pe_call G__law_draw hr__law_draw (by rfl) T.m__law_draw T.F__law_draw.kp T.B__law_draw .nil pass0 (pa_cons (pv 0) (pa_cons pe_int pa_nil))) pe_int) (pa_cons pe_int pa_nil))))) pss_nil)
      (pss_cons (ps_if (pt_cmpR op_lt (pv 1) pe_int (nomark _)) (pss_one (ps_ret (pe_call G__law_low hr__law_low (by rfl) T.m__law_low T.F__law_low.kp T.B__law_low .nil pass0 (pa_cons (pe_op op_sub (pe_call G__law_draw hr__law_draw (by rfl) T.m__law_draw T.F__law_draw.kp T.B__law_draw .nil pass0 (pa_cons (pv 0) (pa_cons pe_int pa_nil))) pe_int) (pa_cons (pe_op op_add pe_int (pe_call G__law_draw hr__law_draw (by rfl) T.m__law_draw T.F__law_draw.kp T.B__law_draw .nil pass0 (pa_cons (pv 0) (pa_cons pe_int pa_nil)))) pa_nil))))) pss_nil)
      (pss_cons (ps_if (pt_cmpR op_eqI (pv 1) pe_int (nomark _)) (pss_one (ps_ret (pe_call G__law_low hr__law_low (by rfl) T.m__law_low T.F__law_low.kp T.B__law_low .nil pass0 (pa_cons (pe_op op_sub (pe_call G__law_draw hr__law_draw (by rfl) T.m__law_draw T.F__law_draw.kp T.B__law_draw .nil pass0 (pa_cons (pv 0) (pa_cons pe_int pa_nil))) pe_int) (pa_cons (pe_op op_add pe_int (pe_call G__law_draw hr__law_draw (by rfl) T.m__law_draw T.F__law_draw.kp T.B__law_draw .nil pass0 (pa_cons (pv 0) (pa_cons pe_int pa_nil)))) pa_nil))))) pss_nil)
      (pss_cons (ps_set (i := 2) sc__law_factor.nd rfl (Or.inl rfl) (pe_op op_sub pe_int (pe_op op_mulW pe_int (pe_call G__law_draw hr__law_draw (by rfl) T.m__law_draw T.F__law_draw.kp T.B__law_draw .nil pass0 (pa_cons (pv 0) (pa_cons pe_int pa_nil))))))
      (pss_one (ps_ret (pe_call G__law_low hr__law_low (by rfl) T.m__law_low T.F__law_low.kp T.B__law_low .nil pass0 (pa_cons (pe_op op_mulW (pv 2) (pe_call G__law_great hr__law_great (by rfl) T.m__law_great T.F__law_great.kp T.B__law_great .nil pass0 (pa_cons (pv 0) pa_nil))) (pa_cons (pe_op op_add pe_int (pe_op op_fdivW (pe_call G__law_great hr__law_great (by rfl) T.m__law_great T.F__law_great.kp T.B__law_great .nil pass0 (pa_cons (pv 0) pa_nil)) (pe_op op_add pe_int (pe_op op_mulW (pe_call G__law_draw hr__law_draw (by rfl) T.m__law_draw T.F__law_draw.kp T.B__law_draw .nil pass0 (pa_cons (pv 0) (pa_cons pe_int pa_nil))) (pe_op op_pow pe_int pe_int))))) pa_nil)))))))))), ?_⟩
    have fin : ∀ {H1 H2 : Hp} {t : Addr} {p q : Int}, q ≠ 0 → p.natAbs ≤ 1000000000000000000 → q.natAbs ≤ 1000000000000000000 → Bag N0 H1 b c → Kp b H H1 → Same H1 H2 → H1 t = none → H2 t = some (.tup [.int (frP p q), .int (frQ p q)]) → Q (.ref t) H2 := fun q0 hp hq B1 K1 s2 h0 h2 =>
      k _ _ _ (okB_low q0 hp hq) (Kp.bn K1 B1.at.choose_spec h0) h2 (B1.same s2) (Same.trans K1 (Kp.of s2))
    refine seq_op fun N hN => ?_
    walk_at "rs"
    refine ⟨b, c, 10, N0 + 6, rfl, B, by decide, by decide, fun r1 H1 r10 r11 B1 K1 => hN _ _ ?_⟩
    clear hN N
    refine seq_op fun N hN => ?_
    walk_at "rs"
    refine ite2 (fun _ => ?_) (fun _ => hN _ _ ?_)
    · refine ⟨b, c, 7, N0 + 5, rfl, B1, by decide, by decide, fun r2 H2 r20 r21 B2 K2 => ⟨r2, rfl, by decide, fun t H3 s3 h03 h3 => ?_⟩⟩
      exact k t (r2 - 3, 1) H3 ⟨Int.le_refl 1, Nat.gcd_one_right _, by show (r2 - 3).natAbs ≤ _; omega, by show (1 : Int).natAbs ≤ _; decide⟩ (Kp.bn K1 B1.at.choose_spec (Kp.bn K2 B2.at.choose_spec h03)) h3 ((B2.same s3).le (by omega)) (Same.trans K1 (Same.trans K2 (Kp.of s3)))
    clear hN N
    refine seq_op fun N hN => ?_
    walk_at "rs"
    refine ite2 (fun _ => ?_) (fun _ => hN _ _ ?_)
    · refine ⟨b, c, 13, N0 + 5, rfl, B1, by decide, by decide, fun r2 H2 r20 r21 B2 K2 => ⟨r2, rfl, b, c, 6, N0 + 4, rfl, B2, by decide, by decide, fun r4 H4 r40 r41 B4 K4 => ⟨r4, rfl, ?_⟩⟩⟩
      exact low_at (M := 1) (L := 1) (by omega) (pow_le (a := 64) (by omega) (by decide)) (pow_le (a := 64) (by omega) (by decide)) fun t H5 s5 h05 h5 => fin (by omega) (by omega) (by omega) (B4.le (by omega)) (Same.trans K1 (Same.trans K2 K4)) s5 h05 h5
    clear hN N
    refine seq_op fun N hN => ?_
    walk_at "rs"
    refine ite2 (fun _ => ?_) (fun _ => hN _ _ ?_)
    · refine ⟨b, c, 4001, N0 + 5, rfl, B1, by decide, by decide, fun r2 H2 r20 r21 B2 K2 => ⟨r2, rfl, b, c, 97, N0 + 4, rfl, B2, by decide, by decide, fun r4 H4 r40 r41 B4 K4 => ⟨r4, rfl, ?_⟩⟩⟩
      exact low_at (M := 1) (L := 1) (by omega) (pow_le (a := 64) (by omega) (by decide)) (pow_le (a := 64) (by omega) (by decide)) fun t H5 s5 h05 h5 => fin (by omega) (by omega) (by omega) (B4.le (by omega)) (Same.trans K1 (Same.trans K2 K4)) s5 h05 h5
    clear hN N
    refine seq_op fun N hN => ?_
    walk_at "rs"
    refine ⟨b, c, 2, N0 + 5, rfl, B1, by decide, by decide, fun r2 H2 r20 r21 B2 K2 => ⟨r2, rfl, mulW (pow_le (a := 64) (by decide) (by decide)) (pow_le (a := 64) (by omega) (by decide)), hN _ _ ?_⟩⟩
    clear hN N
    walk_at "rs"
    refine ⟨b, c, N0 + 3, rfl, B2.le (by omega), fun r3 H3 r30 r31 B3 K3 => ⟨r3, rfl, mulW (pow_le (a := 64) (by omega) (by decide)) (pow_le (a := 64) (by omega) (by decide)), b, c, N0 + 1, rfl, B3, fun r4 H4 r40 r41 B4 K4 => ⟨b, c, 2, N0, rfl, B4, by decide, by decide, fun r5 H5 r50 r51 B5 K5 => ⟨by decide, r5, rfl, mulW (pow_le (a := 64) (by omega) (by decide)) (pow_le (a := 64) (by decide) (by decide)), r4, rfl, ?_⟩⟩⟩⟩
    have j0 : 0 < 2 + r5 * 10 ^ 9 := by omega
    have d0 : 0 ≤ r4 / (2 + r5 * 10 ^ 9) := Int.ediv_nonneg r40 (by omega)
    have d1 : r4 / (2 + r5 * 10 ^ 9) * 2 ≤ r4 := by
      have e := Int.mul_ediv_self_le (x := r4) (k := 2 + r5 * 10 ^ 9) (by omega)
      have e2 := Int.mul_le_mul_of_nonneg_right (show (2 : Int) ≤ 2 + r5 * 10 ^ 9 by omega) d0
      rw [Int.mul_comm]; omega
    have p1 : ((1 - 2 * r2) * r3).natAbs ≤ 1000000000000000000 := by
      have : r2 = 0 ∨ r2 = 1 := by omega
      rcases this with rfl | rfl <;> omega
    have q1 : (1 + r4 / (2 + r5 * 10 ^ 9)).natAbs ≤ 1000000000000000000 := by omega
    refine ⟨?_, low_at (M := 1) (L := 1) (by omega) (pow_le (a := 64) (Nat.lt_of_le_of_lt p1 (by decide)) (by decide)) (pow_le (a := 64) (Nat.lt_of_le_of_lt q1 (by decide)) (by decide)) fun t H6 s6 h06 h6 => fin (by omega) p1 q1 B5 (Same.trans K1 (Same.trans K2 (Same.trans K3 (Same.trans K4 K5)))) s6 h06 h6⟩
    exact ⟨j0, logL (a := 64) (by omega) (by decide) (by decide)⟩
end
end LK

set_option Elab.async false
set_option linter.all false
set_option maxRecDepth 100000
namespace LK
open PySem PySem.Spec PyProof.Rows L2
local macro_rules | `(tactic| walk_at "rs") => `(tactic| simp only [cxK, cxNK, tCallZ, tAsg, tOp, rI0, rS0, rB0, rI, rU, tUn, rEq, rNe, rIxL, rIxT, rIxS, rSetL, rSlLU, rSlS, rSlU, rCatL, rCatU, rRepL, rIn, tVar, tC, gName, gSub, tIfS, tTest, tB, tAnd, tOr, tNot, tNotV, tAndV, tOrV, tIf, tCall, tCons, tNil, tCB, tDrop, tRet, tRetN, tNext, tLstU, tTupU, tM0, tM1, tPar, tPar3, tAug, ipI, tBM, tBM0, rAppend, rPop, tBreak, sDPut, tDGet, tDGet2, tCont, tChain, tSl, tPart, tNoPart, L2.start, List.map, List.length_cons, List.length_nil, List.replicate, List.cons_append, List.nil_append, List.append_nil, List.getElem?_cons_zero, List.getElem?_cons_succ, List.set_cons_zero, List.set_cons_succ, Option.some.injEq, V.int.injEq, V.ref.injEq, V.str.injEq, V.bl.injEq, exists_eq_left', exists_eq_left, exists_and_left, decide_eq_true_eq, List.cons.injEq, and_true, true_and, scal, Bool.not_eq_true', decide_eq_false_iff_not, Nat.zero_add, Nat.reduceAdd, Nat.reduceSub, reduceCtorEq, false_and, exists_false, false_or, or_false, CPow, CPowW, CMul, CDiv, Int.reduceToNat, ↓reduceIte, wipe, sw, List.nil_append, List.singleton_append])
local macro_rules | `(tactic| walk_at "st") => `(tactic| (refine seq_op fun N hN => ?_; walk_at "rs"))
local macro_rules | `(tactic| walk_at "sd") => `(tactic| first | assumption | decide | omega)
local macro_rules | `(tactic| walk_at "rd") => `(tactic| repeat (first
  | refine ⟨_, SqL.of (by assumption), ?_⟩ | refine ⟨_, SqL.of upd_same, ?_⟩ | refine ⟨_, .inl (SqL.of (by assumption)), ?_⟩ | refine ⟨_, (by assumption : _ = some (HO.lst _)), ?_⟩ | refine ⟨_, upd_same, ?_⟩
  | refine ⟨_, rfl, ?_⟩ | refine And.intro (by walk_at "sd") ?_))

theorem dp_kitD {K : PySem.W.Frag} {H : Hp} {v : V} {d : PyData} (h : Dp K H v d) : PySem.W.kitOne K (.type (tyN d)) (.type "dict") = some false := by
  refine kit_ty ?_
  cases h <;> (simp only [tyN]; decide +kernel)
theorem call_isiDT3 {X : Cx} : CallR X (.builtin "isinstance") (fun xs H Q => ∃ x tp d, xs = [x, .ref tp] ∧ H tp = some (.tup [.ty "list", .ty "tuple", .ty "dict"]) ∧ Dp X.K H x d ∧ Q (.bl (isTy "list" d || isTy "tuple" d)) H) := cr_imp call_isiT fun xs H Q h => by
  obtain ⟨x, tp, d, rfl, ht, hd, q⟩ := h
  refine ⟨x, tp, _, .type (tyN d), [.type "list", .type "tuple", .type "dict"], _, rfl, ht, .cons (.ty _) (.cons (.ty _) (.cons (.ty _) .nil)), dp_ty hd, ?_, q⟩
  have h1 := dp_kit hd (T := "list") (by simp)
  have h2 := dp_kit hd (T := "tuple") (by simp)
  have h3 := dp_kitD hd
  unfold PySem.W.kitAny PySem.W.kitAny PySem.W.kitAny PySem.W.kitAny
  rw [h1, h2, h3]
  cases isTy "list" d <;> cases isTy "tuple" d <;> rfl
theorem dep_tup (ds : List PyData) : dep (.tuple ds) = depAll ds + 1 := rfl
theorem dep_lst (ds : List PyData) : dep (.list ds) = depAll ds + 1 := rfl
theorem depAll_get : ∀ {ds : List PyData} {i : Nat} {d : PyData}, ds[i]? = some d → dep d ≤ depAll ds
  | [], _, _, e => by simp at e
  | a :: r, 0, _, e => by simp at e; subst e; exact Nat.le_max_left _ _
  | a :: r, i + 1, _, e => Nat.le_trans (depAll_get (ds := r) (i := i) (by simpa using e)) (Nat.le_max_right _ _)
theorem dpa_get4 {K : PySem.W.Frag} {H : Hp} : ∀ {vs : List V} {ds : List PyData} {i : Nat} {v : V}, DpAll K H vs ds → vs[i]? = some v → ∃ d, ds[i]? = some d ∧ Dp K H v d
  | _, _, _, _, .nil, e => by simp at e
  | _, _, 0, _, .cons r _, e => by simp at e; subst e; exact ⟨_, rfl, r⟩
  | _, _, i + 1, _, .cons _ t, e => by
    obtain ⟨d, h1, h2⟩ := dpa_get4 (i := i) t (by simpa using e)
    exact ⟨d, by simpa using h1, h2⟩
theorem dpa_len4 {K : PySem.W.Frag} {H : Hp} : ∀ {vs : List V} {ds : List PyData}, DpAll K H vs ds → vs.length = ds.length
  | _, _, .nil => rfl
  | _, _, .cons _ t => by simp [dpa_len4 t]
theorem ok_get4 : ∀ {ds : List PyData} {i : Nat} {d : PyData}, okAll ds = true → ds[i]? = some d → okD d = true
  | [], _, _, _, e => by simp at e
  | a :: r, 0, _, h, e => by
    simp at e; subst e
    unfold okAll at h; rw [Bool.and_eq_true] at h; exact h.1
  | a :: r, i + 1, _, h, e => by
    unfold okAll at h; rw [Bool.and_eq_true] at h
    exact ok_get4 (i := i) h.2 (by simpa using e)
theorem isTy_leaf {d : PyData} (h1 : ∀ ds, d ≠ .list ds) (h2 : ∀ ds, d ≠ .tuple ds) : isTy "list" d = false ∧ isTy "tuple" d = false := by
  cases d <;> simp [isTy] <;> first | exact absurd rfl (h1 _) | exact absurd rfl (h2 _)
theorem walk_zipT {K : PySem.W.Frag} {a b : Addr} {xs ys : List V} {n : Nat} (hx : xs.length = n) (hy : ys.length = n) : Walk (RZ.ItzT K a b) n (fun H => SqT K H a xs ∧ SqT K H b ys) (YPair (fun i => xs[i]?) (fun i => ys[i]?)) := by
  refine ⟨fun i _ hi q => ?_, fun _ q => ⟨xs, ys, q.1, q.2, by omega⟩, fun i H v H' _ q y => ?_⟩
  · have h1 : i < xs.length := by omega
    have h2 : i < ys.length := by omega
    exact ⟨xs, ys, xs[i], ys[i], q.1, q.2, by simp [h1], by simp [h2]⟩
  · obtain ⟨T, x, z, h1, h2, h3, h4, h5⟩ := y
    exact ⟨T, x, z, h1, h2, h3, h4 xs q.1, h5 ys q.2⟩
section
variable {P : Program} {w : World} {K : PySem.W.Frag} {mg : Str → Option Value} {base : Heap}
theorem like_step (T : Txt w K mg) (n : Nat) (ih : ∀ m, m + 1 = n → FnOk P w K mg base CX0 (m + 1) T.a__law_like T.d__law_like ["found", "due"] (sp__law_like K m)) : FnOk P w K mg base CX0 (n + 1) T.a__law_like T.d__law_like ["found", "due"] (sp__law_like K n) := by
  refine T.F__law_like.ok sc__law_like (fun vs H Q E h => ?_) (fun cdv A outer s H vs Q E hr h => ?_)
  · obtain ⟨v, u, d, rfl, _⟩ := h
    rfl
  · obtain ⟨v, u, d, rfl, hv, hu, hok, hdep, k⟩ := h
    have leaf : isTy "list" d = false ∧ isTy "tuple" d = false ∨ (∃ ds, (d = .list ds ∨ d = .tuple ds)) := by
      cases d <;> first | exact .inr ⟨_, .inl rfl⟩ | exact .inr ⟨_, .inr rfl⟩ | exact .inl ⟨rfl, rfl⟩
    rcases leaf with ⟨el, et⟩ | ⟨ds, hds⟩
    · refine ⟨_, (pss_cons (ps_if (pt_val (pe_callB call_isiDT (by rfl) T.n_isinstance (by decide +kernel) (pa_cons (pv 1) (pa_cons (pe_tupU (pa_cons (pe_bltn (v := .ty "list") (u := .type "list") (by rfl) T.n_list (by decide +kernel) rfl) (pa_cons (pe_bltn (v := .ty "tuple") (u := .type "tuple") (by rfl) T.n_tuple (by decide +kernel) rfl) pa_nil))) pa_nil)))) pss_never pss_nil) (pss_cons (ps_if (PW.pt (pw_or (pt_cmpR op_isN (pv 1) pe_non (nomark _)) (pw_or1 (pt_cmpR op_isN (pv 0) pe_non (nomark _))))) (pss_one (ps_ret (pe_and (pe_cmpR op_isN (pv 1) pe_non (nomark _)) (pe_one (pe_cmpR op_isN (pv 0) pe_non (nomark _)))))) pss_nil)
      (pss_cons (ps_if (PW.pt (pw_or (pt_val (pe_callB call_isiDT3 (by rfl) T.n_isinstance (by decide +kernel) (pa_cons (pv 0) (pa_cons (pe_tupU (pa_cons (pe_bltn (v := .ty "list") (u := .type "list") (by rfl) T.n_list (by decide +kernel) rfl) (pa_cons (pe_bltn (v := .ty "tuple") (u := .type "tuple") (by rfl) T.n_tuple (by decide +kernel) rfl) (pa_cons (pe_bltn (v := .ty "dict") (u := .type "dict") (by rfl) T.n_dict (by decide +kernel) rfl) pa_nil)))) pa_nil)))) (pw_or1 (pt_cmpR op_neB (pe_callB (call_isiDK (K := K) rfl) (by rfl) T.n_isinstance (by decide +kernel) (pa_cons (pv 0) (pa_cons (pe_bltn (v := .ty "bool") (u := .type "bool") (by rfl) T.n_bool (by decide +kernel) rfl) pa_nil))) (pe_callB (call_isiDK (K := K) rfl) (by rfl) T.n_isinstance (by decide +kernel) (pa_cons (pv 1) (pa_cons (pe_bltn (v := .ty "bool") (u := .type "bool") (by rfl) T.n_bool (by decide +kernel) rfl) pa_nil))) (nomark _))))) (pss_one (ps_ret pe_bl)) pss_nil)
      (pss_cons (ps_if (PW.pt (pw_or (pt_cmpR op_neB (pe_callB (call_isiDK (K := K) rfl) (by rfl) T.n_isinstance (by decide +kernel) (pa_cons (pv 0) (pa_cons (pe_bltn (v := .ty "str") (u := .type "str") (by rfl) T.n_str (by decide +kernel) rfl) pa_nil))) (pe_callB (call_isiDK (K := K) rfl) (by rfl) T.n_isinstance (by decide +kernel) (pa_cons (pv 1) (pa_cons (pe_bltn (v := .ty "str") (u := .type "str") (by rfl) T.n_str (by decide +kernel) rfl) pa_nil))) (nomark _)) (pw_or1 (pt_cmpR op_neB (pe_callB (call_isiDK (K := K) rfl) (by rfl) T.n_isinstance (by decide +kernel) (pa_cons (pv 0) (pa_cons (pe_bltn (v := .ty "int") (u := .type "int") (by rfl) T.n_int (by decide +kernel) rfl) pa_nil))) (pe_callB (call_isiDK (K := K) rfl) (by rfl) T.n_isinstance (by decide +kernel) (pa_cons (pv 1) (pa_cons (pe_bltn (v := .ty "int") (u := .type "int") (by rfl) T.n_int (by decide +kernel) rfl) pa_nil))) (nomark _))))) (pss_one (ps_ret pe_bl)) pss_nil)
      (pss_one (ps_ret (pe_cmpR op_eq (pv 0) (pv 1) (nomark _)))))))), ?_⟩
      refine seq_op fun N hN => ?_
      walk_at "rs"
      refine ⟨by decide, fun p H1 s1 h0 h1 => ⟨_, p, ⟨rfl, rfl⟩, h1, _, dp_same s1 hu, iteFF (by rw [el, et]; decide) (hN _ _ ?_)⟩⟩
      clear hN N h1
      have hv1 := dp_same s1 hv
      have hu1 := dp_same s1 hu
      have k1 := fun H' (s : Same H1 H') => k H' (Same.trans s1 s)
      refine seq_op fun N hN => ?_
      walk_at "rs"
      by_cases cn : d = .none
      · subst cn
        cases hu
        cases hv
        exact iteTT rfl (iteTT rfl (k1 H1 (Same.refl _)))
      · have vn : v ≠ .non := fun e => by subst e; cases hv; exact cn rfl
        have un : u ≠ .non := fun e => by subst e; cases hu; exact cn rfl
        refine iteFF un (iteFF vn (hN _ _ ?_))
        clear hN N
        refine seq_op fun N hN => ?_
        walk_at "rs"
        refine ⟨by decide, fun p2 H2 s2 h02 h12 => ⟨_, p2, ⟨rfl, rfl⟩, h12, _, dp_same s2 hv1, iteFF (by rw [el, et]; decide) ?_⟩⟩
        refine ⟨_, "bool", ⟨rfl, rfl⟩, _, dp_same s2 hv1, by simp, _, "bool", ⟨rfl, rfl⟩, _, dp_same s2 hu1, by simp, iteFF (by simp) (hN _ _ ?_)⟩
        clear hN N
        refine seq_op fun N hN => ?_
        walk_at "rs"
        refine ⟨_, "str", ⟨rfl, rfl⟩, _, dp_same s2 hv1, by simp, _, "str", ⟨rfl, rfl⟩, _, dp_same s2 hu1, by simp, iteFF (by simp) ?_⟩
        refine ⟨_, "int", ⟨rfl, rfl⟩, _, dp_same s2 hv1, by simp, _, "int", ⟨rfl, rfl⟩, _, dp_same s2 hu1, by simp, iteFF (by simp) (hN _ _ ?_)⟩
        clear hN N
        walk_at "rs"
        have kk := k1 H2 s2
        have fin : scal v u = true ∧ Q (.bl (decide (v = u))) H2 := by
          cases hv with
          | non => exact absurd rfl cn
          | bl b => cases hu; exact ⟨rfl, by rw [decide_eq_true rfl]; exact kk⟩
          | int b => cases hu; exact ⟨rfl, by rw [decide_eq_true rfl]; exact kk⟩
          | str b => cases hu; exact ⟨rfl, by rw [decide_eq_true rfl]; exact kk⟩
          | lst _ _ => simp [isTy] at el
          | tup _ _ => simp [isTy] at et
        exact fin
    · obtain ⟨m, rfl⟩ : ∃ m, n = m + 1 := by
        rcases hds with rfl | rfl
        · rw [dep_lst] at hdep; exact ⟨n - 1, by omega⟩
        · rw [dep_tup] at hdep; exact ⟨n - 1, by omega⟩
      have hr__law_like : Room (m + 1) _ := hr
      have G__law_like := ih m rfl
      have hdm : depAll ds ≤ m := by
        rcases hds with rfl | rfl
        · rw [dep_lst] at hdep; omega
        · rw [dep_tup] at hdep; omega
      refine ⟨_, (pss_cons (ps_if (pt_val (pe_callB call_isiDT (by rfl) T.n_isinstance (by decide +kernel) (pa_cons (pv 1) (pa_cons (pe_tupU (pa_cons (pe_bltn (v := .ty "list") (u := .type "list") (by rfl) T.n_list (by decide +kernel) rfl) (pa_cons (pe_bltn (v := .ty "tuple") (u := .type "tuple") (by rfl) T.n_tuple (by decide +kernel) rfl) pa_nil))) pa_nil)))) (pss_cons (ps_if (PW.pt (pw_or (pt_cmpR op_neB (pe_callB (call_isiDK (K := K) rfl) (by rfl) T.n_isinstance (by decide +kernel) (pa_cons (pv 0) (pa_cons (pe_bltn (v := .ty "list") (u := .type "list") (by rfl) T.n_list (by decide +kernel) rfl) pa_nil))) (pe_callB (call_isiDK (K := K) rfl) (by rfl) T.n_isinstance (by decide +kernel) (pa_cons (pv 1) (pa_cons (pe_bltn (v := .ty "list") (u := .type "list") (by rfl) T.n_list (by decide +kernel) rfl) pa_nil))) (nomark _)) (pw_or1 (pt_cmpR op_neB (pe_callB (call_isiDK (K := K) rfl) (by rfl) T.n_isinstance (by decide +kernel) (pa_cons (pv 0) (pa_cons (pe_bltn (v := .ty "tuple") (u := .type "tuple") (by rfl) T.n_tuple (by decide +kernel) rfl) pa_nil))) (pe_callB (call_isiDK (K := K) rfl) (by rfl) T.n_isinstance (by decide +kernel) (pa_cons (pv 1) (pa_cons (pe_bltn (v := .ty "tuple") (u := .type "tuple") (by rfl) T.n_tuple (by decide +kernel) rfl) pa_nil))) (nomark _))))) (pss_one (ps_ret pe_bl)) pss_nil)
      (pss_one (ps_ret (pe_and (pe_cmpR op_eqI (pe_callB call_lenD (by rfl) T.n_len (by decide +kernel) (pa_cons (pv 0) pa_nil)) (pe_callB call_lenD (by rfl) T.n_len (by decide +kernel) (pa_cons (pv 1) pa_nil)) (nomark _)) (pe_one (pe_callB (cr_all rfl) (by rfl) T.n_all (by decide +kernel) (pa_cons (pe_lc (own := [("one", 2), ("two", 3)]) (g := gTup K 2 (gCons (gName 2) (gCons (gName 3) (gNil)))) (tt := tYes) rfl sc__law_like.nd (RZ.pi_zipA (by rfl) T.n_zip (pa_cons (pv 0) (pa_cons (pv 1) pa_nil))) (blkOk_by (own := [("one", 2), ("two", 3)]) (N := N__law_like) (sc := defScope s__law_like) (by decide +kernel)) (fun _ _ _ _ _ => by exact (pg_tup rfl (pgs_cons (pg_name (i := 2) sc__law_like.nd rfl (Or.inl rfl)) (pgs_cons (pg_name (i := 3) sc__law_like.nd rfl (Or.inl rfl)) pgs_nil)))) (fun _ _ _ _ _ => pts_nil) (fun _ _ _ _ _ => (pe_call G__law_like hr__law_like (by rfl) T.m__law_like T.F__law_like.kp T.B__law_like .nil pass0 (pa_cons (pv 2) (pa_cons (pv 3) pa_nil))))) pa_nil))))))) pss_nil) pss_never), ?_⟩
      refine seq_op fun N hN => ?_
      clear hN
      walk_at "rs"
      refine ⟨by decide, fun p H1 s1 h0 h1 => ⟨_, p, ⟨rfl, rfl⟩, h1, _, dp_same s1 hu, iteTT (by rcases hds with rfl | rfl <;> simp [isTy]) ?_⟩⟩
      clear h1
      have hv1 := dp_same s1 hv
      have hu1 := dp_same s1 hu
      have k1 := fun H' (s : Same H1 H') => k H' (Same.trans s1 s)
      refine seq_op fun N2 hN2 => ?_
      walk_at "rs"
      refine ⟨_, "list", ⟨rfl, rfl⟩, _, hv1, by simp, _, "list", ⟨rfl, rfl⟩, _, hu1, by simp, iteFF (by simp) ?_⟩
      refine ⟨_, "tuple", ⟨rfl, rfl⟩, _, hv1, by simp, _, "tuple", ⟨rfl, rfl⟩, _, hu1, by simp, iteFF (by simp) (hN2 _ _ ?_)⟩
      clear hN2 N2
      walk_at "rs"
      have gm : ∀ (x : V) (σ0 : L2.St) (H0 : Hp) (Q0 Q1 : L2.St → Hp → Prop), (∀ σ2 H2, Q0 σ2 H2 → Q1 σ2 H2) → gTup K 2 (gCons (gName 2) (gCons (gName 3) gNil)) x σ0 H0 Q0 → gTup K 2 (gCons (gName 2) (gCons (gName 3) gNil)) x σ0 H0 Q1 :=
        fun x σ0 H0 Q0 Q1 h ⟨a, xs, e1, e2, e3, v, r, e4, v2, r2, e5, e6, q⟩ => ⟨a, xs, e1, e2, e3, v, r, e4, v2, r2, e5, e6, h _ _ q⟩
      have turn : ∀ {xs ys : List V} (hx : DpAll K H1 xs ds) (hy : DpAll K H1 ys ds) (i : Nat) (x : V) (H2 H' : Hp), Same H1 H2 → YPair (fun i => xs[i]?) (fun i => ys[i]?) i H2 x H' →
          gTup K 2 (gCons (gName 2) (gCons (gName 3) gNil)) x (wipe [some v, some u, none, none] [2, 3]) H' fun σ2 H3 => Same H2 H3 ∧ wipe σ2 [2, 3] = wipe [some v, some u, none, none] [2, 3] ∧ ∀ Q2 : V → Hp → Prop, (∀ H4, Same H3 H4 → Q2 (.bl true) H4) → tCall (sp__law_like K m) [] E0 (tCons (tVar 2) (tCons (tVar 3) tNil)) σ2 H3 Q2 := by
        rintro xs ys hx hy i x H2 H' s2 ⟨T0, y1, y2, rfl, hT, rfl, h1, h2⟩
        obtain ⟨d1, e1, hd1⟩ := dpa_get4 hx h1
        obtain ⟨d2, e2, hd2⟩ := dpa_get4 hy h2
        rw [e1] at e2
        cases e2
        have s3 := Same.trans s2 (same_upd (o := .tup [y1, y2]) hT)
        refine ⟨T0, [y1, y2], rfl, .inl (.inl upd_same), rfl, y1, [y2], rfl, y2, [], rfl, rfl, same_upd hT, rfl, fun Q2 hq => ?_⟩
        refine ⟨_, rfl, _, rfl, y1, y2, d1, rfl, dp_same s3 hd1, dp_same s3 hd2, ?_, Nat.le_trans (depAll_get e1) hdm, hq⟩
        refine ok_get4 ?_ e1
        rcases hds with rfl | rfl
        · exact (okD_lst.mp hok).2
        · exact (okD_tup.mp hok).2
      have fin : ∀ {D : Addr} {H' : Hp} {n : Nat}, Same H1 H' → H' D = some (.lst ((List.range n).map fun _ => V.bl true)) → rAll K [V.ref D] H' Q := by
        intro D H' n s h
        refine ⟨D, (List.range n).map fun _ => true, rfl, SqL.of (by rw [h, List.map_map]; rfl), ?_⟩
        rw [all_map_id]
        have e : ((List.range n).all fun _ => true) = true := by simp
        rw [e]
        exact k1 H' s
      refine ⟨_, hv1, .inl ⟨ds, hds, _, hu1, .inl ⟨ds, hds, iteTT rfl ?_⟩⟩⟩
      rcases hds with rfl | rfl
      · cases hv1 with
        | @lst a xs _ ha hda =>
          cases hu1 with
          | @lst b ys _ hb hdb =>
            have lx := dpa_len4 hda
            have ly := dpa_len4 hdb
            have small : ds.length ≤ 1000000 := Nat.le_trans (okD_lst.mp hok).1 (by decide)
            exact ⟨_, rfl, _, rfl, a, b, xs, ys, rfl, .inl ⟨ha, hb, fun D hD => lc_pure (walk_zip (n := ds.length) (by omega)) hD small (fun _ => .bl true) (fun H s => ⟨Same.seq s ha, Same.seq s hb⟩) (fun i x H2 H' _ s2 y => turn hda hdb i x H2 H' s2 y) gm fun H' s h => fin s h⟩⟩
      · cases hv1 with
        | @tup a xs _ ha hda =>
          cases hu1 with
          | @tup b ys _ hb hdb =>
            have lx := dpa_len4 hda
            have ly := dpa_len4 hdb
            have small : ds.length ≤ 1000000 := Nat.le_trans (okD_tup.mp hok).1 (by decide)
            exact ⟨_, rfl, _, rfl, a, b, xs, ys, rfl, .inr ⟨ha, hb, fun D hD => lc_pure (walk_zipT (n := ds.length) lx ly) hD small (fun _ => .bl true) (fun H s => ⟨Same.seqT s ha, Same.seqT s hb⟩) (fun i x H2 H' _ s2 y => turn hda hdb i x H2 H' s2 y) gm fun H' s h => fin s h⟩⟩
theorem ok__law_like (T : Txt w K mg) : ∀ n : Nat, FnOk P w K mg base CX0 (n + 1) T.a__law_like T.d__law_like ["found", "due"] (sp__law_like K n) := by
  intro n
  induction n with
  | zero => exact like_step T 0 fun m e => by omega
  | succ n ih =>
    refine like_step T (n + 1) fun m e => ?_
    obtain rfl : m = n := by omega
    exact ih
end
end LK

set_option Elab.async false
set_option linter.all false
set_option maxRecDepth 100000
namespace LK
open PySem PySem.Spec PyProof.Rows L2
local macro_rules | `(tactic| walk_at "rs") => `(tactic| simp only [cxK, cxNK, tCallZ, tAsg, tOp, rI0, rS0, rB0, rI, rU, tUn, rEq, rNe, rIxL, rIxT, rIxS, rSetL, rSlLU, rSlS, rSlU, rCatL, rCatU, rRepL, rIn, tVar, tC, gName, gSub, tIfS, tTest, tB, tAnd, tOr, tNot, tNotV, tAndV, tOrV, tIf, tCall, tCons, tNil, tCB, tDrop, tRet, tRetN, tNext, tLstU, tTupU, tM0, tM1, tPar, tPar3, tAug, ipI, tBM, tBM0, rAppend, rPop, tBreak, sDPut, tDGet, tDGet2, tCont, tChain, tSl, tPart, tNoPart, L2.start, List.map, List.length_cons, List.length_nil, List.replicate, List.cons_append, List.nil_append, List.append_nil, List.getElem?_cons_zero, List.getElem?_cons_succ, List.set_cons_zero, List.set_cons_succ, Option.some.injEq, V.int.injEq, V.ref.injEq, V.str.injEq, V.bl.injEq, exists_eq_left', exists_eq_left, exists_and_left, decide_eq_true_eq, List.cons.injEq, and_true, true_and, scal, Bool.not_eq_true', decide_eq_false_iff_not, Nat.zero_add, Nat.reduceAdd, Nat.reduceSub, reduceCtorEq, false_and, exists_false, false_or, or_false, CPow, CPowW, CMul, CDiv, Int.reduceToNat, ↓reduceIte, wipe, sw, List.nil_append, List.singleton_append])
local macro_rules | `(tactic| walk_at "st") => `(tactic| (refine seq_op fun N hN => ?_; walk_at "rs"))
local macro_rules | `(tactic| walk_at "sd") => `(tactic| first | assumption | decide | omega)
local macro_rules | `(tactic| walk_at "rd") => `(tactic| repeat (first
  | refine ⟨_, SqL.of (by assumption), ?_⟩ | refine ⟨_, SqL.of upd_same, ?_⟩ | refine ⟨_, .inl (SqL.of (by assumption)), ?_⟩ | refine ⟨_, (by assumption : _ = some (HO.lst _)), ?_⟩ | refine ⟨_, upd_same, ?_⟩
  | refine ⟨_, rfl, ?_⟩ | refine And.intro (by walk_at "sd") ?_))

abbrev Fr := Int × Int
/-- the fraction f, in lowest terms, is X parts of L -/
def Va (L X : Int) (f : Fr) : Prop := 1 ≤ f.2 ∧ Nat.gcd f.1.natAbs f.2.natAbs = 1 ∧ f.1 * L = X * f.2
theorem Va.dvd {L X : Int} {f : Fr} (h : Va L X f) : f.2 ∣ L := by
  obtain ⟨h1, h2, h3⟩ := h
  have d : f.2.natAbs ∣ f.1.natAbs * L.natAbs := ⟨X.natAbs, by rw [← Int.natAbs_mul, h3, Int.natAbs_mul, Nat.mul_comm]⟩
  exact Int.natAbs_dvd_natAbs.mp (Nat.Coprime.dvd_of_dvd_mul_left (Nat.Coprime.symm h2) d)
theorem Va.den {L X : Int} {f : Fr} (h : Va L X f) (hL : 0 < L) : f.2.natAbs ≤ L.natAbs := Nat.le_of_dvd (by omega) (Int.natAbs_dvd_natAbs.mpr h.dvd)
theorem Va.num {L X : Int} {f : Fr} (h : Va L X f) (hL : 0 < L) : f.1.natAbs ≤ X.natAbs := by
  have hd := h.den hL
  have e : f.1.natAbs * L.natAbs = X.natAbs * f.2.natAbs := by rw [← Int.natAbs_mul, ← Int.natAbs_mul, h.2.2]
  have : f.1.natAbs * L.natAbs ≤ X.natAbs * L.natAbs := by rw [e]; exact Nat.mul_le_mul_left _ hd
  exact Nat.le_of_mul_le_mul_right this (by omega)
theorem Va.zero (L : Int) : Va L 0 (0, 1) := ⟨by decide, by decide, by simp⟩
theorem Va.scale {L X : Int} {f : Fr} (h : Va L X f) (k : Int) : Va (L * k) (X * k) f := ⟨h.1, h.2.1, by rw [← Int.mul_assoc, h.2.2, Int.mul_assoc, Int.mul_assoc, Int.mul_comm k]⟩
theorem Va.plus {L X Y : Int} {f g : Fr} (h : Va L X f) (h' : Va L Y g) : Va L (X + Y) (frP (f.1 * g.2 + g.1 * f.2) (f.2 * g.2), frQ (f.1 * g.2 + g.1 * f.2) (f.2 * g.2)) ∧ f.2 * g.2 ≠ 0 := by
  have q0 : f.2 * g.2 ≠ 0 := Int.mul_ne_zero (by have := h.1; omega) (by have := h'.1; omega)
  have wo := fr_worth (f.1 * g.2 + g.1 * f.2) q0
  obtain ⟨_, _, e3, e4, _⟩ := fr_spec (f.1 * g.2 + g.1 * f.2) q0
  refine ⟨⟨e3, e4, ?_⟩, q0⟩
  dsimp only
  generalize frP (f.1 * g.2 + g.1 * f.2) (f.2 * g.2) = P at wo
  generalize frQ (f.1 * g.2 + g.1 * f.2) (f.2 * g.2) = Q at wo
  refine Int.eq_of_mul_eq_mul_right q0 ?_
  have e1 := h.2.2
  have e2 := h'.2.2
  have a1 : P * L * (f.2 * g.2) = (P * (f.2 * g.2)) * L := by simp only [Int.mul_assoc, Int.mul_comm, Int.mul_left_comm]
  have a2 : (f.1 * g.2 + g.1 * f.2) * Q * L = ((f.1 * L) * g.2 + (g.1 * L) * f.2) * Q := by simp only [Int.add_mul, Int.mul_add, Int.mul_assoc, Int.mul_comm, Int.mul_left_comm]
  rw [a1, wo, a2, e1, e2]
  simp only [Int.add_mul, Int.mul_add, Int.mul_assoc, Int.mul_comm, Int.mul_left_comm]
theorem Va.times {L M X Y : Int} {f g : Fr} (h : Va L X f) (h' : Va M Y g) : Va (L * M) (X * Y) (frP (f.1 * g.1) (f.2 * g.2), frQ (f.1 * g.1) (f.2 * g.2)) ∧ f.2 * g.2 ≠ 0 := by
  have q0 : f.2 * g.2 ≠ 0 := Int.mul_ne_zero (by have := h.1; omega) (by have := h'.1; omega)
  have wo := fr_worth (f.1 * g.1) q0
  obtain ⟨_, _, e3, e4, _⟩ := fr_spec (f.1 * g.1) q0
  refine ⟨⟨e3, e4, ?_⟩, q0⟩
  dsimp only
  generalize frP (f.1 * g.1) (f.2 * g.2) = P at wo
  generalize frQ (f.1 * g.1) (f.2 * g.2) = Q at wo
  refine Int.eq_of_mul_eq_mul_right q0 ?_
  have e1 := h.2.2
  have e2 := h'.2.2
  have a1 : P * (L * M) * (f.2 * g.2) = (P * (f.2 * g.2)) * (L * M) := by simp only [Int.mul_assoc, Int.mul_comm, Int.mul_left_comm]
  have a2 : f.1 * g.1 * Q * (L * M) = (f.1 * L) * (g.1 * M) * Q := by simp only [Int.mul_assoc, Int.mul_comm, Int.mul_left_comm]
  rw [a1, wo, a2, e1, e2]
  simp only [Int.mul_assoc, Int.mul_comm, Int.mul_left_comm]
theorem low_eq {f g : Fr} (hf : 1 ≤ f.2) (gf : Nat.gcd f.1.natAbs f.2.natAbs = 1) (hg : 1 ≤ g.2) (gg : Nat.gcd g.1.natAbs g.2.natAbs = 1) (e : f.1 * g.2 = g.1 * f.2) : f = g := by
  obtain ⟨a, b⟩ := fr_unique (P := f.1) (Q := f.2) (p := g.1) (q := g.2) (by omega) e hg gg
  obtain ⟨c, d⟩ := fr_low hf gf
  exact Prod.ext (by rw [← a, c]) (by rw [← b, d])
theorem Va.uniq {L X : Int} {f g : Fr} (hL : 0 < L) (h : Va L X f) (h' : Va L X g) : f = g := by
  refine low_eq h.1 h.2.1 h'.1 h'.2.1 ?_
  refine Int.eq_of_mul_eq_mul_right (show L ≠ 0 by omega) ?_
  have e1 := h.2.2
  have e2 := h'.2.2
  have a1 : f.1 * g.2 * L = (f.1 * L) * g.2 := by simp only [Int.mul_assoc, Int.mul_comm, Int.mul_left_comm]
  have a2 : g.1 * f.2 * L = (g.1 * L) * f.2 := by simp only [Int.mul_assoc, Int.mul_comm, Int.mul_left_comm]
  rw [a1, a2, e1, e2]
  simp only [Int.mul_assoc, Int.mul_comm, Int.mul_left_comm]
theorem Va.pos {L X : Int} {f : Fr} (hL : 0 < L) (h : Va L X f) : 0 < f.1 ↔ 0 < X := by
  have e := h.2.2
  have q1 := h.1
  constructor
  · intro p
    have := Int.mul_pos p hL
    rw [e] at this
    exact Int.pos_of_mul_pos_left this (by omega)
  · intro p
    have := Int.mul_pos p (show 0 < f.2 by omega)
    rw [← e] at this
    exact Int.pos_of_mul_pos_left this hL
/-- the parts of M that f has -/
def num (M : Int) (f : Fr) : Int := f.1 * (M / f.2)
theorem num_va {M : Int} {f : Fr} (h1 : 1 ≤ f.2) (hg : Nat.gcd f.1.natAbs f.2.natAbs = 1) (hd : f.2 ∣ M) : Va M (num M f) f := by
  refine ⟨h1, hg, ?_⟩
  unfold num
  rw [Int.mul_assoc, Int.ediv_mul_cancel hd]
end LK

set_option Elab.async false
set_option linter.all false
set_option maxRecDepth 100000
namespace LK
open PySem PySem.Spec PyProof.Rows L2
local macro_rules | `(tactic| walk_at "rs") => `(tactic| simp only [cxK, cxNK, tCallZ, tAsg, tOp, rI0, rS0, rB0, rI, rU, tUn, rEq, rNe, rIxL, rIxT, rIxS, rSetL, rSlLU, rSlS, rSlU, rCatL, rCatU, rRepL, rIn, tVar, tC, gName, gSub, tIfS, tTest, tB, tAnd, tOr, tNot, tNotV, tAndV, tOrV, tIf, tCall, tCons, tNil, tCB, tDrop, tRet, tRetN, tNext, tLstU, tTupU, tM0, tM1, tPar, tPar3, tAug, ipI, tBM, tBM0, rAppend, rPop, tBreak, sDPut, tDGet, tDGet2, tCont, tChain, tSl, tPart, tNoPart, L2.start, List.map, List.length_cons, List.length_nil, List.replicate, List.cons_append, List.nil_append, List.append_nil, List.getElem?_cons_zero, List.getElem?_cons_succ, List.set_cons_zero, List.set_cons_succ, Option.some.injEq, V.int.injEq, V.ref.injEq, V.str.injEq, V.bl.injEq, exists_eq_left', exists_eq_left, exists_and_left, decide_eq_true_eq, List.cons.injEq, and_true, true_and, scal, Bool.not_eq_true', decide_eq_false_iff_not, Nat.zero_add, Nat.reduceAdd, Nat.reduceSub, reduceCtorEq, false_and, exists_false, false_or, or_false, CPow, CPowW, CMul, CDiv, Int.reduceToNat, ↓reduceIte, wipe, sw, List.nil_append, List.singleton_append])
local macro_rules | `(tactic| walk_at "st") => `(tactic| (refine seq_op fun N hN => ?_; walk_at "rs"))
local macro_rules | `(tactic| walk_at "sd") => `(tactic| first | assumption | decide | omega)
local macro_rules | `(tactic| walk_at "rd") => `(tactic| repeat (first
  | refine ⟨_, SqL.of (by assumption), ?_⟩ | refine ⟨_, SqL.of upd_same, ?_⟩ | refine ⟨_, .inl (SqL.of (by assumption)), ?_⟩ | refine ⟨_, (by assumption : _ = some (HO.lst _)), ?_⟩ | refine ⟨_, upd_same, ?_⟩
  | refine ⟨_, rfl, ?_⟩ | refine And.intro (by walk_at "sd") ?_))

/-! ### fractions and their worth -/
def low (f : Fr) : Prop := 1 ≤ f.2 ∧ Nat.gcd f.1.natAbs f.2.natAbs = 1
def plusF (f g : Fr) : Fr := (frP (f.1 * g.2 + g.1 * f.2) (f.2 * g.2), frQ (f.1 * g.2 + g.1 * f.2) (f.2 * g.2))
def rt (f : Fr) : Rat := Rat.divInt f.1 f.2
theorem rt_eq {f g : Fr} (hf : low f) (hg : low g) (e : rt f = rt g) : f = g := by
  have f0 : f.2 ≠ 0 := by have := hf.1; omega
  have g0 : g.2 ≠ 0 := by have := hg.1; omega
  exact low_eq hf.1 hf.2 hg.1 hg.2 ((Rat.divInt_eq_divInt_iff f0 g0).mp e)
theorem den_ne {f g : Fr} (hf : low f) (hg : low g) : f.2 * g.2 ≠ 0 := Int.mul_ne_zero (by have := hf.1; omega) (by have := hg.1; omega)
theorem rt_fr (P : Int) {Q : Int} (h : Q ≠ 0) : rt (frP P Q, frQ P Q) = Rat.divInt P Q ∧ low (frP P Q, frQ P Q) := by
  obtain ⟨_, _, e3, e4, _⟩ := fr_spec P h
  exact ⟨(Rat.divInt_eq_divInt_iff (show frQ P Q ≠ 0 by omega) h).mpr (fr_worth P h), e3, e4⟩
theorem rt_plus {f g : Fr} (hf : low f) (hg : low g) : rt (plusF f g) = rt f + rt g ∧ low (plusF f g) := by
  obtain ⟨a, b⟩ := rt_fr (f.1 * g.2 + g.1 * f.2) (den_ne hf hg)
  refine ⟨?_, b⟩
  have f0 : f.2 ≠ 0 := by have := hf.1; omega
  have g0 : g.2 ≠ 0 := by have := hg.1; omega
  show rt (plusF f g) = Rat.divInt f.1 f.2 + Rat.divInt g.1 g.2
  rw [Rat.divInt_add_divInt _ _ f0 g0]
  exact a
theorem low_zero : low (0, 1) := ⟨by decide, by decide⟩
theorem rt_zero : rt (0, 1) = 0 := by unfold rt; exact Rat.zero_divInt 1
theorem rt_neg {f : Fr} (hf : low f) : rt (-f.1, f.2) = - rt f ∧ low (-f.1, f.2) := ⟨(Rat.neg_divInt f.1 f.2).symm, hf.1, by rw [Int.natAbs_neg]; exact hf.2⟩
theorem low_null {f : Fr} (hf : low f) : f.1 = 0 ↔ f = (0, 1) := by
  constructor
  · intro e
    have := hf.2
    rw [e] at this
    have h1 := hf.1
    have h2 : f.2 = 1 := by
      rw [show (0 : Int).natAbs = 0 from rfl, Nat.gcd_zero_left] at this
      omega
    exact Prod.ext e h2
  · intro e
    rw [e]
/-- bits of a fraction -/
def wt (f : Fr) : Nat := max f.1.natAbs.log2 f.2.natAbs.log2 + 1
theorem wt_lt (f : Fr) : f.1.natAbs < 2 ^ wt f ∧ f.2.natAbs < 2 ^ wt f := by
  unfold wt
  constructor
  · exact Nat.lt_of_lt_of_le (Nat.lt_log2_self) (Nat.pow_le_pow_right (by decide) (Nat.succ_le_succ (Nat.le_max_left _ _)))
  · exact Nat.lt_of_lt_of_le (Nat.lt_log2_self) (Nat.pow_le_pow_right (by decide) (Nat.succ_le_succ (Nat.le_max_right _ _)))
theorem log_lt {n k : Nat} (hk : 0 < k) (h : n < 2 ^ k) : n.log2 < k := PySem.Flt.log2_lt_of hk h
theorem wt_le {f : Fr} {k : Nat} (hk : 0 < k) (h1 : f.1.natAbs < 2 ^ k) (h2 : f.2.natAbs < 2 ^ k) : wt f ≤ k := by
  have a := log_lt hk h1
  have b := log_lt hk h2
  unfold wt
  omega
theorem wt_pos (f : Fr) : 0 < wt f := Nat.succ_pos _
theorem wt_plus {f g : Fr} (hf : low f) (hg : low g) : wt (plusF f g) ≤ wt f + wt g + 1 := by
  obtain ⟨_, _, _, _, e5, e6, _⟩ := fr_spec (f.1 * g.2 + g.1 * f.2) (den_ne hf hg)
  obtain ⟨a1, a2⟩ := wt_lt f
  obtain ⟨b1, b2⟩ := wt_lt g
  refine wt_le (by omega) (Nat.lt_of_le_of_lt e5 ?_) (Nat.lt_of_le_of_lt e6 (pow_le (wide_lt a2 b2) (by omega)))
  refine two_add (wide_lt a1 b2) ?_
  rw [Nat.add_comm]
  exact wide_lt b1 a2
/-! items: a spot and a factor -/
abbrev It := List Int × Fr
def accF (items : List It) (k : List Int) : Fr := items.foldl (fun acc it => if it.1 = k then plusF acc it.2 else acc) (0, 1)
def accR (items : List It) (k : List Int) : Rat := items.foldl (fun acc it => if it.1 = k then acc + rt it.2 else acc) 0
def wtS (items : List It) (k : List Int) : Nat := items.foldl (fun acc it => if it.1 = k then acc + (wt it.2 + 1) else acc) 1
theorem accF_snoc (items : List It) (it : It) (k : List Int) : accF (items ++ [it]) k = if it.1 = k then plusF (accF items k) it.2 else accF items k := by
  unfold accF
  rw [List.foldl_append]
  rfl
theorem accF_fold {items : List It} (h : ∀ it ∈ items, low it.2) (k : List Int) : ∀ {f : Fr} {r : Rat} {n : Nat}, low f → rt f = r → wt f ≤ n → 
    low (items.foldl (fun acc it => if it.1 = k then plusF acc it.2 else acc) f) ∧ rt (items.foldl (fun acc it => if it.1 = k then plusF acc it.2 else acc) f) = items.foldl (fun acc it => if it.1 = k then acc + rt it.2 else acc) r ∧ wt (items.foldl (fun acc it => if it.1 = k then plusF acc it.2 else acc) f) ≤ items.foldl (fun acc it => if it.1 = k then acc + (wt it.2 + 1) else acc) n := by
  induction items with
  | nil => intro f r n a b c; exact ⟨a, b, c⟩
  | cons it items ih =>
    intro f r n a b c
    have hl := h it List.mem_cons_self
    simp only [List.foldl_cons]
    by_cases e : it.1 = k
    · rw [if_pos e, if_pos e, if_pos e]
      obtain ⟨p1, p2⟩ := rt_plus a hl
      refine ih (fun x hx => h x (List.mem_cons_of_mem _ hx)) p2 (by rw [p1, b]) ?_
      have := wt_plus a hl
      omega
    · rw [if_neg e, if_neg e, if_neg e]
      exact ih (fun x hx => h x (List.mem_cons_of_mem _ hx)) a b c
theorem accF_spec {items : List It} (h : ∀ it ∈ items, low it.2) (k : List Int) : low (accF items k) ∧ rt (accF items k) = accR items k ∧ wt (accF items k) ≤ wtS items k := accF_fold h k low_zero rt_zero (by decide)
section
variable {P : Program} {w : World} {K : PySem.W.Frag} {mg : Str → Option Value} {base : Heap}
def sp_plus2 (K : PySem.W.Frag) : Sp := fun vs H Q _ => ∃ (a b : Addr) (f g : Fr), vs = [.ref a, .ref b] ∧ Pr K H a f.1 f.2 ∧ Pr K H b g.1 g.2 ∧ low f ∧ low g ∧ wt f ≤ 3990 ∧ wt g ≤ 3990 ∧
  ∀ t H', Same H H' → H t = none → H' t = some (.tup [.int (plusF f g).1, .int (plusF f g).2]) → Q (.ref t) H'
theorem ok__law_plus (T : Txt w K mg) : FnOk P w K mg base CX0 3 T.a__law_plus T.d__law_plus ["a", "b"] (sp_plus2 K) := by
  refine T.F__law_plus.ok sc__law_plus (fun vs H Q E h => ?_) (fun cdv A outer s H vs Q E hr h => ?_)
  · obtain ⟨a, b, f, g, rfl, _⟩ := h
    rfl
  · obtain ⟨a, b, f, g, rfl, ha, hb, lf, lg, wf, wg, k⟩ := h
    have hr__law_low : Room 2 _ := hr
    have G__law_low := ok__law_low (P := P) (base := base) T
    obtain ⟨a1, a2⟩ := wt_lt f
    obtain ⟨b1, b2⟩ := wt_lt g
    have lp := pow_le a1 (show wt f ≤ 4000 by omega)
    have lq := pow_le a2 (show wt f ≤ 4000 by omega)
    have lr := pow_le b1 (show wt g ≤ 4000 by omega)
    have ls := pow_le b2 (show wt g ≤ 4000 by omega)
    have n0 := den_ne lf lg
    refine ⟨_, (pss_one (ps_ret (pe_call G__law_low hr__law_low (by rfl) T.m__law_low T.F__law_low.kp T.B__law_low .nil pass0 (pa_cons (pe_op op_add (pe_op op_mulW (pe_ix ix_tup (pv 0) pe_int (fun _ _ => rfl)) (pe_ix ix_tup (pv 1) pe_int (fun _ _ => rfl))) (pe_op op_mulW (pe_ix ix_tup (pv 1) pe_int (fun _ _ => rfl)) (pe_ix ix_tup (pv 0) pe_int (fun _ _ => rfl)))) (pa_cons (pe_op op_mulW (pe_ix ix_tup (pv 0) pe_int (fun _ _ => rfl)) (pe_ix ix_tup (pv 1) pe_int (fun _ _ => rfl))) pa_nil))))), ?_⟩
    walk_at "rs"
    refine ⟨_, ha, _, rfl, _, hb, _, rfl, _, rfl, _, rfl, mulW lp ls, _, hb, _, rfl, _, ha, _, rfl, _, rfl, _, rfl, mulW lr lq, _, ha, _, rfl, _, hb, _, rfl, _, rfl, _, rfl, mulW lq ls, ?_⟩
    exact low_at (M := 1) (L := 1) n0 (two_add (mulL lp ls) (mulL lr lq)) (pow_le (mulL lq ls) (by decide)) k
theorem plus_at (T : Txt w K mg) {H : Hp} {Q : VK} {E : XK} {a b : Addr} {f g : Fr} (ha : Pr K H a f.1 f.2) (hb : Pr K H b g.1 g.2) (lf : low f) (lg : low g) (wf : wt f ≤ 3990) (wg : wt g ≤ 3990) (k : ∀ t H', Same H H' → H t = none → H' t = some (.tup [.int (plusF f g).1, .int (plusF f g).2]) → Q (.ref t) H') : sp_two K (fun p q r s => p * s + r * q) (fun _ q _ s => q * s) [.ref a, .ref b] H Q E := by
  obtain ⟨a1, a2⟩ := wt_lt f
  obtain ⟨b1, b2⟩ := wt_lt g
  exact ⟨a, b, f.1, f.2, g.1, g.2, rfl, ha, hb, pow_le a1 (by omega), pow_le a2 (by omega), pow_le b1 (by omega), pow_le b2 (by omega), den_ne lf lg, k⟩
end
end LK

set_option Elab.async false
set_option linter.all false
set_option maxRecDepth 100000
namespace LK
open PySem PySem.Spec PyProof.Rows L2
local macro_rules | `(tactic| walk_at "rs") => `(tactic| simp only [cxK, cxNK, tCallZ, tAsg, tOp, rI0, rS0, rB0, rI, rU, tUn, rEq, rNe, rIxL, rIxT, rIxS, rSetL, rSlLU, rSlS, rSlU, rCatL, rCatU, rRepL, rIn, tVar, tC, gName, gSub, tIfS, tTest, tB, tAnd, tOr, tNot, tNotV, tAndV, tOrV, tIf, tCall, tCons, tNil, tCB, tDrop, tRet, tRetN, tNext, tLstU, tTupU, tM0, tM1, tPar, tPar3, tAug, ipI, tBM, tBM0, rAppend, rPop, tBreak, sDPut, tDGet, tDGet2, tCont, tChain, tSl, tPart, tNoPart, L2.start, List.map, List.length_cons, List.length_nil, List.replicate, List.cons_append, List.nil_append, List.append_nil, List.getElem?_cons_zero, List.getElem?_cons_succ, List.set_cons_zero, List.set_cons_succ, Option.some.injEq, V.int.injEq, V.ref.injEq, V.str.injEq, V.bl.injEq, exists_eq_left', exists_eq_left, exists_and_left, decide_eq_true_eq, List.cons.injEq, and_true, true_and, scal, Bool.not_eq_true', decide_eq_false_iff_not, Nat.zero_add, Nat.reduceAdd, Nat.reduceSub, reduceCtorEq, false_and, exists_false, false_or, or_false, CPow, CPowW, CMul, CDiv, Int.reduceToNat, ↓reduceIte, wipe, sw, List.nil_append, List.singleton_append])
local macro_rules | `(tactic| walk_at "st") => `(tactic| (refine seq_op fun N hN => ?_; walk_at "rs"))
local macro_rules | `(tactic| walk_at "sd") => `(tactic| first | assumption | decide | omega)
local macro_rules | `(tactic| walk_at "rd") => `(tactic| repeat (first
  | refine ⟨_, SqL.of (by assumption), ?_⟩ | refine ⟨_, SqL.of upd_same, ?_⟩ | refine ⟨_, .inl (SqL.of (by assumption)), ?_⟩ | refine ⟨_, (by assumption : _ = some (HO.lst _)), ?_⟩ | refine ⟨_, upd_same, ?_⟩
  | refine ⟨_, rfl, ?_⟩ | refine And.intro (by walk_at "sd") ?_))

/-! ### items at the heap -/
theorem seqT_updO {K : PySem.W.Frag} {H : Hp} {a p : Addr} {xs : List V} {o : HO} (hp : ∀ ys, ¬ Rd H p (.tup ys)) (h : SqT K H a xs) : SqT K (L2.upd H p o) a xs := by
  rcases h with h | h
  · have ne : a ≠ p := fun e => hp _ (e ▸ h)
    rcases h with h | ⟨u, h⟩
    · exact .inl (.inl (by rw [upd_ne ne]; exact h))
    · exact .inl (.inr ⟨u, by rw [upd_ne ne]; exact h⟩)
  · exact .inr h
theorem notT_lst {H : Hp} {p : Addr} {ys : List V} (h : H p = some (.lst ys)) : ∀ zs, ¬ Rd H p (.tup zs) := fun zs r => by
  rcases r with r | ⟨u, r⟩ <;> (rw [h] at r; cases r)
theorem notT_dK {H : Hp} {p : Addr} {ys : List (L2.Key × V)} (h : H p = some (.dK ys)) : ∀ zs, ¬ Rd H p (.tup zs) := fun zs r => by
  rcases r with r | ⟨u, r⟩ <;> (rw [h] at r; cases r)
theorem notT_dT {H : Hp} {p : Addr} {ys : List (List L2.Key × V)} (h : H p = some (.dT ys)) : ∀ zs, ¬ Rd H p (.tup zs) := fun zs r => by
  rcases r with r | ⟨u, r⟩ <;> (rw [h] at r; cases r)
inductive Its (K : PySem.W.Frag) (H : Hp) : List V → List It → Prop
  | nil : Its K H [] []
  | cons {a u : Addr} {k : List Int} {f : Fr} {xs : List V} {its : List It} : SqT K H a (k.map V.int ++ [.ref u]) → Pr K H u f.1 f.2 → Its K H xs its → Its K H (.ref a :: xs) ((k, f) :: its)
section
variable {K : PySem.W.Frag} {H H' : Hp}
theorem Its.same (s : Same H H') : ∀ {xs : List V} {its : List It}, Its K H xs its → Its K H' xs its
  | _, _, .nil => .nil
  | _, _, .cons h h2 q => .cons (Same.seqT s h) (Same.seqT s h2) (q.same s)
theorem Its.len : ∀ {xs : List V} {its : List It}, Its K H xs its → xs.length = its.length
  | _, _, .nil => rfl
  | _, _, .cons _ _ q => congrArg Nat.succ q.len
theorem Its.app : ∀ {xs ys : List V} {its jts : List It}, Its K H xs its → Its K H ys jts → Its K H (xs ++ ys) (its ++ jts)
  | _, _, _, _, .nil, r => r
  | _, _, _, _, .cons h h2 q, r => .cons h h2 (q.app r)
theorem Its.rev : ∀ {xs : List V} {its : List It}, Its K H xs its → Its K H xs.reverse its.reverse
  | _, _, .nil => .nil
  | _, _, .cons h h2 q => by rw [List.reverse_cons, List.reverse_cons]; exact q.rev.app (.cons h h2 .nil)
theorem Its.take : ∀ {xs : List V} {its : List It} (n : Nat), Its K H xs its → Its K H (xs.take n) (its.take n)
  | _, _, 0, _ => .nil
  | _, _, _ + 1, .nil => .nil
  | _, _, n + 1, .cons h h2 q => .cons h h2 (q.take n)
theorem Its.drop : ∀ {xs : List V} {its : List It} (n : Nat), Its K H xs its → Its K H (xs.drop n) (its.drop n)
  | _, _, 0, h => h
  | _, _, _ + 1, .nil => .nil
  | _, _, n + 1, .cons _ _ q => q.drop n
theorem Its.get : ∀ {xs : List V} {its : List It} {n : Nat}, Its K H xs its → n < its.length → ∃ a u k f, xs[n]? = some (.ref a) ∧ its[n]? = some (k, f) ∧ SqT K H a (k.map V.int ++ [.ref u]) ∧ Pr K H u f.1 f.2
  | _, _, _, .nil, h => absurd h (Nat.not_lt_zero _)
  | _, _, 0, .cons h h2 _, _ => ⟨_, _, _, _, rfl, rfl, h, h2⟩
  | _, _, n + 1, .cons _ _ q, h => by
    obtain ⟨a, u, k, f, h1, h2, h3⟩ := q.get (n := n) (Nat.lt_of_succ_lt_succ h)
    exact ⟨a, u, k, f, h1, h2, h3⟩
theorem Its.updO {p : Addr} {o : HO} (hp : ∀ ys, ¬ Rd H p (.tup ys)) : ∀ {xs : List V} {its : List It}, Its K H xs its → Its K (L2.upd H p o) xs its
  | _, _, .nil => .nil
  | _, _, .cons h h2 q => .cons (seqT_updO hp h) (seqT_updO hp h2) (q.updO hp)
theorem Its.kp {N : Nat} {b c : Addr} (B : Bag N H b c) (k : Kp b H H') : ∀ {xs : List V} {its : List It}, Its K H xs its → Its K H' xs its
  | _, _, .nil => .nil
  | _, _, .cons h h2 q => .cons (seqT_kp B k h) (seqT_kp B k h2) (q.kp B k)
def dIt (it : It) : PyData := .tuple (it.1.map PyData.int ++ [.tuple [.int it.2.1, .int it.2.2]])
theorem dp_ints : ∀ k : List Int, DpAll K H (k.map V.int) (k.map PyData.int)
  | [] => .nil
  | i :: k => .cons (.int i) (dp_ints k)
theorem dpAll_app : ∀ {xs ys : List V} {ds es : List PyData}, DpAll K H xs ds → DpAll K H ys es → DpAll K H (xs ++ ys) (ds ++ es)
  | _, _, _, _, .nil, r => r
  | _, _, _, _, .cons h q, r => .cons h (dpAll_app q r)
theorem Its.dp : ∀ {xs : List V} {its : List It}, Its K H xs its → DpAll K H xs (its.map dIt)
  | _, _, .nil => .nil
  | _, _, .cons h h2 q => .cons (.tup h (dpAll_app (dp_ints _) (.cons (.tup h2 (.cons (.int _) (.cons (.int _) .nil))) .nil))) q.dp
end
/-! ### the normal form -/
abbrev cd (k : List Int) : Int := TS.code 2000 k
structure Norm (R : List Int → Rat) (l : List It) : Prop where
  srt : l.Pairwise fun a b => cd a.1 < cd b.1
  it : ∀ x ∈ l, low x.2 ∧ x.2.1 ≠ 0 ∧ rt x.2 = R x.1
  all : ∀ k, R k ≠ 0 → ∃ f, (k, f) ∈ l
theorem rt_null {f : Fr} (hf : low f) : rt f = 0 ↔ f.1 = 0 := by
  constructor
  · intro e
    have := rt_eq hf low_zero (by rw [e, rt_zero])
    rw [this]
  · intro e
    rw [(low_null hf).mp e, rt_zero]
theorem srt_eq : ∀ {l m : List It}, (l.Pairwise fun a b => cd a.1 < cd b.1) → (m.Pairwise fun a b => cd a.1 < cd b.1) → (∀ x, x ∈ l ↔ x ∈ m) → l = m
  | [], [], _, _, _ => rfl
  | [], b :: m, _, _, h => by have := (h b).mpr List.mem_cons_self; cases this
  | a :: l, [], _, _, h => by have := (h a).mp List.mem_cons_self; cases this
  | a :: l, b :: m, hl, hm, h => by
    rw [List.pairwise_cons] at hl hm
    have e : a = b := by
      rcases List.mem_cons.mp ((h a).mp List.mem_cons_self) with e | e
      · exact e
      · rcases List.mem_cons.mp ((h b).mpr List.mem_cons_self) with e2 | e2
        · exact e2.symm
        · have h1 := hm.1 a e
          have h2 := hl.1 b e2
          omega
    subst e
    rw [srt_eq hl.2 hm.2 fun x => ?_]
    constructor
    · intro hx
      rcases List.mem_cons.mp ((h x).mp (List.mem_cons_of_mem _ hx)) with e | e
      · subst e
        have := hl.1 x hx
        omega
      · exact e
    · intro hx
      rcases List.mem_cons.mp ((h x).mpr (List.mem_cons_of_mem _ hx)) with e | e
      · subst e
        have := hm.1 x hx
        omega
      · exact e
theorem Norm.uniq {R : List Int → Rat} {l m : List It} (h : Norm R l) (g : Norm R m) : l = m := by
  have sub : ∀ {l m : List It}, Norm R l → Norm R m → ∀ x ∈ l, x ∈ m := fun {l m} h g x hx => by
    obtain ⟨a1, a2, a3⟩ := h.it x hx
    obtain ⟨f, hf⟩ := g.all x.1 (fun z => a2 ((rt_null a1).mp (a3.trans z)))
    obtain ⟨b1, b2, b3⟩ := g.it _ hf
    have e : x.2 = f := rt_eq a1 b1 (a3.trans b3.symm)
    have : x = (x.1, f) := Prod.ext rfl e
    rw [this]; exact hf
  exact srt_eq h.srt g.srt fun x => ⟨sub h g x, sub g h x⟩
theorem accF_none {items : List It} {k : List Int} (h : ∀ it ∈ items, it.1 ≠ k) : accF items k = (0, 1) ∧ accR items k = 0 := by
  unfold accF accR
  have key : ∀ {items : List It}, (∀ it ∈ items, it.1 ≠ k) → ∀ (f : Fr) (r : Rat), items.foldl (fun acc it => if it.1 = k then plusF acc it.2 else acc) f = f ∧ items.foldl (fun acc it => if it.1 = k then acc + rt it.2 else acc) r = r := by
    intro items
    induction items with
    | nil => intro _ f r; exact ⟨rfl, rfl⟩
    | cons it items ih =>
      intro h f r
      simp only [List.foldl_cons]
      rw [if_neg (h it List.mem_cons_self), if_neg (h it List.mem_cons_self)]
      exact ih (fun x hx => h x (List.mem_cons_of_mem _ hx)) f r
  exact key h _ _
/-- sorted spots, of those with a sum that is no 0, with their sums -/
theorem norm_of {items : List It} {L : List (List Int)} (hl : ∀ it ∈ items, low it.2) (srt : L.Pairwise fun a b => cd a < cd b) (all : ∀ it ∈ items, it.1 ∈ L) : Norm (accR items) ((L.filter fun k => decide (accF items k ≠ (0, 1))).map fun k => (k, accF items k)) := by
  refine ⟨?_, fun x hx => ?_, fun k hk => ?_⟩
  · rw [List.pairwise_map]
    exact (srt.filter _).imp fun h => h
  · obtain ⟨k, hk, rfl⟩ := List.mem_map.mp hx
    have := of_decide_eq_true (List.mem_filter.mp hk).2
    obtain ⟨a, b, _⟩ := accF_spec hl k
    exact ⟨a, fun z => this ((low_null a).mp z), b⟩
  · have mk : k ∈ L := Classical.byContradiction fun n => hk (accF_none fun it hit e => n (by rw [← e]; exact all it hit)).2
    obtain ⟨a, b, _⟩ := accF_spec hl k
    refine ⟨accF items k, List.mem_map.mpr ⟨k, List.mem_filter.mpr ⟨mk, decide_eq_true fun z => hk ?_⟩, rfl⟩⟩
    rw [← b, z, rt_zero]
theorem nodup_len {α : Type} [DecidableEq α] : ∀ {l S : List α}, l.Nodup → (∀ x ∈ l, x ∈ S) → l.length ≤ S.length
  | [], _, _, _ => Nat.zero_le _
  | a :: l, S, h, hs => by
    rw [List.nodup_cons] at h
    have ha := hs a List.mem_cons_self
    have := nodup_len (l := l) (S := S.erase a) h.2 fun x hx => by
      have ne : x ≠ a := fun e => h.1 (e ▸ hx)
      exact (List.mem_erase_of_ne ne).mpr (hs x (List.mem_cons_of_mem _ hx))
    rw [List.length_erase_of_mem ha] at this
    have p : 0 < S.length := List.length_pos_of_mem ha
    rw [List.length_cons]
    omega
/-- a comprehension with a test, its items told by R -/
theorem lc_filtR {J : L2.It} {n : Nat} {G : Hp → Prop} {Y : Nat → Hp → V → Hp → Prop} (w : Walk J n G Y) {g : TG} {tt : TT} {te : TE} {vs : List Nat} {σ : L2.St} {H1 : Hp} {D : Addr} {Qd : Hp → Prop} (R : Nat → Hp → List V → Prop) (p : Nat → Bool) (hD : H1 D = none) (hn : n ≤ 1000000)
    (mono : ∀ i H H' ys, Same H H' → R i H ys → R i H' ys) (up : ∀ i H ys zs o, H D = some (.lst zs) → R i H ys → R i (L2.upd H D o) ys) (r0 : ∀ H, R 0 H [])
    (hG : ∀ H, Same H1 H → G H)
    (hs : ∀ i x H H', i < n → Same H1 H → Y i H x H' → g x (wipe σ vs) H' fun σ2 H2 => Same H H2 ∧ wipe σ2 vs = wipe σ vs ∧ (∀ Qt : Bool → Hp → Prop, (∀ H3, Same H2 H3 → Qt (p i) H3) → tt σ2 H2 Qt) ∧ (p i = false → ∀ H3 ys, R i H3 ys → R (i + 1) H3 ys) ∧ (p i = true → ∀ H3, Same H2 H3 → ∀ Q2 : VK, (∀ v H4, Same H3 H4 → (∀ ys, R i H4 ys → R (i + 1) H4 (ys ++ [v])) → Q2 v H4) → te σ2 H3 Q2))
    (gm : ∀ x σ0 H0 Q0 Q1, (∀ σ2 H2, Q0 σ2 H2 → Q1 σ2 H2) → g x σ0 H0 Q0 → g x σ0 H0 Q1)
    (hq : ∀ H' ys, Same H1 H' → H' D = some (.lst ys) → R n H' ys → Qd H') :
    ∃ W : Nat → Nat → Hp → Prop, (∃ m, W 0 m (L2.upd H1 D (.lst []))) ∧ ∀ i m H, W i m H →
      (J.stop i H ∧ Qd H) ∨ (J.go i H ∧ ∃ Nx : Hp → Prop, (∀ H', Nx H' → ∃ m', m' < m ∧ W (i + 1) m' H') ∧ ∀ x H', J.yld i H x H' → g x (wipe σ vs) H' fun σ2 H2 => wipe σ2 vs = wipe σ vs ∧ tt σ2 H2 fun b H3 =>
        if b = true then te σ2 H3 fun y H4 => ∃ acc, H4 D = some (.lst acc) ∧ acc.length < sizeLine ∧ Nx (L2.upd H4 D (.lst (acc ++ [y]))) else Nx H3) := by
  have keep : ∀ {H : Hp} {o : HO}, Same H1 H → Same H1 (L2.upd H D o) := fun s a u e => by
    rw [upd_ne (ne_of_none e hD)]; exact s _ _ e
  refine lc_it w (fun i H => Same H1 H ∧ ∃ ys, H D = some (.lst ys) ∧ ys.length ≤ i ∧ R i H ys) ⟨keep (Same.refl _), [], upd_same, Nat.le_refl _, r0 _⟩ (fun i H _ h => hG H h.1) (fun i x H H' hi ⟨s1, ys, h1, hl, hr⟩ hY => ?_) (fun H ⟨s1, ys, h1, _, hr⟩ => hq H ys s1 h1 hr)
  refine gm _ _ _ _ _ (fun σ2 H2 ⟨s2, e2, kt, kf, ke⟩ => ⟨e2, kt _ fun H3 s3 => ?_⟩) (hs i x H H' hi s1 hY)
  have s23 := Same.trans s2 s3
  have hD3 := s23 _ _ h1
  cases c : p i with
  | true =>
    rw [if_pos rfl]
    refine ke c H3 s3 _ fun v H4 s4 st => ⟨ys, s4 _ _ hD3, ?_, keep (Same.trans s1 (Same.trans s23 s4)), ys ++ [v], upd_same, ?_, up _ _ _ _ _ (s4 _ _ hD3) (st ys (mono _ _ _ _ (Same.trans s23 s4) hr))⟩
    · exact Nat.lt_of_le_of_lt hl (Nat.lt_of_lt_of_le (Nat.lt_of_lt_of_le hi hn) (by decide))
    · rw [List.length_append]
      simp only [List.length_cons, List.length_nil]
      omega
  | false =>
    rw [if_neg (by simp)]
    exact ⟨Same.trans s1 s23, ys, hD3, by omega, kf c H3 ys (mono _ _ _ _ s23 hr)⟩
end LK

set_option Elab.async false
set_option linter.all false
set_option maxRecDepth 100000
namespace LK
open PySem PySem.Spec PyProof.Rows L2
local macro_rules | `(tactic| walk_at "rs") => `(tactic| simp only [cxK, cxNK, tCallZ, tAsg, tOp, rI0, rS0, rB0, rI, rU, tUn, rEq, rNe, rIxL, rIxT, rIxS, rSetL, rSlLU, rSlS, rSlU, rCatL, rCatU, rRepL, rIn, tVar, tC, gName, gSub, tIfS, tTest, tB, tAnd, tOr, tNot, tNotV, tAndV, tOrV, tIf, tCall, tCons, tNil, tCB, tDrop, tRet, tRetN, tNext, tLstU, tTupU, tM0, tM1, tPar, tPar3, tAug, ipI, tBM, tBM0, rAppend, rPop, tBreak, sDPut, tDGet, tDGet2, tCont, tChain, tSl, tPart, tNoPart, L2.start, List.map, List.length_cons, List.length_nil, List.replicate, List.cons_append, List.nil_append, List.append_nil, List.getElem?_cons_zero, List.getElem?_cons_succ, List.set_cons_zero, List.set_cons_succ, Option.some.injEq, V.int.injEq, V.ref.injEq, V.str.injEq, V.bl.injEq, exists_eq_left', exists_eq_left, exists_and_left, decide_eq_true_eq, List.cons.injEq, and_true, true_and, scal, Bool.not_eq_true', decide_eq_false_iff_not, Nat.zero_add, Nat.reduceAdd, Nat.reduceSub, reduceCtorEq, false_and, exists_false, false_or, or_false, CPow, CPowW, CMul, CDiv, Int.reduceToNat, ↓reduceIte, wipe, sw, List.nil_append, List.singleton_append])
local macro_rules | `(tactic| walk_at "st") => `(tactic| (refine seq_op fun N hN => ?_; walk_at "rs"))
local macro_rules | `(tactic| walk_at "sd") => `(tactic| first | assumption | decide | omega)
local macro_rules | `(tactic| walk_at "rd") => `(tactic| repeat (first
  | refine ⟨_, SqL.of (by assumption), ?_⟩ | refine ⟨_, SqL.of upd_same, ?_⟩ | refine ⟨_, .inl (SqL.of (by assumption)), ?_⟩ | refine ⟨_, (by assumption : _ = some (HO.lst _)), ?_⟩ | refine ⟨_, upd_same, ?_⟩
  | refine ⟨_, rfl, ?_⟩ | refine And.intro (by walk_at "sd") ?_))

theorem for_lt {K : PySem.W.Frag} {a : Addr} {xs : List V} {g : TG} {tb : TS} {D : Ends} {σ : L2.St} {H : Hp} {tl : TE} (hv : ∀ Q : VK, Q (.ref a) H → tl σ H Q) {H0 : Hp} (h : SqL K H0 a xs ∨ SqT K H0 a xs) (Pv : Nat → L2.St → Hp → Prop) (h0 : Pv 0 σ H) (hl : ∀ i σ H', Pv i σ H' → Same H0 H')
    (hs : ∀ i x σ H, xs[i]? = some x → Pv i σ H → g x σ H fun σ2 H2 => tb { D with nx := Pv (i + 1), ct := Pv (i + 1), bk := D.nx } σ2 H2) (hd : ∀ σ H, Pv xs.length σ H → D.nx σ H) : tFor (iLT K tl) g tb D σ H := by
  rcases h with h | h
  · exact .inl (hv _ ⟨a, rfl, ⟨xs, (hl _ _ _ h0).seq h⟩, for_list (K := K) (a := a) (xs := xs) Pv h0 (fun i σ H2 _ p => (hl i σ H2 p).seq h) hs hd⟩)
  · exact .inr (hv _ ⟨a, rfl, ⟨xs, Same.seqT (hl _ _ _ h0) h⟩, for_tup (K := K) (a := a) (xs := xs) Pv h0 (fun i σ H2 _ p => Same.seqT (hl i σ H2 p) h) hs hd⟩)
theorem gm_name (i : Nat) : ∀ (x : V) (σ0 : L2.St) (H0 : Hp) (Q0 Q1 : L2.St → Hp → Prop), (∀ σ2 H2, Q0 σ2 H2 → Q1 σ2 H2) → gName i x σ0 H0 Q0 → gName i x σ0 H0 Q1 := fun _ _ _ _ _ h q => h _ _ q
theorem gm2 {K : PySem.W.Frag} (i j : Nat) : ∀ (x : V) (σ0 : L2.St) (H0 : Hp) (Q0 Q1 : L2.St → Hp → Prop), (∀ σ2 H2, Q0 σ2 H2 → Q1 σ2 H2) → gTup K 2 (gCons (gName i) (gCons (gName j) gNil)) x σ0 H0 Q0 → gTup K 2 (gCons (gName i) (gCons (gName j) gNil)) x σ0 H0 Q1 :=
  fun x σ0 H0 Q0 Q1 h ⟨a, xs, e1, e2, e3, v, r, e4, v2, r2, e5, e6, q⟩ => ⟨a, xs, e1, e2, e3, v, r, e4, v2, r2, e5, e6, h _ _ q⟩
theorem gm3 {K : PySem.W.Frag} (i j l : Nat) : ∀ (x : V) (σ0 : L2.St) (H0 : Hp) (Q0 Q1 : L2.St → Hp → Prop), (∀ σ2 H2, Q0 σ2 H2 → Q1 σ2 H2) → gTup K 3 (gCons (gName i) (gCons (gName j) (gCons (gName l) gNil))) x σ0 H0 Q0 → gTup K 3 (gCons (gName i) (gCons (gName j) (gCons (gName l) gNil))) x σ0 H0 Q1 :=
  fun x σ0 H0 Q0 Q1 h ⟨a, xs, e1, e2, e3, v, r, e4, v2, r2, e5, v3, r3, e6, e7, q⟩ => ⟨a, xs, e1, e2, e3, v, r, e4, v2, r2, e5, v3, r3, e6, e7, h _ _ q⟩
/-- a triple is taken apart -/
theorem g3_at {K : PySem.W.Frag} {i j l : Nat} {p : Addr} {u v w : V} {σ : L2.St} {H : Hp} {Q : L2.St → Hp → Prop} (h : SqT K H p [u, v, w]) (q : Q (((σ.set i (some u)).set j (some v)).set l (some w)) H) : gTup K 3 (gCons (gName i) (gCons (gName j) (gCons (gName l) gNil))) (.ref p) σ H Q := ⟨p, _, rfl, h, rfl, u, _, rfl, v, _, rfl, w, _, rfl, rfl, q⟩
theorem g2_at {K : PySem.W.Frag} {i j : Nat} {p : Addr} {u v : V} {σ : L2.St} {H : Hp} {Q : L2.St → Hp → Prop} (h : SqT K H p [u, v]) (q : Q ((σ.set i (some u)).set j (some v)) H) : gTup K 2 (gCons (gName i) (gCons (gName j) gNil)) (.ref p) σ H Q := ⟨p, _, rfl, h, rfl, u, _, rfl, v, _, rfl, rfl, q⟩
/-! ### sums in a dict -/
section
variable {κ : Type} [DecidableEq κ]
theorem valV_mem {k : κ} {v : V} : ∀ {kvs : List (κ × V)}, valV kvs k = some v → k ∈ kvs.map (·.1)
  | [], h => by cases h
  | p :: r, h => by
    by_cases e : p.1 = k
    · rw [List.map_cons, e]; exact List.mem_cons_self
    · rw [valV_neg e] at h
      exact List.mem_cons_of_mem _ (valV_mem h)
theorem keys_put (kvs : List (κ × V)) (k : κ) (v : V) : (putK kvs k v).map (·.1) = if (valV kvs k).isSome = true then kvs.map (·.1) else kvs.map (·.1) ++ [k] := by
  unfold putK
  rw [valV_any]
  by_cases c : (valV kvs k).isSome = true
  · rw [if_pos c, if_pos c, List.map_map]
    refine List.map_congr_left fun p _ => ?_
    show (if p.1 = k then (p.1, v) else p).1 = p.1
    split <;> rfl
  · rw [if_neg c, if_neg c, List.map_append]
    rfl
structure SumD (mk : List Int → κ) (d : Nat) (K : PySem.W.Frag) (H : Hp) (kvs : List (κ × V)) (items : List It) : Prop where
  inj : ∀ k k' : List Int, k.length = d → k'.length = d → mk k = mk k' → k = k'
  len : ∀ it ∈ items, it.1.length = d
  nd : (kvs.map (·.1)).Nodup
  key : ∀ x ∈ kvs.map (·.1), ∃ it ∈ items, x = mk it.1
  val : ∀ it ∈ items, ∃ u, valV kvs (mk it.1) = some (.ref u) ∧ Pr K H u (accF items it.1).1 (accF items it.1).2
variable {mk : List Int → κ} {d : Nat} {K : PySem.W.Frag} {H H' : Hp} {kvs : List (κ × V)} {items : List It}
theorem SumD.get (s : SumD mk d K H kvs items) {k : List Int} (hk : k.length = d) : (∃ u, valV kvs (mk k) = some (.ref u) ∧ Pr K H u (accF items k).1 (accF items k).2) ∨ (valV kvs (mk k) = none ∧ accF items k = (0, 1)) := by
  cases hv : valV kvs (mk k) with
  | none =>
    refine .inr ⟨rfl, (accF_none fun it hit e => ?_).1⟩
    obtain ⟨u, h1, _⟩ := s.val it hit
    rw [e, hv] at h1
    cases h1
  | some v =>
    obtain ⟨it, hit, e⟩ := s.key _ (valV_mem hv)
    obtain rfl := s.inj _ _ hk (s.len it hit) e
    obtain ⟨u, h1, h2⟩ := s.val it hit
    rw [hv] at h1
    exact .inl ⟨u, h1, h2⟩
theorem SumD.put (s : SumD mk d K H kvs items) {it : It} (hl : it.1.length = d) {t : Addr} (carry : ∀ u p q, Pr K H u p q → Pr K H' u p q) (ht : Pr K H' t (plusF (accF items it.1) it.2).1 (plusF (accF items it.1) it.2).2) : SumD mk d K H' (putK kvs (mk it.1) (.ref t)) (items ++ [it]) := by
  refine ⟨s.inj, fun x hx => ?_, ?_, fun x hx => ?_, fun x hx => ?_⟩
  · rcases List.mem_append.mp hx with hx | hx
    · exact s.len x hx
    · rw [List.mem_singleton.mp hx]; exact hl
  · rw [keys_put]
    by_cases c : (valV kvs (mk it.1)).isSome = true
    · rw [if_pos c]; exact s.nd
    · rw [if_neg c]
      refine List.nodup_append.mpr ⟨s.nd, by simp, fun x hx y hy e => ?_⟩
      obtain rfl := List.mem_singleton.mp hy
      obtain ⟨jt, hjt, e2⟩ := s.key x hx
      obtain ⟨u, h1, _⟩ := s.val jt hjt
      rw [← e2, e] at h1
      rw [h1] at c
      exact c rfl
  · rw [keys_put] at hx
    have old : x ∈ kvs.map (·.1) → ∃ jt ∈ items ++ [it], x = mk jt.1 := fun h => by
      obtain ⟨jt, hjt, e⟩ := s.key x h
      exact ⟨jt, List.mem_append_left _ hjt, e⟩
    split at hx
    · exact old hx
    · rcases List.mem_append.mp hx with hx | hx
      · exact old hx
      · exact ⟨it, List.mem_append_right _ List.mem_cons_self, List.mem_singleton.mp hx⟩
  · rw [valV_put]
    by_cases e : mk x.1 = mk it.1
    · have lx : x.1.length = d := by
        rcases List.mem_append.mp hx with hx | hx
        · exact s.len x hx
        · rw [List.mem_singleton.mp hx]; exact hl
      have e2 := s.inj _ _ lx hl e
      rw [if_pos e, accF_snoc, e2, if_pos rfl]
      exact ⟨t, rfl, ht⟩
    · rw [if_neg e, accF_snoc, if_neg fun z => e (by rw [z])]
      rcases List.mem_append.mp hx with hx | hx
      · obtain ⟨u, h1, h2⟩ := s.val x hx
        exact ⟨u, h1, carry _ _ _ h2⟩
      · exact absurd (by rw [List.mem_singleton.mp hx]) e
theorem SumD.upd (s : SumD mk d K H kvs items) (carry : ∀ u p q, Pr K H u p q → Pr K H' u p q) : SumD mk d K H' kvs items := ⟨s.inj, s.len, s.nd, s.key, fun it hit => by
  obtain ⟨u, h1, h2⟩ := s.val it hit
  exact ⟨u, h1, carry _ _ _ h2⟩⟩
end
theorem wtS_fold (k : List Int) : ∀ (b : List It) (n m : Nat), n ≤ m → n ≤ b.foldl (fun acc it => if it.1 = k then acc + (wt it.2 + 1) else acc) m
  | [], n, m, h => h
  | it :: b, n, m, h => by
    simp only [List.foldl_cons]
    by_cases e : it.1 = k
    · rw [if_pos e]; exact wtS_fold k b n _ (by omega)
    · rw [if_neg e]; exact wtS_fold k b n _ h
theorem wtS_take (items : List It) (i : Nat) (k : List Int) : wtS (items.take i) k ≤ wtS items k := by
  conv => rhs; rw [← List.take_append_drop i items]
  unfold wtS
  rw [List.foldl_append]
  exact wtS_fold k _ _ _ (Nat.le_refl _)
/-- items that may be handed in -/
structure Fit (d : Nat) (items : List It) : Prop where
  it : ∀ x ∈ items, low x.2 ∧ wt x.2 ≤ 3900 ∧ x.1.length = d ∧ TS.Bd 2000 x.1
  wt : ∀ k, wtS items k ≤ 3900
  few : ∃ S : List (List Int), S.length ≤ 62 ∧ ∀ x ∈ items, x.1 ∈ S
  len : items.length ≤ 1000
section
variable {P : Program} {w : World} {K : PySem.W.Frag} {mg : Str → Option Value} {base : Heap}
def sp_norm (K : PySem.W.Frag) (d : Nat) : Sp := fun vs H Q _ => ∃ (a : Addr) (xs : List V) (items : List It), vs = [.ref a] ∧ (SqL K H a xs ∨ SqT K H a xs) ∧ Its K H xs items ∧ Fit d items ∧
  ∀ (t : Addr) (ys : List V) (its' : List It) H', Same H H' → SqT K H' t ys → Its K H' ys its' → Norm (accR items) its' → its'.length < 64 → Q (.ref t) H'
theorem ok_normal_entries (T : Txt w K mg) : FnOk P w K mg base CX0 5 T.a_normal_entries T.d_normal_entries ["entries"] (sp_norm K 1) := by
  refine T.F_normal_entries.ok sc_normal_entries (fun vs H Q E h => ?_) (fun cdv A outer s H vs Q E hr h => ?_)
  · obtain ⟨a, xs, items, rfl, _⟩ := h
    rfl
  · obtain ⟨a, xs, items, rfl, ha, hi, fit, k⟩ := h
    have hr_plus : Room 4 _ := hr
    have G_plus := ok_plus (P := P) (base := base) T
    have hu1 : (A.deeper (envOfC "normal_entries" (defScope s_normal_entries) s.heap.objs.size T.a_normal_entries cdv)).units + 1 < cLine := Nat.lt_of_le_of_lt (Nat.add_le_add_left (by decide : 1 ≤ 64) _) hr.units
    have lx := hi.len
    refine ⟨_, (pss_cons (ps_set (i := 1) sc_normal_entries.nd rfl (Or.inr rfl) pe_dnewK)
      (pss_cons (ps_for PassesOwn.never rfl (pi_lt (pv 0)) (pg_tup rfl (pgs_cons (pg_name (i := 2) sc_normal_entries.nd rfl (Or.inl rfl)) (pgs_cons (pg_name (i := 3) sc_normal_entries.nd rfl (Or.inl rfl)) pgs_nil))) (pss_one (ps_dput hu1 (pv 1) (pv 2) (pe_call G_plus hr_plus (by rfl) T.m_plus T.F_plus.kp T.B_plus .nil pass0 (pa_cons (pe_dget2 hu1 (pv 1) (pv 2) (pe_glob (v := .ref T.a_ZERO) (by rfl) T.m_ZERO rfl) ⟨rfl, rfl, rfl, rfl⟩) (pa_cons (pv 3) pa_nil))) rfl)))
      (pss_one (ps_ret (pe_callTy call_tupleN (by rfl) T.n_tuple (by decide +kernel) (pa_cons (pe_lc (own := [("column", 2)]) (g := gName 2) (tt := _) rfl sc_normal_entries.nd (pi_list (pe_callB (call_sortedDI rfl) (by rfl) T.n_sorted (by decide +kernel) (pa_cons (pv 1) pa_nil))) (blkOk_by (own := [("column", 2)]) (N := N_normal_entries) (sc := defScope s_normal_entries) (by decide +kernel)) (fun _ _ _ _ _ => pg_name (i := 2) sc_normal_entries.nd rfl (Or.inl rfl)) (fun _ _ _ _ _ => pts_one (pt_cmpR (op_neDK (K := K) rfl hr.units) (pe_dget hu1 (pv 1) (pv 2) (fun _ _ => rfl)) (pe_glob (v := .ref T.a_ZERO) (by rfl) T.m_ZERO rfl) (nomark _))) (fun _ _ _ _ _ => (pe_tupU (pa_cons (pv 2) (pa_cons (pe_dget hu1 (pv 1) (pv 2) (fun _ _ => rfl)) pa_nil))))) pa_nil)))))), ?_⟩
    refine seq_op fun N hN => ?_
    walk_at "rs"
    refine fun D hD => hN _ _ ?_
    clear hN N
    have s0 : Same H (L2.upd H D (.dK [])) := same_upd hD
    refine cut_seq (fun σ G => ∃ (x2 x3 : Option V) (kvs : List (L2.Key × V)), σ = [some (.ref a), some (.ref D), x2, x3] ∧ Same H G ∧ G D = some (.dK kvs) ∧ SumD (fun k => (Sum.inl (k.headD 0) : L2.Key)) 1 K G kvs items) (fun N hN => ?_) ?_
    · refine for_lt (K := K) (a := a) (xs := xs) (fun Q q => ⟨_, rfl, q⟩) ha (fun i σ G => ∃ (x2 x3 : Option V) (kvs : List (L2.Key × V)), σ = [some (.ref a), some (.ref D), x2, x3] ∧ Same H G ∧ G D = some (.dK kvs) ∧ SumD (fun k => (Sum.inl (k.headD 0) : L2.Key)) 1 K G kvs (items.take i)) ⟨_, _, [], rfl, s0, upd_same, ⟨?_, ?_, ?_, ?_, ?_⟩⟩ (fun i σ G ⟨_, _, _, _, s1, _⟩ => s1) ?_ ?_
      · intro k k' h1 h2 e
        match k, k', h1, h2 with
        | [x], [y], _, _ => injection e with e; rw [show x = y from e]
      · intro it hit; simp at hit
      · simp
      · intro x hx; simp at hx
      · intro it hit; simp at hit
      · rintro i x σ G hx ⟨x2, x3, kvs, rfl, s1, hG, sd⟩
        obtain ⟨p, u, ks, f, ex, ee, h1, h2⟩ := hi.get (n := i) (by rw [← lx]; exact (List.getElem?_eq_some_iff.mp hx).1)
        obtain rfl : x = .ref p := by rw [ex] at hx; exact (Option.some.inj hx).symm
        obtain ⟨lf, wf, ld, bd⟩ := fit.it _ (List.mem_of_getElem? ee)
        dsimp only at lf wf ld bd
        obtain ⟨c, rfl⟩ : ∃ c, ks = [c] := by
          match ks, ld with
          | [c], _ => exact ⟨c, rfl⟩
        refine g2_at (Same.seqT s1 h1) ?_
        walk_at "rs"
        have hl : ∀ it ∈ items.take i, low it.2 := fun it hit => (fit.it it (List.mem_of_mem_take hit)).1
        obtain ⟨la, _, wa⟩ := accF_spec hl [c]
        have wb : wt (accF (items.take i) [c]) ≤ 3900 := Nat.le_trans wa (Nat.le_trans (wtS_take items i [c]) (fit.wt [c]))
        have es : items.take (i + 1) = items.take i ++ [([c], f)] := by
          obtain ⟨hk, e⟩ := List.getElem?_eq_some_iff.mp ee
          rw [← List.take_append_getElem hk, e]
        have kl : kvs.length < sizeLine := by
          have := nodup_len sd.nd (S := items.map fun it => (Sum.inl (it.1.headD 0) : L2.Key)) fun x hx => by
            obtain ⟨it, hit, e⟩ := sd.key x hx
            exact List.mem_map.mpr ⟨it, List.mem_of_mem_take hit, e.symm⟩
          rw [List.length_map, List.length_map] at this
          exact Nat.lt_of_le_of_lt (Nat.le_trans this fit.len) (by decide)
        have fin : ∀ (v : Addr), Pr K G v (accF (items.take i) [c]).1 (accF (items.take i) [c]).2 → sp_two K (fun p q r s => p * s + r * q) (fun _ q _ s => q * s) [.ref v, .ref u] G (fun y G2 => ∃ G3, DPut G2 D (.int c) y G3 ∧ ∃ x2 x3, (some (V.int c) = x2 ∧ some (V.ref u) = x3) ∧ Same H G3 ∧ ∃ kvs, G3 D = some (.dK kvs) ∧ SumD (fun k => (Sum.inl (k.headD 0) : L2.Key)) 1 K G3 kvs (items.take (i + 1))) E0 := fun v hv => by
          refine plus_at T hv (Same.seqT s1 h2) la lf (by omega) (by omega) fun t G2 s2 t0 t1 => ?_
          have hG2 := s2 _ _ hG
          have sp := sd.put (it := ([c], f)) rfl (H' := L2.upd G2 D (.dK (putK kvs (Sum.inl c) (.ref t)))) (t := t) (fun u p q h => seqT_updO (notT_dK hG2) (Same.seqT s2 h)) (seqT_updO (notT_dK hG2) (.inl (.inl t1)))
          refine ⟨_, DPut.k (k := Sum.inl c) hG2 kl, _, _, ⟨rfl, rfl⟩, ?_, _, upd_same, ?_⟩
          · intro b o e
            have ne : b ≠ D := fun z => by rw [z, hD] at e; cases e
            rw [upd_ne ne]
            exact s2 _ _ (s1 _ _ e)
          · rw [es]
            exact sp
        refine ⟨.inl ⟨kvs, .inl hG⟩, _, DGet.k (k := Sum.inl c) hG, ?_⟩
        rcases sd.get (k := [c]) rfl with ⟨v, hv, pv⟩ | ⟨hv, ez⟩
        · rw [show valV kvs (Sum.inl c : L2.Key) = some (.ref v) from hv]
          exact fin v pv
        · rw [show valV kvs (Sum.inl c : L2.Key) = none from hv]
          have pz : Pr K G T.a_ZERO (accF (items.take i) [c]).1 (accF (items.take i) [c]).2 := by rw [ez]; exact T.s_ZERO G
          exact fin _ pz
      · rintro σ G ⟨x2, x3, kvs, rfl, s1, hG, sd⟩
        rw [lx, List.take_length] at sd
        exact hN _ _ ⟨_, _, _, rfl, s1, hG, sd⟩
    · rintro σ G ⟨x2, x3, kvs, rfl, s1, hG, sd⟩
      have hl : ∀ it ∈ items, low it.2 := fun it hit => (fit.it it hit).1
      obtain ⟨S, sS, mS⟩ := fit.few
      have ksE : ∃ ks : List Int, kvs.map (·.1) = ks.map Sum.inl := by
        have : ∀ l : List L2.Key, (∀ x ∈ l, ∃ it ∈ items, x = (Sum.inl (it.1.headD 0) : L2.Key)) → ∃ ks : List Int, l = ks.map Sum.inl := by
          intro l
          induction l with
          | nil => intro _; exact ⟨[], rfl⟩
          | cons x l ih =>
            intro h
            obtain ⟨it, _, e⟩ := h x List.mem_cons_self
            obtain ⟨ks, e2⟩ := ih fun y hy => h y (List.mem_cons_of_mem _ hy)
            exact ⟨it.1.headD 0 :: ks, by rw [List.map_cons, e, e2]⟩
        exact this _ sd.key
      obtain ⟨ks, eks⟩ := ksE
      have ndk : ks.Nodup := by
        have := sd.nd
        rw [eks] at this
        exact (List.pairwise_map.mp this).imp fun h e => h (by rw [e])
      have mk : ∀ c, c ∈ ks ↔ ∃ it ∈ items, it.1 = [c] := fun c => by
        constructor
        · intro hc
          obtain ⟨it, hit, e⟩ := sd.key (Sum.inl c) (by rw [eks]; exact List.mem_map_of_mem hc)
          have l1 := sd.len it hit
          refine ⟨it, hit, ?_⟩
          match hk : it.1, l1 with
          | [y], _ => rw [hk] at e; injection e with e; rw [show c = y from e]
        · rintro ⟨it, hit, e⟩
          obtain ⟨u, h1, _⟩ := sd.val it hit
          have := valV_mem h1
          rw [eks, e] at this
          obtain ⟨y, hy, e2⟩ := List.mem_map.mp this
          injection e2 with e2
          rw [show c = y from e2.symm]; exact hy
      have lk : ks.length < 64 := by
        have := nodup_len (l := ks.map fun c => [c]) (S := S) (List.pairwise_map.mpr (ndk.imp fun h e => h (by injection e))) fun x hx => by
          obtain ⟨c, hc, rfl⟩ := List.mem_map.mp hx
          obtain ⟨it, hit, e⟩ := (mk c).mp hc
          rw [← e]; exact mS it hit
        rw [List.length_map] at this
        omega
      walk_at "rs"
      refine ⟨_, rfl, D, rfl, kvs, .inl hG, ks, eks, lk, fun ss p pm pw p0 => ?_⟩
      have sG : Same G (L2.upd G p (.lst (ss.map V.int))) := same_upd p0
      have hp1 : (L2.upd G p (.lst (ss.map V.int))) p = some (.lst (ss.map V.int)) := upd_same
      generalize L2.upd G p (.lst (ss.map V.int)) = G1 at *
      have sd1 : SumD (fun k => (Sum.inl (k.headD 0) : L2.Key)) 1 K G1 kvs items := sd.upd fun u p q h => Same.seqT sG h
      have hG1 := sG _ _ hG
      have lss : ss.length = ks.length := pm.length_eq
      have srt : (ss.map fun c => [c]).Pairwise fun a b => cd a < cd b := by
        rw [List.pairwise_map]
        have nd := pm.nodup_iff.mpr ndk
        refine (pw.and nd).imp fun {x y} h => ?_
        have e1 : ∀ z : Int, cd [z] = z := fun z => by
          show z * 2000 ^ 0 + 0 = z
          omega
        rw [e1, e1]
        exact Int.lt_iff_le_and_ne.mpr h
      have nm := norm_of (items := items) (L := ss.map fun c => [c]) hl srt fun it hit => by
        obtain ⟨_, _, l1, _⟩ := fit.it it hit
        obtain ⟨c, ec⟩ : ∃ c, it.1 = [c] := by
          match hk : it.1, l1 with
          | [y], _ => exact ⟨y, rfl⟩
        rw [ec]
        exact List.mem_map.mpr ⟨c, pm.mem_iff.mpr ((mk c).mpr ⟨it, hit, ec⟩), rfl⟩
      refine ⟨p, rfl, ⟨_, SqL.of hp1⟩, fun M hM => lc_filtR (n := (ss.map V.int).length) walk_list (fun i H ys => Its K H ys ((((ss.take i).map fun c => [c]).filter fun k => decide (accF items k ≠ (0, 1))).map fun k => (k, accF items k))) (fun i => decide (accF items [ss.getD i 0] ≠ (0, 1))) hM (by rw [List.length_map]; omega) (fun i H H' ys s h => h.same s) (fun i H ys zs o hp h => h.updO (notT_lst hp)) (fun H => .nil) (fun H2 s2 => s2.seq (SqL.of hp1)) (fun i x H2 H3 hi s2 y => ?_) (gm_name 2) fun H2 ys s2 h2 r2 => ?_⟩
      · obtain ⟨rfl, hx⟩ := y
        rw [List.length_map] at hi
        have ei : ss[i]? = some (ss.getD i 0) := by rw [List.getD_eq_getElem?_getD, List.getElem?_eq_getElem hi]; rfl
        obtain rfl : x = .int (ss.getD i 0) := by
          have hx : (ss.map V.int)[i]? = some x := hx
          rw [List.getElem?_map, ei] at hx
          exact (Option.some.inj hx).symm
        have et : ss.take (i + 1) = ss.take i ++ [ss.getD i 0] := by
          obtain ⟨hk, e⟩ := List.getElem?_eq_some_iff.mp ei
          rw [← List.take_append_getElem hk, e]
        have hc : ss.getD i 0 ∈ ks := pm.mem_iff.mp (List.mem_of_getElem? ei)
        generalize ss.getD i 0 = c at *
        obtain ⟨it, hit, ec⟩ := (mk c).mp hc
        obtain ⟨u, hv, pu⟩ := sd1.val it hit
        rw [ec] at hv pu
        have hv : valV kvs (Sum.inl c : L2.Key) = some (.ref u) := hv
        refine ⟨Same.refl _, rfl, fun Qt hq => ?_, fun pf H4 ys h => ?_, fun pt H4 s4 Q2 hq => ?_⟩
        · walk_at "rs"
          have hd := DGet.k (k := (Sum.inl c : L2.Key)) (s2 _ _ hG1)
          rw [hv] at hd
          refine ⟨_, hd, _, _, dp_pair (Same.seqT s2 pu), dp_pair (T.s_ZERO _), rfl, rfl, _, rfl, ?_⟩
          rw [eqv_pair]
          have e : (!(decide ((accF items [c]).1 = 0) && decide ((accF items [c]).2 = 1))) = decide (accF items [c] ≠ (0, 1)) := by
            by_cases z : accF items [c] = (0, 1)
            · rw [z]; rfl
            · rw [decide_eq_true (p := accF items [c] ≠ (0, 1)) z]
              by_cases z1 : (accF items [c]).1 = 0
              · rw [decide_eq_false fun z2 => z (Prod.ext z1 z2), Bool.and_false]; rfl
              · rw [decide_eq_false z1]; rfl
          rw [e]
          exact hq _ (Same.refl _)
        · rw [et, List.map_append, List.filter_append, List.map_append]
          simp only [List.map_cons, List.map_nil, List.filter_cons, pf, List.filter_nil]
          simpa using h
        · walk_at "rs"
          have hd := DGet.k (k := (Sum.inl c : L2.Key)) (s4 _ _ (s2 _ _ hG1))
          rw [hv] at hd
          refine ⟨_, hd, by decide, fun q5 H5 s5 n5 t5 => hq _ H5 s5 fun ys h => ?_⟩
          rw [et, List.map_append, List.filter_append, List.map_append]
          refine h.app ?_
          simp only [List.map_cons, List.map_nil, List.filter_cons, pt, List.filter_nil, if_true]
          exact .cons (.inl (.inl t5)) (Same.seqT (Same.trans s2 (Same.trans s4 s5)) pu) .nil
      · rw [List.length_map, List.take_length] at r2
        refine ⟨M, rfl, ys, SqL.of h2, fun t H3 s3 t0 t1 => k t ys _ H3 (Same.trans s1 (Same.trans sG (Same.trans s2 s3))) (.inl (.inl t1)) (r2.same s3) nm ?_⟩
        rw [List.length_map]
        exact Nat.lt_of_le_of_lt (List.length_filter_le _ _) (by rw [List.length_map]; omega)
end
end LK

set_option Elab.async false
set_option linter.all false
set_option maxRecDepth 100000
namespace LK
open PySem PySem.Spec PyProof.Rows L2
local macro_rules | `(tactic| walk_at "rs") => `(tactic| simp only [cxK, cxNK, tCallZ, tAsg, tOp, rI0, rS0, rB0, rI, rU, tUn, rEq, rNe, rIxL, rIxT, rIxS, rSetL, rSlLU, rSlS, rSlU, rCatL, rCatU, rRepL, rIn, tVar, tC, gName, gSub, tIfS, tTest, tB, tAnd, tOr, tNot, tNotV, tAndV, tOrV, tIf, tCall, tCons, tNil, tCB, tDrop, tRet, tRetN, tNext, tLstU, tTupU, tM0, tM1, tPar, tPar3, tAug, ipI, tBM, tBM0, rAppend, rPop, tBreak, sDPut, tDGet, tDGet2, tCont, tChain, tSl, tPart, tNoPart, L2.start, List.map, List.length_cons, List.length_nil, List.replicate, List.cons_append, List.nil_append, List.append_nil, List.getElem?_cons_zero, List.getElem?_cons_succ, List.set_cons_zero, List.set_cons_succ, Option.some.injEq, V.int.injEq, V.ref.injEq, V.str.injEq, V.bl.injEq, exists_eq_left', exists_eq_left, exists_and_left, decide_eq_true_eq, List.cons.injEq, and_true, true_and, scal, Bool.not_eq_true', decide_eq_false_iff_not, Nat.zero_add, Nat.reduceAdd, Nat.reduceSub, reduceCtorEq, false_and, exists_false, false_or, or_false, CPow, CPowW, CMul, CDiv, Int.reduceToNat, ↓reduceIte, wipe, sw, List.nil_append, List.singleton_append])
local macro_rules | `(tactic| walk_at "st") => `(tactic| (refine seq_op fun N hN => ?_; walk_at "rs"))
local macro_rules | `(tactic| walk_at "sd") => `(tactic| first | assumption | decide | omega)
local macro_rules | `(tactic| walk_at "rd") => `(tactic| repeat (first
  | refine ⟨_, SqL.of (by assumption), ?_⟩ | refine ⟨_, SqL.of upd_same, ?_⟩ | refine ⟨_, .inl (SqL.of (by assumption)), ?_⟩ | refine ⟨_, (by assumption : _ = some (HO.lst _)), ?_⟩ | refine ⟨_, upd_same, ?_⟩
  | refine ⟨_, rfl, ?_⟩ | refine And.intro (by walk_at "sd") ?_))

theorem inl_inj : ∀ {l m : List Int}, l.map (Sum.inl : Int → L2.Key) = m.map Sum.inl → l = m
  | [], [], _ => rfl
  | [], _ :: _, e => by cases e
  | _ :: _, [], e => by cases e
  | x :: l, y :: m, e => by
    injection e with e1 e2
    injection e1 with e1
    rw [e1, inl_inj e2]
theorem kV_inl (k : List Int) : (k.map (Sum.inl : Int → L2.Key)).map kV = k.map V.int := by rw [List.map_map]; rfl
theorem cd_inj {x y x' y' : Int} (b : TS.Bd 2000 [x, y]) (b' : TS.Bd 2000 [x', y']) (e : cd [x, y] = cd [x', y']) : [x, y] = [x', y'] := by
  have e1 : ∀ a b : Int, cd [a, b] = a * 2000 + b := fun a b => by
    show a * 2000 ^ 1 + (b * 2000 ^ 0 + 0) = _
    omega
  rw [e1, e1] at e
  have h1 := b y (by simp)
  have h2 := b' y' (by simp)
  have : x = x' := by omega
  have : y = y' := by omega
  rw [‹x = x'›, ‹y = y'›]
section
variable {P : Program} {w : World} {K : PySem.W.Frag} {mg : Str → Option Value} {base : Heap}
theorem ok_normal_triples (T : Txt w K mg) : FnOk P w K mg base CX0 5 T.a_normal_triples T.d_normal_triples ["triples"] (sp_norm K 2) := by
  refine T.F_normal_triples.ok sc_normal_triples (fun vs H Q E h => ?_) (fun cdv A outer s H vs Q E hr h => ?_)
  · obtain ⟨a, xs, items, rfl, _⟩ := h
    rfl
  · obtain ⟨a, xs, items, rfl, ha, hi, fit, k⟩ := h
    have hr_plus : Room 4 _ := hr
    have G_plus := ok_plus (P := P) (base := base) T
    have hu1 : (A.deeper (envOfC "normal_triples" (defScope s_normal_triples) s.heap.objs.size T.a_normal_triples cdv)).units + 1 < cLine := Nat.lt_of_le_of_lt (Nat.add_le_add_left (by decide : 1 ≤ 64) _) hr.units
    have lx := hi.len
    refine ⟨_, (pss_cons (ps_set (i := 1) sc_normal_triples.nd rfl (Or.inr rfl) pe_dnewT)
      (pss_cons (ps_for PassesOwn.never rfl (pi_lt (pv 0)) (pg_tup rfl (pgs_cons (pg_name (i := 2) sc_normal_triples.nd rfl (Or.inl rfl)) (pgs_cons (pg_name (i := 3) sc_normal_triples.nd rfl (Or.inl rfl)) (pgs_cons (pg_name (i := 4) sc_normal_triples.nd rfl (Or.inl rfl)) pgs_nil)))) (pss_one (ps_dput hu1 (pv 1) (pe_tupU (pa_cons (pv 2) (pa_cons (pv 3) pa_nil))) (pe_call G_plus hr_plus (by rfl) T.m_plus T.F_plus.kp T.B_plus .nil pass0 (pa_cons (pe_dget2 hu1 (pv 1) (pe_tupU (pa_cons (pv 2) (pa_cons (pv 3) pa_nil))) (pe_glob (v := .ref T.a_ZERO) (by rfl) T.m_ZERO rfl) ⟨rfl, rfl, rfl, rfl⟩) (pa_cons (pv 4) pa_nil))) rfl)))
      (pss_one (ps_ret (pe_callTy call_tupleN (by rfl) T.n_tuple (by decide +kernel) (pa_cons (pe_lc (own := [("pair", 5)]) (g := gName 5) (tt := _) rfl sc_normal_triples.nd (pi_list (pe_callB (call_sortedDT rfl) (by rfl) T.n_sorted (by decide +kernel) (pa_cons (pv 1) pa_nil))) (blkOk_by (own := [("pair", 5)]) (N := N_normal_triples) (sc := defScope s_normal_triples) (by decide +kernel)) (fun _ _ _ _ _ => pg_name (i := 5) sc_normal_triples.nd rfl (Or.inl rfl)) (fun _ _ _ _ _ => pts_one (pt_cmpR (op_neDK (K := K) rfl hr.units) (pe_dget hu1 (pv 1) (pv 5) (fun _ _ => rfl)) (pe_glob (v := .ref T.a_ZERO) (by rfl) T.m_ZERO rfl) (nomark _))) (fun _ _ _ _ _ => (pe_op (op_catUK (K := K) rfl) (pv 5) (pe_tupU (pa_cons (pe_dget hu1 (pv 1) (pv 5) (fun _ _ => rfl)) pa_nil))))) pa_nil)))))), ?_⟩
    refine seq_op fun N hN => ?_
    walk_at "rs"
    refine fun D hD => hN _ _ ?_
    clear hN N
    have s0 : Same H (L2.upd H D (.dT [])) := same_upd hD
    refine cut_seq (fun σ G => ∃ (x2 x3 x4 : Option V) (kvs : List (List L2.Key × V)), σ = [some (.ref a), some (.ref D), x2, x3, x4, none] ∧ Same H G ∧ G D = some (.dT kvs) ∧ SumD (fun k => k.map (Sum.inl : Int → L2.Key)) 2 K G kvs items) (fun N hN => ?_) ?_
    · refine for_lt (K := K) (a := a) (xs := xs) (fun Q q => ⟨_, rfl, q⟩) ha (fun i σ G => ∃ (x2 x3 x4 : Option V) (kvs : List (List L2.Key × V)), σ = [some (.ref a), some (.ref D), x2, x3, x4, none] ∧ Same H G ∧ G D = some (.dT kvs) ∧ SumD (fun k => k.map (Sum.inl : Int → L2.Key)) 2 K G kvs (items.take i)) ⟨_, _, _, [], rfl, s0, upd_same, ⟨?_, ?_, ?_, ?_, ?_⟩⟩ (fun i σ G ⟨_, _, _, _, _, s1, _⟩ => s1) ?_ ?_
      · intro k k' h1 h2 e
        exact inl_inj e
      · intro it hit; simp at hit
      · simp
      · intro x hx; simp at hx
      · intro it hit; simp at hit
      · rintro i x σ G hx ⟨x2, x3, x4, kvs, rfl, s1, hG, sd⟩
        obtain ⟨p, u, ks, f, ex, ee, h1, h2⟩ := hi.get (n := i) (by rw [← lx]; exact (List.getElem?_eq_some_iff.mp hx).1)
        obtain rfl : x = .ref p := by rw [ex] at hx; exact (Option.some.inj hx).symm
        obtain ⟨lf, wf, ld, bd⟩ := fit.it _ (List.mem_of_getElem? ee)
        dsimp only at lf wf ld bd
        obtain ⟨c, d, rfl⟩ : ∃ c d, ks = [c, d] := by
          match ks, ld with
          | [c, d], _ => exact ⟨c, d, rfl⟩
        refine g3_at (Same.seqT s1 h1) ?_
        walk_at "rs"
        have hl : ∀ it ∈ items.take i, low it.2 := fun it hit => (fit.it it (List.mem_of_mem_take hit)).1
        obtain ⟨la, _, wa⟩ := accF_spec hl [c, d]
        have wb : wt (accF (items.take i) [c, d]) ≤ 3900 := Nat.le_trans wa (Nat.le_trans (wtS_take items i [c, d]) (fit.wt [c, d]))
        have es : items.take (i + 1) = items.take i ++ [([c, d], f)] := by
          obtain ⟨hk, e⟩ := List.getElem?_eq_some_iff.mp ee
          rw [← List.take_append_getElem hk, e]
        have kl : kvs.length < sizeLine := by
          have := nodup_len sd.nd (S := items.map fun it => it.1.map (Sum.inl : Int → L2.Key)) fun x hx => by
            obtain ⟨it, hit, e⟩ := sd.key x hx
            exact List.mem_map.mpr ⟨it, List.mem_of_mem_take hit, e.symm⟩
          rw [List.length_map, List.length_map] at this
          exact Nat.lt_of_le_of_lt (Nat.le_trans this fit.len) (by decide)
        refine ⟨.inr ⟨kvs, .inl hG⟩, by decide, fun p1 G1 s2 n1 t1 => ⟨_, DGet.t (k := [Sum.inl c, Sum.inl d]) (s2 _ _ hG) t1, ?_⟩⟩
        have hG1 := s2 _ _ hG
        have pz : ∃ v, (valV kvs ([Sum.inl c, Sum.inl d] : List L2.Key)).getD (V.ref T.a_ZERO) = .ref v ∧ Pr K G1 v (accF (items.take i) [c, d]).1 (accF (items.take i) [c, d]).2 := by
          rcases sd.get (k := [c, d]) rfl with ⟨v, hv, pv⟩ | ⟨hv, ez⟩
          · exact ⟨v, by rw [show valV kvs ([Sum.inl c, Sum.inl d] : List L2.Key) = some (.ref v) from hv]; rfl, Same.seqT s2 pv⟩
          · exact ⟨_, by rw [show valV kvs ([Sum.inl c, Sum.inl d] : List L2.Key) = none from hv]; rfl, by rw [ez]; exact T.s_ZERO G1⟩
        obtain ⟨v, ev, pv⟩ := pz
        rw [ev]
        refine plus_at T pv (Same.seqT (Same.trans s1 s2) h2) la lf (by omega) (by omega) fun t G2 s3 t0 t2 => ⟨by decide, fun p2 G3 s4 n2 t3 => ?_⟩
        have hG3 := s4 _ _ (s3 _ _ hG1)
        have s13 := Same.trans s2 (Same.trans s3 s4)
        have sp := sd.put (it := ([c, d], f)) rfl (H' := L2.upd G3 D (.dT (putK kvs [Sum.inl c, Sum.inl d] (.ref t)))) (t := t) (fun u p q h => seqT_updO (notT_dT hG3) (Same.seqT s13 h)) (seqT_updO (notT_dT hG3) (.inl (.inl (s4 _ _ t2))))
        refine ⟨_, DPut.t (k := [Sum.inl c, Sum.inl d]) hG3 t3 kl, _, _, _, ⟨rfl, rfl, rfl⟩, ?_, _, upd_same, ?_⟩
        · intro b o e
          have ne : b ≠ D := fun z => by rw [z, hD] at e; cases e
          rw [upd_ne ne]
          exact s13 _ _ (s1 _ _ e)
        · rw [es]
          exact sp
      · rintro σ G ⟨x2, x3, x4, kvs, rfl, s1, hG, sd⟩
        rw [lx, List.take_length] at sd
        exact hN _ _ ⟨_, _, _, _, rfl, s1, hG, sd⟩
    · rintro σ G ⟨x2, x3, x4, kvs, rfl, s1, hG, sd⟩
      have hl : ∀ it ∈ items, low it.2 := fun it hit => (fit.it it hit).1
      obtain ⟨S, sS, mS⟩ := fit.few
      have ksE : ∃ ks : List (List Int), kvs.map (·.1) = ks.map (fun k => k.map Sum.inl) ∧ ∀ k ∈ ks, ∃ it ∈ items, it.1 = k := by
        have : ∀ l : List (List L2.Key), (∀ x ∈ l, ∃ it ∈ items, x = it.1.map (Sum.inl : Int → L2.Key)) → ∃ ks : List (List Int), l = ks.map (fun k => k.map Sum.inl) ∧ ∀ k ∈ ks, ∃ it ∈ items, it.1 = k := by
          intro l
          induction l with
          | nil => intro _; exact ⟨[], rfl, fun k hk => by cases hk⟩
          | cons x l ih =>
            intro h
            obtain ⟨it, hit, e⟩ := h x List.mem_cons_self
            obtain ⟨ks, e2, e3⟩ := ih fun y hy => h y (List.mem_cons_of_mem _ hy)
            refine ⟨it.1 :: ks, by rw [List.map_cons, e, e2], fun k hk => ?_⟩
            rcases List.mem_cons.mp hk with rfl | hk
            · exact ⟨it, hit, rfl⟩
            · exact e3 k hk
        exact this _ sd.key
      obtain ⟨ks, eks, mk1⟩ := ksE
      have ndk : ks.Nodup := by
        have := sd.nd
        rw [eks] at this
        exact (List.pairwise_map.mp this).imp fun h e => h (by rw [e])
      have mk : ∀ c, c ∈ ks ↔ ∃ it ∈ items, it.1 = c := fun c => by
        refine ⟨mk1 c, ?_⟩
        rintro ⟨it, hit, rfl⟩
        obtain ⟨u, h1, _⟩ := sd.val it hit
        have := valV_mem h1
        rw [eks] at this
        obtain ⟨y, hy, e2⟩ := List.mem_map.mp this
        rw [← inl_inj e2]; exact hy
      have lk : ks.length < 64 := by
        have := nodup_len (S := S) ndk fun x hx => by
          obtain ⟨it, hit, e⟩ := (mk x).mp hx
          rw [← e]; exact mS it hit
        omega
      have kb : ∀ k ∈ ks, k.length = 2 ∧ TS.Bd 2000 k := fun k hk => by
        obtain ⟨it, hit, e⟩ := (mk k).mp hk
        obtain ⟨_, _, l1, l2⟩ := fit.it it hit
        rw [← e]; exact ⟨l1, l2⟩
      walk_at "rs"
      refine ⟨_, rfl, D, rfl, kvs, .inl hG, ks, eks, lk, 2, by decide, 2000, kb, fun ss p pm hs pw p0 => ?_⟩
      have sG : Same G (L2.upd G p (.lst (ss.map fun q => V.ref q.1))) := same_upd p0
      have hp1 : (L2.upd G p (.lst (ss.map fun q => V.ref q.1))) p = some (.lst (ss.map fun q => V.ref q.1)) := upd_same
      generalize L2.upd G p (.lst (ss.map fun q => V.ref q.1)) = G1 at *
      have sd1 : SumD (fun k => k.map (Sum.inl : Int → L2.Key)) 2 K G1 kvs items := sd.upd fun u p q h => Same.seqT sG h
      have hG1 := sG _ _ hG
      have lss : ss.length = ks.length := by rw [← pm.length_eq, List.length_map]
      have srt : (ss.map (·.2)).Pairwise fun a b => cd a < cd b := by
        have nd := pm.nodup_iff.mpr ndk
        have pw2 : (ss.map (·.2)).Pairwise fun a b => cd a ≤ cd b := List.pairwise_map.mpr pw
        refine (pw2.and nd).imp_of_mem fun {x y} hx hy h => ?_
        refine Int.lt_iff_le_and_ne.mpr ⟨h.1, fun e => h.2 ?_⟩
        obtain ⟨l1, b1⟩ := kb x (pm.mem_iff.mp hx)
        obtain ⟨l2, b2⟩ := kb y (pm.mem_iff.mp hy)
        match x, y, l1, l2, b1, b2, e with
        | [_, _], [_, _], _, _, b1, b2, e => exact cd_inj b1 b2 e
      have nm := norm_of (items := items) (L := ss.map (·.2)) hl srt fun it hit => pm.mem_iff.mpr ((mk it.1).mpr ⟨it, hit, rfl⟩)
      refine ⟨p, rfl, ⟨_, SqL.of hp1⟩, fun M hM => lc_filtR (n := (ss.map fun q => V.ref q.1).length) walk_list (fun i H ys => Its K H ys ((((ss.map fun q : Addr × List Int => q.2).take i).filter fun k => decide (accF items k ≠ (0, 1))).map fun k => (k, accF items k))) (fun i => decide (accF items ((ss.map fun q : Addr × List Int => q.2).getD i []) ≠ (0, 1))) hM (by rw [List.length_map]; omega) (fun i H H' ys s h => h.same s) (fun i H ys zs o hp h => h.updO (notT_lst hp)) (fun H => .nil) (fun H2 s2 => s2.seq (SqL.of hp1)) (fun i x H2 H3 hi s2 y => ?_) (gm_name 5) fun H2 ys s2 h2 r2 => ?_⟩
      · obtain ⟨rfl, hx⟩ := y
        rw [List.length_map] at hi
        have eq : ss[i]? = some ss[i] := List.getElem?_eq_getElem hi
        have ei : (ss.map (·.2))[i]? = some ss[i].2 := by rw [List.getElem?_map, eq]; rfl
        obtain rfl : x = .ref ss[i].1 := by
          have hx : (ss.map fun q => V.ref q.1)[i]? = some x := hx
          rw [List.getElem?_map, eq] at hx
          exact (Option.some.inj hx).symm
        have et : (ss.map (·.2)).take (i + 1) = (ss.map (·.2)).take i ++ [ss[i].2] := by
          obtain ⟨hk, e⟩ := List.getElem?_eq_some_iff.mp ei
          rw [← List.take_append_getElem hk, e]
        have eg : (ss.map (·.2)).getD i [] = ss[i].2 := by rw [List.getD_eq_getElem?_getD, ei]; rfl
        rw [eg]
        have hc : ss[i].2 ∈ ks := pm.mem_iff.mp (List.mem_of_getElem? ei)
        have hq1 := hs ss[i] (List.getElem_mem hi)
        generalize ss[i] = q at *
        obtain ⟨qa, c⟩ := q
        dsimp only at *
        obtain ⟨it, hit, ec⟩ := (mk c).mp hc
        obtain ⟨u, hv, pu⟩ := sd1.val it hit
        rw [ec] at hv pu
        have hv : valV kvs (c.map (Sum.inl : Int → L2.Key)) = some (.ref u) := hv
        have hqk : G1 qa = some (.tup ((c.map (Sum.inl : Int → L2.Key)).map kV)) := by rw [kV_inl]; exact sG _ _ hq1
        refine ⟨Same.refl _, rfl, fun Qt hq => ?_, fun pf H4 ys h => ?_, fun pt H4 s4 Q2 hq => ?_⟩
        · walk_at "rs"
          have hd := DGet.t (k := c.map (Sum.inl : Int → L2.Key)) (s2 _ _ hG1) (s2 _ _ hqk)
          rw [hv] at hd
          refine ⟨_, hd, _, _, dp_pair (Same.seqT s2 pu), dp_pair (T.s_ZERO _), rfl, rfl, _, rfl, ?_⟩
          rw [eqv_pair]
          have e : (!(decide ((accF items c).1 = 0) && decide ((accF items c).2 = 1))) = decide (accF items c ≠ (0, 1)) := by
            by_cases z : accF items c = (0, 1)
            · rw [z]; rfl
            · rw [decide_eq_true (p := accF items c ≠ (0, 1)) z]
              by_cases z1 : (accF items c).1 = 0
              · rw [decide_eq_false fun z2 => z (Prod.ext z1 z2), Bool.and_false]; rfl
              · rw [decide_eq_false z1]; rfl
          rw [e]
          exact hq _ (Same.refl _)
        · rw [et, List.filter_append, List.map_append]
          simp only [List.map_nil, List.filter_cons, pf, List.filter_nil]
          simpa using h
        · walk_at "rs"
          have s24 := Same.trans s2 s4
          have hd := DGet.t (k := c.map (Sum.inl : Int → L2.Key)) (s24 _ _ hG1) (s24 _ _ hqk)
          rw [hv] at hd
          refine ⟨_, hd, by decide, fun q5 H5 s5 n5 t5 => ⟨_, .inl (.inl (s5 _ _ (s24 _ _ (sG _ _ hq1)))), _, .inl (.inl t5), ?_, fun q6 H6 s6 hq6 => hq _ H6 (Same.trans s5 s6) fun ys h => ?_⟩⟩
          · rw [List.length_map, (kb c hc).1]
            exact (show 2 + 1 ≤ sizeLine by decide)
          · rw [et, List.filter_append, List.map_append]
            refine h.app ?_
            simp only [List.map_cons, List.map_nil, List.filter_cons, pt, List.filter_nil, if_true]
            exact .cons hq6 (Same.seqT (Same.trans s24 (Same.trans s5 s6)) pu) .nil
      · rw [List.length_map, show ss.length = (ss.map (·.2)).length from (List.length_map ..).symm, List.take_length] at r2
        refine ⟨M, rfl, ys, SqL.of h2, fun t H3 s3 t0 t1 => k t ys _ H3 (Same.trans s1 (Same.trans sG (Same.trans s2 s3))) (.inl (.inl t1)) (r2.same s3) nm ?_⟩
        rw [List.length_map]
        exact Nat.lt_of_le_of_lt (List.length_filter_le _ _) (by rw [List.length_map]; omega)
end
end LK

set_option Elab.async false
set_option linter.all false
set_option maxRecDepth 100000
namespace LK
open PySem PySem.Spec PyProof.Rows L2
local macro_rules | `(tactic| walk_at "rs") => `(tactic| simp only [cxK, cxNK, tCallZ, tAsg, tOp, rI0, rS0, rB0, rI, rU, tUn, rEq, rNe, rIxL, rIxT, rIxS, rSetL, rSlLU, rSlS, rSlU, rCatL, rCatU, rRepL, rIn, tVar, tC, gName, gSub, tIfS, tTest, tB, tAnd, tOr, tNot, tNotV, tAndV, tOrV, tIf, tCall, tCons, tNil, tCB, tDrop, tRet, tRetN, tNext, tLstU, tTupU, tM0, tM1, tPar, tPar3, tAug, ipI, tBM, tBM0, rAppend, rPop, tBreak, sDPut, tDGet, tDGet2, tCont, tChain, tSl, tPart, tNoPart, L2.start, List.map, List.length_cons, List.length_nil, List.replicate, List.cons_append, List.nil_append, List.append_nil, List.getElem?_cons_zero, List.getElem?_cons_succ, List.set_cons_zero, List.set_cons_succ, Option.some.injEq, V.int.injEq, V.ref.injEq, V.str.injEq, V.bl.injEq, exists_eq_left', exists_eq_left, exists_and_left, decide_eq_true_eq, List.cons.injEq, and_true, true_and, scal, Bool.not_eq_true', decide_eq_false_iff_not, Nat.zero_add, Nat.reduceAdd, Nat.reduceSub, reduceCtorEq, false_and, exists_false, false_or, or_false, CPow, CPowW, CMul, CDiv, Int.reduceToNat, ↓reduceIte, wipe, sw, List.nil_append, List.singleton_append])
local macro_rules | `(tactic| walk_at "st") => `(tactic| (refine seq_op fun N hN => ?_; walk_at "rs"))
local macro_rules | `(tactic| walk_at "sd") => `(tactic| first | assumption | decide | omega)
local macro_rules | `(tactic| walk_at "rd") => `(tactic| repeat (first
  | refine ⟨_, SqL.of (by assumption), ?_⟩ | refine ⟨_, SqL.of upd_same, ?_⟩ | refine ⟨_, .inl (SqL.of (by assumption)), ?_⟩ | refine ⟨_, (by assumption : _ = some (HO.lst _)), ?_⟩ | refine ⟨_, upd_same, ?_⟩
  | refine ⟨_, rfl, ?_⟩ | refine And.intro (by walk_at "sd") ?_))

/-- a list that is not of the bag's form stays over draws -/
theorem seqL_kp {K : PySem.W.Frag} {N : Nat} {H H' : Hp} {b c q : Addr} {xs : List V} (B : Bag N H b c) (k : Kp b H H') (n : ∀ (p : Addr) (i : Int) (ys : List V), xs ≠ .ref p :: .int i :: ys) (h : SqL K H q xs) : SqL K H' q xs := by
  obtain ⟨cells, i, g, m, d, hb1, _⟩ := B
  rcases h with (h | ⟨u, h⟩) | h
  · have ne : q ≠ b := fun e => by
      rw [e, hb1] at h
      cases h
      exact n _ _ _ rfl
    exact .inl (.inl (k.hd h ne))
  · have ne : q ≠ b := fun e => by rw [e, hb1] at h; cases h
    exact .inl (.inr ⟨u, k.hd h ne⟩)
  · exact .inr h
theorem Its.refs {K : PySem.W.Frag} {H : Hp} : ∀ {xs : List V} {its : List It}, Its K H xs its → ∀ v ∈ xs, ∃ a, v = .ref a
  | _, _, .nil => fun v hv => absurd hv (by simp)
  | _, _, .cons _ _ q => fun v hv => by
    rcases List.mem_cons.mp hv with rfl | hv
    · exact ⟨_, rfl⟩
    · exact q.refs v hv
theorem Its.noBag {K : PySem.W.Frag} {H : Hp} {xs : List V} {its : List It} (h : Its K H xs its) (p : Addr) (i : Int) (ys : List V) : xs ≠ .ref p :: .int i :: ys := fun e => by
  obtain ⟨a, ha⟩ := h.refs (.int i) (by rw [e]; simp)
  cases ha
def SeqI (K : PySem.W.Frag) (H : Hp) (a : Addr) (xs : List V) : Prop := SqL K H a xs ∨ SqT K H a xs
theorem SeqI.same {K : PySem.W.Frag} {H H' : Hp} {a : Addr} {xs : List V} (s : Same H H') (h : SeqI K H a xs) : SeqI K H' a xs := h.imp s.seq (Same.seqT s)
theorem SeqI.kp {K : PySem.W.Frag} {N : Nat} {H H' : Hp} {b c a : Addr} {xs : List V} {its : List It} (B : Bag N H b c) (k : Kp b H H') (i : Its K H xs its) (h : SeqI K H a xs) : SeqI K H' a xs := h.imp (seqL_kp B k i.noBag) (seqT_kp B k)
section
variable {P : Program} {w : World} {K : PySem.W.Frag} {mg : Str → Option Value} {base : Heap}
def sp_call (K : PySem.W.Frag) : Sp := fun vs H Q _ => ∃ (b c a : Addr) (d N : Nat) (xs : List V) (items : List It), vs = [.ref b, .int (d : Int), .ref a] ∧ Bag (N + 1) H b c ∧ (d = 1 ∨ d = 2) ∧ SeqI K H a xs ∧ Its K H xs items ∧ Fit d items ∧
  ∀ (t : Addr) (ys : List V) (its' : List It) H', Bag N H' b c → Kp b H H' → SqT K H' t ys → Its K H' ys its' → Norm (accR items) its' → its'.length < 64 → Q (.ref t) H'
theorem ok__law_call (T : Txt w K mg) : FnOk P w K mg base CX0 6 T.a__law_call T.d__law_call ["bag", "many", "items"] (sp_call K) := by
  refine T.F__law_call.ok sc__law_call (fun vs H Q E h => ?_) (fun cdv A outer s H vs Q E hr h => ?_)
  · obtain ⟨b, c, a, d, N, xs, items, rfl, _⟩ := h
    rfl
  · obtain ⟨b, c, a, d, N0, xs, items, rfl, B, hd, ha, hi, fit, k⟩ := h
    have hr_normal_entries : Room 5 _ := hr
    have G_normal_entries := ok_normal_entries (P := P) (base := base) T
    have hr_normal_triples : Room 5 _ := hr
    have G_normal_triples := ok_normal_triples (P := P) (base := base) T
    have hr__law_draw : Room 1 _ := hr.mono (by decide)
    have G__law_draw := ok__law_draw (P := P) (base := base) T
    refine ⟨_, (pss_cons (ps_if (pt_cmpR op_eqI (pv 1) pe_int (nomark _)) (pss_one (ps_ret (pe_ifExp (pt_cmpR op_eqI (pe_call G__law_draw hr__law_draw (by rfl) T.m__law_draw T.F__law_draw.kp T.B__law_draw .nil pass0 (pa_cons (pv 0) (pa_cons pe_int pa_nil))) pe_int (nomark _)) (pe_callZ (g := fun ws => ws) (gV := fun zs => zs) G_normal_entries hr_normal_entries (by rfl) T.m_normal_entries T.F_normal_entries.kp T.Z_normal_entries pass0 (pk_cons (pv 2) pk_nil)) (pe_call G_normal_entries hr_normal_entries (by rfl) T.m_normal_entries T.F_normal_entries.kp T.B_normal_entries .nil pass0 (pa_cons (pv 2) pa_nil))))) pss_nil)
      (pss_one (ps_ret (pe_ifExp (pt_cmpR op_eqI (pe_call G__law_draw hr__law_draw (by rfl) T.m__law_draw T.F__law_draw.kp T.B__law_draw .nil pass0 (pa_cons (pv 0) (pa_cons pe_int pa_nil))) pe_int (nomark _)) (pe_callZ (g := fun ws => ws) (gV := fun zs => zs) G_normal_triples hr_normal_triples (by rfl) T.m_normal_triples T.F_normal_triples.kp T.Z_normal_triples pass0 (pk_cons (pv 2) pk_nil)) (pe_call G_normal_triples hr_normal_triples (by rfl) T.m_normal_triples T.F_normal_triples.kp T.B_normal_triples .nil pass0 (pa_cons (pv 2) pa_nil)))))), ?_⟩
    have go : ∀ (r : Int) (H1 : Hp), Bag N0 H1 b c → Kp b H H1 → sp_norm K d [.ref a] H1 Q E0 := fun r H1 B1 K1 => ⟨a, xs, items, rfl, ha.kp B K1 hi, hi.kp B K1, fit, fun t ys its' H2 s2 h1 h2 nm l => k t ys its' H2 (B1.same s2) (Same.trans K1 (Kp.of s2)) h1 h2 nm l⟩
    refine seq_op fun N hN => ?_
    walk_at "rs"
    rcases hd with rfl | rfl
    · exact iteTT rfl ⟨b, c, 4, N0, rfl, B, by decide, by decide, fun r H1 _ _ B1 K1 => ⟨r, rfl, ite2 (fun _ => go r H1 B1 K1) (fun _ => go r H1 B1 K1)⟩⟩
    · refine iteFF (by decide) (hN _ _ ?_)
      clear hN N
      walk_at "rs"
      exact ⟨b, c, 4, N0, rfl, B, by decide, by decide, fun r H1 _ _ B1 K1 => ⟨r, rfl, ite2 (fun _ => go r H1 B1 K1) (fun _ => go r H1 B1 K1)⟩⟩
end
end LK

set_option Elab.async false
set_option linter.all false
set_option maxRecDepth 100000
namespace LK
open PySem PySem.Spec PyProof.Rows L2
local macro_rules | `(tactic| walk_at "rs") => `(tactic| simp only [cxK, cxNK, tCallZ, tAsg, tOp, rI0, rS0, rB0, rI, rU, tUn, rEq, rNe, rIxL, rIxT, rIxS, rSetL, rSlLU, rSlS, rSlU, rCatL, rCatU, rRepL, rIn, tVar, tC, gName, gSub, tIfS, tTest, tB, tAnd, tOr, tNot, tNotV, tAndV, tOrV, tIf, tCall, tCons, tNil, tCB, tDrop, tRet, tRetN, tNext, tLstU, tTupU, tM0, tM1, tPar, tPar3, tAug, ipI, tBM, tBM0, rAppend, rPop, tBreak, sDPut, tDGet, tDGet2, tCont, tChain, tSl, tPart, tNoPart, L2.start, List.map, List.length_cons, List.length_nil, List.replicate, List.cons_append, List.nil_append, List.append_nil, List.getElem?_cons_zero, List.getElem?_cons_succ, List.set_cons_zero, List.set_cons_succ, Option.some.injEq, V.int.injEq, V.ref.injEq, V.str.injEq, V.bl.injEq, exists_eq_left', exists_eq_left, exists_and_left, decide_eq_true_eq, List.cons.injEq, and_true, true_and, scal, Bool.not_eq_true', decide_eq_false_iff_not, Nat.zero_add, Nat.reduceAdd, Nat.reduceSub, reduceCtorEq, false_and, exists_false, false_or, or_false, CPow, CPowW, CMul, CDiv, Int.reduceToNat, ↓reduceIte, wipe, sw, List.nil_append, List.singleton_append])
local macro_rules | `(tactic| walk_at "st") => `(tactic| (refine seq_op fun N hN => ?_; walk_at "rs"))
local macro_rules | `(tactic| walk_at "sd") => `(tactic| first | assumption | decide | omega)
local macro_rules | `(tactic| walk_at "rd") => `(tactic| repeat (first
  | refine ⟨_, SqL.of (by assumption), ?_⟩ | refine ⟨_, SqL.of upd_same, ?_⟩ | refine ⟨_, .inl (SqL.of (by assumption)), ?_⟩ | refine ⟨_, (by assumption : _ = some (HO.lst _)), ?_⟩ | refine ⟨_, upd_same, ?_⟩
  | refine ⟨_, rfl, ?_⟩ | refine And.intro (by walk_at "sd") ?_))

theorem Kp.get {b p : Addr} {H H' : Hp} {o : HO} (k : Kp b H H') (n : p ≠ b) (h : H p = some o) : H' p = some o := k.hd h n
theorem Kp.upd2 {b p : Addr} {H H' : Hp} {o : HO} (k : Kp b H H') (h : H p = none) : Kp b H (L2.upd H' p o) := fun a u e => by
  obtain ⟨n1, e1⟩ := hb_some e
  have n : a ≠ p := fun z => by rw [z, h] at e1; cases e1
  rw [hb_ne n1, upd_ne n]
  have := k a u e
  rw [hb_ne n1] at this
  exact this
theorem ints_all {w : Int} : ∀ {ys : List V}, (∀ v ∈ ys, ∃ j : Int, v = .int j ∧ 0 ≤ j ∧ j < w) → ∃ k : List Int, ys = k.map V.int ∧ TS.Bd w k
  | [], _ => ⟨[], rfl, fun m hm => by cases hm⟩
  | v :: ys, h => by
    obtain ⟨j, rfl, j0, j1⟩ := h v List.mem_cons_self
    obtain ⟨k, rfl, hk⟩ := ints_all (ys := ys) fun u hu => h u (List.mem_cons_of_mem _ hu)
    refine ⟨j :: k, rfl, fun m hm => ?_⟩
    rcases List.mem_cons.mp hm with rfl | hm
    · exact ⟨j0, j1⟩
    · exact hk m hm
/-- items that are drawn -/
structure IG (d : Nat) (w : Int) (items : List It) : Prop where
  it : ∀ x ∈ items, okB 1000000000000000000 1000000000000000000 x.2 ∧ x.1.length = d ∧ TS.Bd w x.1
theorem IG.nil {d : Nat} {w : Int} : IG d w [] := ⟨fun x hx => by cases hx⟩
theorem IG.app {d : Nat} {w : Int} {a b : List It} (h : IG d w a) (g : IG d w b) : IG d w (a ++ b) := ⟨fun x hx => (List.mem_append.mp hx).elim (h.it x) (g.it x)⟩
theorem IG.one {d : Nat} {w : Int} {k : List Int} {f : Fr} (l : k.length = d) (b : TS.Bd w k) (o : okB 1000000000000000000 1000000000000000000 f) : IG d w [(k, f)] := ⟨fun x hx => by
  obtain rfl := List.mem_singleton.mp hx
  exact ⟨o, l, b⟩⟩
/-- few spots -/
def Few (n : Nat) (items : List It) : Prop := ∃ S : List (List Int), S.length ≤ n ∧ ∀ x ∈ items, x.1 ∈ S
theorem Few.nil : Few 0 [] := ⟨[], Nat.le_refl _, fun x hx => by cases hx⟩
theorem Few.le {n m : Nat} {a : List It} (h : Few n a) (l : n ≤ m) : Few m a := let ⟨S, h1, h2⟩ := h; ⟨S, Nat.le_trans h1 l, h2⟩
theorem Few.app {n m : Nat} {a b : List It} (h : Few n a) (g : Few m b) : Few (n + m) (a ++ b) := by
  obtain ⟨S, h1, h2⟩ := h
  obtain ⟨T, g1, g2⟩ := g
  refine ⟨S ++ T, by rw [List.length_append]; omega, fun x hx => ?_⟩
  rcases List.mem_append.mp hx with hx | hx
  · exact List.mem_append_left _ (h2 x hx)
  · exact List.mem_append_right _ (g2 x hx)
/-- one spot more, whatever stands there -/
theorem Few.spot {n : Nat} {a b : List It} {k : List Int} (h : Few n a) (e : ∀ x ∈ b, x ∈ a ∨ x.1 = k) : Few (n + 1) b := by
  obtain ⟨S, h1, h2⟩ := h
  refine ⟨k :: S, by rw [List.length_cons]; omega, fun x hx => ?_⟩
  rcases e x hx with hx | hx
  · exact List.mem_cons_of_mem _ (h2 x hx)
  · rw [hx]; exact List.mem_cons_self
section
variable {P : Program} {w : World} {K : PySem.W.Frag} {mg : Str → Option Value} {base : Heap}
def sp_items (K : PySem.W.Frag) : Sp := fun vs H Q _ => ∃ (b c : Addr) (N d m : Nat) (wd : Int), vs = [.ref b, .int (d : Int), .int wd, .int (m : Int)] ∧ Bag (N + 1 + m * 17) H b c ∧ 1 ≤ d ∧ d ≤ 2 ∧ 0 < wd ∧ wd ≤ 2000 ∧ m ≤ 9 ∧
  ∀ (p : Addr) (xs : List V) (items : List It) H', Bag N H' b c → Kp b H H' → H p = none → H' p = some (.lst xs) → Its K H' xs items → IG d wd items → items.length ≤ 2 * m → Few m items → Q (.ref p) H'
theorem ok__law_items (T : Txt w K mg) : FnOk P w K mg base CX0 4 T.a__law_items T.d__law_items ["bag", "many", "width", "most"] (sp_items K) := by
  refine T.F__law_items.ok sc__law_items (fun vs H Q E h => ?_) (fun cdv A outer s H vs Q E hr h => ?_)
  · obtain ⟨b, c, N, d, m, wd, rfl, _⟩ := h
    rfl
  · obtain ⟨b, c, N0, d, m, wd, rfl, B, d1, d2, w0, w1, m9, k⟩ := h
    have hr__law_draw : Room 1 _ := hr.mono (by decide)
    have G__law_draw := ok__law_draw (P := P) (base := base) T
    have hr__law_factor : Room 3 _ := hr
    have G__law_factor := ok__law_factor (P := P) (base := base) T
    refine ⟨_, (pss_cons (ps_set (i := 4) sc__law_items.nd rfl (Or.inl rfl) (pe_lstU pa_nil))
      (pss_cons (ps_for PassesOwn.never rfl (pi_range1 (by rfl) T.n_range (pa_cons (pe_call G__law_draw hr__law_draw (by rfl) T.m__law_draw T.F__law_draw.kp T.B__law_draw .nil pass0 (pa_cons (pv 0) (pa_cons (pe_op op_add (pv 3) pe_int) pa_nil))) pa_nil)) (pg_name (i := 5) sc__law_items.nd rfl (Or.inl rfl)) (pss_cons (ps_set (i := 6) sc__law_items.nd rfl (Or.inl rfl) (pe_callTy call_tupleN (by rfl) T.n_tuple (by decide +kernel) (pa_cons (pe_lc (own := [("j", 9)]) (g := gName 9) (tt := tYes) rfl sc__law_items.nd (pi_range1 (by rfl) T.n_range (pa_cons (pv 1) pa_nil)) (blkOk_by (own := [("j", 9)]) (N := N__law_items) (sc := defScope s__law_items) (by decide +kernel)) (fun _ _ _ _ _ => pg_name (i := 9) sc__law_items.nd rfl (Or.inl rfl)) (fun _ _ _ _ _ => pts_nil) (fun _ _ _ _ _ => (pe_call G__law_draw hr__law_draw (by rfl) T.m__law_draw T.F__law_draw.kp T.B__law_draw .nil pass0 (pa_cons (pv 0) (pa_cons (pv 2) pa_nil))))) pa_nil)))
      (pss_cons (ps_set (i := 7) sc__law_items.nd rfl (Or.inl rfl) (pe_call G__law_factor hr__law_factor (by rfl) T.m__law_factor T.F__law_factor.kp T.B__law_factor .nil pass0 (pa_cons (pv 0) pa_nil)))
      (pss_cons (ps_expr (pe_bm PySem.F.plainAttrs_list PySem.F.slot_list_append PySem.F.type_list_append mt_append (pv 4) (pa_cons (pe_op op_catU (pv 6) (pe_tupU (pa_cons (pv 7) pa_nil))) pa_nil)))
      (pss_cons (ps_set (i := 8) sc__law_items.nd rfl (Or.inl rfl) (pe_call G__law_draw hr__law_draw (by rfl) T.m__law_draw T.F__law_draw.kp T.B__law_draw .nil pass0 (pa_cons (pv 0) (pa_cons pe_int pa_nil))))
      (pss_one (ps_if (pt_cmpR op_eqI (pv 8) pe_int (nomark _)) (pss_one (ps_expr (pe_bm PySem.F.plainAttrs_list PySem.F.slot_list_append PySem.F.type_list_append mt_append (pv 4) (pa_cons (pe_op op_catU (pv 6) (pe_tupU (pa_cons (pe_tupU (pa_cons (pe_un un_neg (pe_ix ix_tup (pv 7) pe_int (fun _ _ => rfl))) (pa_cons (pe_ix ix_tup (pv 7) pe_int (fun _ _ => rfl)) pa_nil))) pa_nil))) pa_nil)))) (pss_one (ps_if (pt_cmpR op_eqI (pv 8) pe_int (nomark _)) (pss_one (ps_expr (pe_bm PySem.F.plainAttrs_list PySem.F.slot_list_insert PySem.F.type_list_insert mt_insert (pv 4) (pa_cons pe_int (pa_cons (pe_op op_catU (pv 6) (pe_tupU (pa_cons (pe_call G__law_factor hr__law_factor (by rfl) T.m__law_factor T.F__law_factor.kp T.B__law_factor .nil pass0 (pa_cons (pv 0) pa_nil)) pa_nil))) pa_nil))))) pss_nil)))))))))
      (pss_one (ps_ret (pv 4))))), ?_⟩
    refine seq_op fun N hN => ?_
    walk_at "rs"
    refine ⟨by decide, fun p H1 s1 p0 p1 => hN _ _ ?_⟩
    clear hN N
    have B1 := B.same s1
    have pb := new_ne B p0
    have pc : c ≠ p := fun e => by
      obtain ⟨xc, ec⟩ := B.at2
      rw [← e, ec] at p0; cases p0
    refine cut_seq (fun σ H2 => ∃ (x5 x6 x7 x8 : Option V) (xs : List V) (items : List It), σ = [some (.ref b), some (.int (d : Int)), some (.int wd), some (.int (m : Int)), some (.ref p), x5, x6, x7, x8, none] ∧ Bag N0 H2 b c ∧ Kp b H H2 ∧ H2 p = some (.lst xs) ∧ Its K H2 xs items ∧ IG d wd items ∧ items.length ≤ 2 * m ∧ Few m items) (fun N hN => ?_) ?_
    · walk_at "rs"
      refine ⟨_, rfl, _, rfl, (m : Int), 1, rfl, rfl, b, c, (m : Int) + 1, N0 + m * 17, rfl, B1.le (by omega), by omega, by omega, fun r H2 r0 r1 B2 K2 => ⟨r, rfl, by omega, by omega, for_range (lo := 0) (n := r.toNat) (fun i σ H3 => ∃ (x5 x6 x7 x8 : Option V) (xs : List V) (items : List It), σ = [some (.ref b), some (.int (d : Int)), some (.int wd), some (.int (m : Int)), some (.ref p), x5, x6, x7, x8, none] ∧ Bag (N0 + (m - i) * 17) H3 b c ∧ Kp b H H3 ∧ H3 p = some (.lst xs) ∧ Its K H3 xs items ∧ IG d wd items ∧ items.length ≤ 2 * i ∧ Few i items) ⟨_, _, _, _, [], [], rfl, B2.le (by omega), Same.trans (Kp.of s1) K2, Kp.get K2 pb p1, .nil, .nil, Nat.le_refl _, .nil⟩ ?_ ?_⟩⟩
      · rintro i σ H3 hi ⟨x5, x6, x7, x8, xs, items, rfl, B3, K3, h3, he, ig, il, fw⟩
        have e17 : (m - i) * 17 = (m - (i + 1)) * 17 + 17 := by omega
        rw [e17] at B3
        refine seq_op fun N hN => ?_
        walk_at "rs"
        have B3' : Bag ((N0 + (m - (i + 1)) * 17 + 15) + (d : Int).toNat * 1) H3 b c := B3.le (by omega)
        refine ⟨_, rfl, (d : Int), rfl, by omega, by omega, fun D hD => lc_draw (n := (d : Int).toNat) walk_range (fun _ v => ∃ j : Int, v = V.int j ∧ 0 ≤ j ∧ j < wd) (fun _ _ _ _ h => h) hD B3' (by omega) (fun _ _ _ _ y => y.1) (fun _ _ => trivial) (fun x H4 M K4 B4 Q2 hq => ?_) fun H4 ys B4 K4 hD4 hl4 hy4 => ?_⟩
        · exact ⟨_, rfl, _, rfl, b, c, wd, M, rfl, B4, w0, by omega, fun r1 H5 r10 r11 B5 K5 => hq _ _ B5 K5 ⟨r1, rfl, r10, r11⟩⟩
        · obtain ⟨ks, rfl, bk⟩ := ints_all hy4
          rw [List.length_map, Int.toNat_natCast] at hl4
          refine ⟨D, rfl, _, SqL.of hD4, fun q5 H5 s5 q50 q51 => hN _ _ ?_⟩
          clear hN N
          refine seq_op fun N hN => ?_
          walk_at "rs"
          refine ⟨b, c, N0 + (m - (i + 1)) * 17 + 8, rfl, B4.same s5, fun tf f H6 okf t0 t1 B6 K6 => hN _ _ ?_⟩
          clear hN N
          have B5 := B4.same s5
          have K36 : Kp b H3 H6 := Same.trans K4 (Same.trans (Kp.of s5) K6)
          have h36 := Kp.get K36 pb h3
          have hq6 : SqT K H6 q5 (ks.map V.int) := seqT_kp B5 K6 (.inl (.inl q51))
          have he6 := he.kp B3 K36
          have lx := he.len
          refine seq_op fun N hN => ?_
          walk_at "rs"
          have lks : (ks.map V.int).length + 1 ≤ 10 := by rw [List.length_map]; omega
          refine ⟨.inl ⟨rfl, _, SqL.of h36⟩, by decide, fun p7 H7 s7 n7 t7 => ⟨_, Same.seqT s7 hq6, _, .inl (.inl t7), Nat.le_trans lks (by decide), fun q8 H8 s8 hq8 => ⟨xs, s8 _ _ (s7 _ _ h36), Nat.lt_of_le_of_lt (show xs.length ≤ 1000 by omega) (by decide), hN _ _ ?_⟩⟩⟩
          clear hN N
          have s78 := Same.trans s7 s8
          have h8 := s78 _ _ h36
          have nt := notT_lst h8
          have B9 := (B6.same s78).upd (o := .lst (xs ++ [.ref q8])) (Ne.symm pb) pc
          have K9 : Kp b H (L2.upd H8 p (.lst (xs ++ [.ref q8]))) := Kp.upd2 (Same.trans K3 (Same.trans K36 (Kp.of s78))) p0
          have h9 : (L2.upd H8 p (.lst (xs ++ [.ref q8]))) p = some (.lst (xs ++ [.ref q8])) := upd_same
          have he9 : Its K (L2.upd H8 p (.lst (xs ++ [.ref q8]))) (xs ++ [.ref q8]) (items ++ [(ks, f)]) := ((he6.same s78).updO nt).app (.cons (seqT_updO nt hq8) (seqT_updO nt (.inl (.inl (s78 _ _ t1)))) .nil)
          have hq9 : SqT K (L2.upd H8 p (.lst (xs ++ [.ref q8]))) q5 (ks.map V.int) := seqT_updO nt (Same.seqT s78 hq6)
          have tf9 : Pr K (L2.upd H8 p (.lst (xs ++ [.ref q8]))) tf f.1 f.2 := seqT_updO nt (.inl (.inl (s78 _ _ t1)))
          generalize L2.upd H8 p (.lst (xs ++ [.ref q8])) = H9 at *
          have ig9 := ig.app (IG.one hl4 bk okf)
          have fw9 : Few (i + 1) (items ++ [(ks, f)]) := fw.spot (k := ks) fun x hx => by
            rcases List.mem_append.mp hx with hx | hx
            · exact .inl hx
            · exact .inr (by rw [List.mem_singleton.mp hx])
          refine seq_op fun N hN => ?_
          walk_at "rs"
          refine ⟨b, c, 8, N0 + (m - (i + 1)) * 17 + 7, rfl, B9, by decide, by decide, fun r2 H10 _ _ B10 K10 => hN _ _ ?_⟩
          clear hN N
          have h10 := Kp.get K10 pb h9
          have he10 := he9.kp B9 K10
          have hq10 := seqT_kp B9 K10 hq9
          have tf10 : Pr K H10 tf f.1 f.2 := seqT_kp B9 K10 tf9
          have K10' := Same.trans K9 K10
          walk_at "rs"
          refine ite2 (fun _ => ?_) (fun _ => ite2 (fun _ => ?_) (fun _ => ?_))
          · have of' : okB 1000000000000000000 1000000000000000000 ((-f.1, f.2) : Fr) := ⟨okf.1, by rw [Int.natAbs_neg]; exact okf.2.1, by rw [Int.natAbs_neg]; exact okf.2.2.1, okf.2.2.2⟩
            refine ⟨.inl ⟨rfl, _, SqL.of h10⟩, _, tf10, _, rfl, _, rfl, _, tf10, _, rfl, by decide, fun p1 J1 u1 n1 t1 => ⟨by decide, fun p2 J2 u2 n2 t2 => ⟨_, Same.seqT (Same.trans u1 u2) hq10, _, .inl (.inl t2), Nat.le_trans lks (by decide), fun q3 J3 u3 hq3 => ?_⟩⟩⟩
            have v3 := Same.trans u1 (Same.trans u2 u3)
            have j3 := v3 _ _ h10
            have nt3 := notT_lst j3
            refine ⟨_, j3, Nat.lt_of_le_of_lt (show _ ≤ 1000 by rw [List.length_append]; simp only [List.length_cons, List.length_nil]; omega) (by decide), _, _, _, _, ⟨rfl, rfl, rfl, rfl⟩, ((B10.same v3).le (by omega)).upd (Ne.symm pb) pc, Kp.upd2 (Same.trans K10' (Kp.of v3)) p0, _, upd_same, items ++ [(ks, f)] ++ [(ks, (-f.1, f.2))], ((he10.same v3).updO nt3).app (.cons (seqT_updO nt3 hq3) (seqT_updO nt3 (.inl (.inl (Same.trans u2 u3 _ _ t1)))) .nil), ig9.app (IG.one hl4 bk of'), by simp only [List.length_append, List.length_cons, List.length_nil]; omega, fw.spot (k := ks) fun x hx => ?_⟩
            simp only [List.mem_append, List.mem_cons, List.not_mem_nil, or_false] at hx
            rcases hx with (hx | rfl) | rfl
            · exact .inl hx
            · exact .inr rfl
            · exact .inr rfl
          · refine ⟨.inl ⟨rfl, _, SqL.of h10⟩, b, c, N0 + (m - (i + 1)) * 17, rfl, B10.le (by omega), fun t2 f2 G okf2 t20 t21 BG KG => ⟨by decide, fun p2 J2 u2 n2 v2 => ⟨_, Same.seqT u2 (seqT_kp B10 KG hq10), _, .inl (.inl v2), Nat.le_trans lks (by decide), fun q3 J3 u3 hq3 => ?_⟩⟩⟩
            have v3 := Same.trans u2 u3
            have j3 := v3 _ _ (Kp.get KG pb h10)
            have nt3 := notT_lst j3
            refine ⟨_, _, _, ⟨rfl, rfl⟩, j3, Nat.lt_of_le_of_lt (show _ ≤ 1000 by rw [List.length_append]; simp only [List.length_cons, List.length_nil]; omega) (by decide), by decide, by decide, _, _, _, _, ⟨rfl, rfl, rfl, rfl⟩, (BG.same v3).upd (Ne.symm pb) pc, Kp.upd2 (Same.trans K10' (Same.trans KG (Kp.of v3))) p0, _, upd_same, (ks, f2) :: (items ++ [(ks, f)]), ?_, ?_, by simp only [List.length_append, List.length_cons, List.length_nil]; omega, fw.spot (k := ks) fun x hx => ?_⟩
            · show Its K _ (.ref q3 :: (xs ++ [.ref q8])) _
              exact .cons (seqT_updO nt3 hq3) (seqT_updO nt3 (.inl (.inl (v3 _ _ t21)))) (((he10.kp B10 KG).same v3).updO nt3)
            · exact (IG.one hl4 bk okf2).app ig9
            · simp only [List.mem_append, List.mem_cons, List.not_mem_nil, or_false] at hx
              rcases hx with rfl | hx | rfl
              · exact .inr rfl
              · exact .inl hx
              · exact .inr rfl
          · exact ⟨_, _, _, _, ⟨rfl, rfl, rfl, rfl⟩, B10.le (by omega), K10', _, h10, _, he10, ig9, by simp only [List.length_append, List.length_cons, List.length_nil]; omega, fw9⟩
      · rintro σ H3 ⟨x5, x6, x7, x8, xs, items, rfl, B3, K3, h3, he, ig, il, fw⟩
        exact hN _ _ ⟨_, _, _, _, xs, items, rfl, B3.le (by omega), K3, h3, he, ig, by omega, fw.le (by omega)⟩
    · rintro σ H2 ⟨x5, x6, x7, x8, xs, items, rfl, B2, K2, h2, he, ig, il, fw⟩
      walk_at "rs"
      exact k p xs items H2 B2 K2 p0 h2 he ig il fw
end
end LK

set_option Elab.async false
set_option linter.all false
set_option maxRecDepth 100000
namespace LK
open PySem PySem.Spec PyProof.Rows L2
local macro_rules | `(tactic| walk_at "rs") => `(tactic| simp only [cxK, cxNK, tCallZ, tAsg, tOp, rI0, rS0, rB0, rI, rU, tUn, rEq, rNe, rIxL, rIxT, rIxS, rSetL, rSlLU, rSlS, rSlU, rCatL, rCatU, rRepL, rIn, tVar, tC, gName, gSub, tIfS, tTest, tB, tAnd, tOr, tNot, tNotV, tAndV, tOrV, tIf, tCall, tCons, tNil, tCB, tDrop, tRet, tRetN, tNext, tLstU, tTupU, tM0, tM1, tPar, tPar3, tAug, ipI, tBM, tBM0, rAppend, rPop, tBreak, sDPut, tDGet, tDGet2, tCont, tChain, tSl, tPart, tNoPart, L2.start, List.map, List.length_cons, List.length_nil, List.replicate, List.cons_append, List.nil_append, List.append_nil, List.getElem?_cons_zero, List.getElem?_cons_succ, List.set_cons_zero, List.set_cons_succ, Option.some.injEq, V.int.injEq, V.ref.injEq, V.str.injEq, V.bl.injEq, exists_eq_left', exists_eq_left, exists_and_left, decide_eq_true_eq, List.cons.injEq, and_true, true_and, scal, Bool.not_eq_true', decide_eq_false_iff_not, Nat.zero_add, Nat.reduceAdd, Nat.reduceSub, reduceCtorEq, false_and, exists_false, false_or, or_false, CPow, CPowW, CMul, CDiv, Int.reduceToNat, ↓reduceIte, wipe, sw, List.nil_append, List.singleton_append])
local macro_rules | `(tactic| walk_at "st") => `(tactic| (refine seq_op fun N hN => ?_; walk_at "rs"))
local macro_rules | `(tactic| walk_at "sd") => `(tactic| first | assumption | decide | omega)
local macro_rules | `(tactic| walk_at "rd") => `(tactic| repeat (first
  | refine ⟨_, SqL.of (by assumption), ?_⟩ | refine ⟨_, SqL.of upd_same, ?_⟩ | refine ⟨_, .inl (SqL.of (by assumption)), ?_⟩ | refine ⟨_, (by assumption : _ = some (HO.lst _)), ?_⟩ | refine ⟨_, upd_same, ?_⟩
  | refine ⟨_, rfl, ?_⟩ | refine And.intro (by walk_at "sd") ?_))

/-! ### sums in any order -/
theorem accR_shift (k : List Int) : ∀ (b : List It) (r : Rat), b.foldl (fun acc it => if it.1 = k then acc + rt it.2 else acc) r = r + accR b k
  | [], r => by show r = r + 0; rw [Rat.add_zero]
  | it :: b, r => by
    unfold accR
    simp only [List.foldl_cons]
    by_cases e : it.1 = k
    · rw [if_pos e, if_pos e, accR_shift k b (r + rt it.2), accR_shift k b (0 + rt it.2), Rat.zero_add, Rat.add_assoc]
    · rw [if_neg e, if_neg e, accR_shift k b r]
      rfl
theorem accR_app (a b : List It) (k : List Int) : accR (a ++ b) k = accR a k + accR b k := by
  show (a ++ b).foldl _ 0 = _
  rw [List.foldl_append]
  exact accR_shift k b _
theorem accR_one (it : It) (k : List Int) : accR [it] k = if it.1 = k then rt it.2 else 0 := by
  unfold accR
  simp only [List.foldl_cons, List.foldl_nil]
  split
  · rw [Rat.zero_add]
  · rfl
theorem accR_cons (it : It) (b : List It) (k : List Int) : accR (it :: b) k = (if it.1 = k then rt it.2 else 0) + accR b k := by
  rw [show it :: b = [it] ++ b from rfl, accR_app, accR_one]
theorem accR_perm {a b : List It} (h : a.Perm b) (k : List Int) : accR a k = accR b k := by
  induction h with
  | nil => rfl
  | cons x _ ih => rw [accR_cons, accR_cons, ih]
  | swap x y l => rw [accR_cons, accR_cons, accR_cons, accR_cons, ← Rat.add_assoc, ← Rat.add_assoc, Rat.add_comm (if y.1 = k then rt y.2 else 0)]
  | trans _ _ ih1 ih2 => exact ih1.trans ih2
theorem accR_norm {R : List Int → Rat} {l : List It} (h : Norm R l) (k : List Int) : accR l k = R k := by
  have key : ∀ {l : List It}, (l.Pairwise fun a b => cd a.1 < cd b.1) → (∀ x ∈ l, rt x.2 = R x.1) → (accR l k = R k ∧ ∃ x ∈ l, x.1 = k) ∨ (accR l k = 0 ∧ ∀ x ∈ l, x.1 ≠ k) := by
    intro l
    induction l with
    | nil => intro _ _; exact .inr ⟨rfl, fun x hx => by cases hx⟩
    | cons a l ih =>
      intro hs hr
      rw [List.pairwise_cons] at hs
      rw [accR_cons]
      by_cases e : a.1 = k
      · have z : ∀ x ∈ l, x.1 ≠ k := fun x hx e2 => by
          have := hs.1 x hx
          rw [e, e2] at this
          omega
        rw [if_pos e, (accF_none z).2, Rat.add_zero, hr a List.mem_cons_self, e]
        exact .inl ⟨rfl, a, List.mem_cons_self, e⟩
      · rw [if_neg e, Rat.zero_add]
        rcases ih hs.2 fun x hx => hr x (List.mem_cons_of_mem _ hx) with ⟨h1, x, hx, h2⟩ | ⟨h1, h2⟩
        · exact .inl ⟨h1, x, List.mem_cons_of_mem _ hx, h2⟩
        · refine .inr ⟨h1, fun x hx => ?_⟩
          rcases List.mem_cons.mp hx with rfl | hx
          · exact e
          · exact h2 x hx
  rcases key h.srt fun x hx => (h.it x hx).2.2 with ⟨h1, _⟩ | ⟨h1, h2⟩
  · exact h1
  · rw [h1]
    refine Classical.byContradiction fun n => ?_
    obtain ⟨f, hf⟩ := h.all k fun z => n z.symm
    exact h2 _ hf rfl
/-- the items' signs turned about -/
theorem accR_neg (k : List Int) : ∀ {l : List It}, (∀ x ∈ l, low x.2) → accR (l.map fun x => (x.1, (-x.2.1, x.2.2))) k = - accR l k
  | [], _ => by show (0 : Rat) = -0; rw [Rat.neg_zero]
  | a :: l, h => by
    rw [List.map_cons, accR_cons, accR_cons, accR_neg k fun x hx => h x (List.mem_cons_of_mem _ hx), Rat.neg_add]
    show (if a.1 = k then rt (-a.2.1, a.2.2) else 0) + _ = _
    rw [(rt_neg (h a List.mem_cons_self)).1]
    split
    · rfl
    · rw [Rat.neg_zero]
theorem accR_zero (k : List Int) : ∀ l : List It, accR (l.map fun x => (x.1, ((0, 1) : Fr))) k = 0
  | [] => rfl
  | a :: l => by
    rw [List.map_cons, accR_cons, accR_zero k l, Rat.add_zero]
    show (if a.1 = k then rt (0, 1) else 0) = 0
    rw [rt_zero]
    split <;> rfl
/-! bits of the sums -/
theorem wtS_shift (k : List Int) : ∀ (b : List It) (n : Nat), b.foldl (fun acc it => if it.1 = k then acc + (wt it.2 + 1) else acc) n + 1 = n + wtS b k
  | [], n => by show n + 1 = n + 1; rfl
  | it :: b, n => by
    unfold wtS
    simp only [List.foldl_cons]
    by_cases e : it.1 = k
    · rw [if_pos e, if_pos e]
      have h1 := wtS_shift k b (n + (wt it.2 + 1))
      have h2 := wtS_shift k b (1 + (wt it.2 + 1))
      omega
    · rw [if_neg e, if_neg e]
      have h1 := wtS_shift k b n
      show _ = n + wtS b k
      exact h1
theorem wtS_app (a b : List It) (k : List Int) : wtS (a ++ b) k + 1 = wtS a k + wtS b k := by
  show (a ++ b).foldl _ 1 + 1 = _
  rw [List.foldl_append]
  exact wtS_shift k b _
theorem wtS_le {B : Nat} (k : List Int) : ∀ {l : List It}, (∀ x ∈ l, wt x.2 ≤ B) → wtS l k ≤ l.length * (B + 1) + 1
  | [], _ => by show 1 ≤ _; omega
  | a :: l, h => by
    have ih := wtS_le k (l := l) fun x hx => h x (List.mem_cons_of_mem _ hx)
    have e := wtS_app [a] l k
    have e1 : wtS [a] k ≤ B + 2 := by
      unfold wtS
      simp only [List.foldl_cons, List.foldl_nil]
      have := h a List.mem_cons_self
      split <;> omega
    rw [show a :: l = [a] ++ l from rfl, List.length_append, List.length_singleton, Nat.add_mul, Nat.one_mul]
    omega
theorem wt_okB {f : Fr} (h : okB 1000000000000000000 1000000000000000000 f) : wt f ≤ 60 := wt_le (by decide) (Nat.lt_of_le_of_lt h.2.2.1 (by decide)) (Nat.lt_of_le_of_lt h.2.2.2 (by decide))
theorem IG.fit {d : Nat} {w : Int} {items : List It} (h : IG d w items) (hw : w ≤ 2000) (l : items.length ≤ 60) (f : Few 62 items) : Fit d items := by
  refine ⟨fun x hx => ?_, fun k => ?_, ?_, by omega⟩
  · obtain ⟨o, l1, b⟩ := h.it x hx
    exact ⟨⟨o.1, o.2.1⟩, Nat.le_trans (wt_okB o) (by decide), l1, fun m hm => ⟨(b m hm).1, by have := (b m hm).2; omega⟩⟩
  · have := wtS_le (B := 60) k (l := items) fun x hx => wt_okB (h.it x hx).1
    omega
  · obtain ⟨S, h1, h2⟩ := f
    exact ⟨S, by omega, h2⟩
end LK

set_option Elab.async false
set_option linter.all false
set_option maxRecDepth 100000
namespace LK
open PySem PySem.Spec PyProof.Rows L2
local macro_rules | `(tactic| walk_at "rs") => `(tactic| simp only [cxK, cxNK, tCallZ, tAsg, tOp, rI0, rS0, rB0, rI, rU, tUn, rEq, rNe, rIxL, rIxT, rIxS, rSetL, rSlLU, rSlS, rSlU, rCatL, rCatU, rRepL, rIn, tVar, tC, gName, gSub, tIfS, tTest, tB, tAnd, tOr, tNot, tNotV, tAndV, tOrV, tIf, tCall, tCons, tNil, tCB, tDrop, tRet, tRetN, tNext, tLstU, tTupU, tM0, tM1, tPar, tPar3, tAug, ipI, tBM, tBM0, rAppend, rPop, tBreak, sDPut, tDGet, tDGet2, tCont, tChain, tSl, tPart, tNoPart, L2.start, List.map, List.length_cons, List.length_nil, List.replicate, List.cons_append, List.nil_append, List.append_nil, List.getElem?_cons_zero, List.getElem?_cons_succ, List.set_cons_zero, List.set_cons_succ, Option.some.injEq, V.int.injEq, V.ref.injEq, V.str.injEq, V.bl.injEq, exists_eq_left', exists_eq_left, exists_and_left, decide_eq_true_eq, List.cons.injEq, and_true, true_and, scal, Bool.not_eq_true', decide_eq_false_iff_not, Nat.zero_add, Nat.reduceAdd, Nat.reduceSub, reduceCtorEq, false_and, exists_false, false_or, or_false, CPow, CPowW, CMul, CDiv, Int.reduceToNat, ↓reduceIte, wipe, sw, List.nil_append, List.singleton_append])
local macro_rules | `(tactic| walk_at "st") => `(tactic| (refine seq_op fun N hN => ?_; walk_at "rs"))
local macro_rules | `(tactic| walk_at "sd") => `(tactic| first | assumption | decide | omega)
local macro_rules | `(tactic| walk_at "rd") => `(tactic| repeat (first
  | refine ⟨_, SqL.of (by assumption), ?_⟩ | refine ⟨_, SqL.of upd_same, ?_⟩ | refine ⟨_, .inl (SqL.of (by assumption)), ?_⟩ | refine ⟨_, (by assumption : _ = some (HO.lst _)), ?_⟩ | refine ⟨_, upd_same, ?_⟩
  | refine ⟨_, rfl, ?_⟩ | refine And.intro (by walk_at "sd") ?_))

section
variable {P : Program} {w : World} {K : PySem.W.Frag} {mg : Str → Option Value} {base : Heap}
def sp_parted (K : PySem.W.Frag) : Sp := fun vs H Q _ => ∃ (b c a : Addr) (N d : Nat) (wd : Int) (xs : List V) (items : List It), vs = [.ref b, .ref a] ∧ Bag (N + 3) H b c ∧ a ≠ b ∧ H a = some (.lst xs) ∧ Its K H xs items ∧ IG d wd items ∧ items.length ≤ 100 ∧ 1 ≤ d ∧ d ≤ 2 ∧
  ∀ (p : Addr) (ys : List V) (its' : List It) H', Bag N H' b c → Kp b H H' → SqL K H' p ys → Its K H' ys its' → IG d wd its' → its'.length ≤ items.length + 1 → (∀ k, accR its' k = accR items k) → (∀ x ∈ its', ∃ y ∈ items, y.1 = x.1) → Q (.ref p) H'
theorem ok__law_parted (T : Txt w K mg) : FnOk P w K mg base CX0 4 T.a__law_parted T.d__law_parted ["bag", "items"] (sp_parted K) := by
  refine T.F__law_parted.ok sc__law_parted (fun vs H Q E h => ?_) (fun cdv A outer s H vs Q E hr h => ?_)
  · obtain ⟨b, c, a, N, d, wd, xs, items, rfl, _⟩ := h
    rfl
  · obtain ⟨b, c, a, N0, d, wd, xs, items, rfl, B, ab, ha, hi, ig, li, d1, d2, k⟩ := h
    have hr__law_draw : Room 1 _ := hr.mono (by decide)
    have G__law_draw := ok__law_draw (P := P) (base := base) T
    have hr__law_low : Room 2 _ := hr.mono (by decide)
    have G__law_low := ok__law_low (P := P) (base := base) T
    have lx := hi.len
    refine ⟨_, (pss_cons (ps_if (pt_not (pt_truth (pv 1) (by intro _; rfl))) (pss_one (ps_ret (pe_lstU pa_nil))) pss_nil)
      (pss_cons (ps_par (i := 2) (j := 3) (by rfl) sc__law_parted.nd rfl rfl (by decide) rfl rfl (pa_cons (pe_call G__law_draw hr__law_draw (by rfl) T.m__law_draw T.F__law_draw.kp T.B__law_draw .nil pass0 (pa_cons (pv 0) (pa_cons (pe_callB call_len_seq (by rfl) T.n_len (by decide +kernel) (pa_cons (pv 1) pa_nil)) pa_nil))) (pa_cons (pe_op op_sub (pe_call G__law_draw hr__law_draw (by rfl) T.m__law_draw T.F__law_draw.kp T.B__law_draw .nil pass0 (pa_cons (pv 0) (pa_cons pe_int pa_nil))) pe_int) pa_nil)) (by rfl))
      (pss_cons (ps_asg (pe_ix ix_tup (pe_ix ix_list (pv 1) (pv 2) (fun _ _ => rfl)) (pe_un un_neg pe_int) (fun _ _ => rfl)) (pg_tup rfl (pgs_cons (pg_name (i := 4) sc__law_parted.nd rfl (Or.inl rfl)) (pgs_cons (pg_name (i := 5) sc__law_parted.nd rfl (Or.inl rfl)) pgs_nil))))
      (pss_cons (ps_if (PW.pt (pw_or (pt_cmpR op_ge (pe_callB call_abs (by rfl) T.n_abs (by decide +kernel) (pa_cons (pv 4) pa_nil)) (pe_op op_pow pe_int pe_int) (nomark _)) (pw_or1 (pt_cmpR op_ge (pv 5) (pe_op op_pow pe_int pe_int) (nomark _))))) (pss_one (ps_ret (pe_callTy call_listU (by rfl) T.n_list (by decide +kernel) (pa_cons (pv 1) pa_nil)))) pss_nil)
      (pss_cons (ps_set (i := 6) sc__law_parted.nd rfl (Or.inl rfl) (pe_slice sl_tupU (pe_ix ix_list (pv 1) (pv 2) (fun _ _ => rfl)) po_none (po_some (pe_un un_neg pe_int))))
      (pss_cons (ps_set (i := 7) sc__law_parted.nd rfl (Or.inl rfl) (pe_op op_catL (pe_op op_catL (pe_slice sl_listU (pv 1) po_none (po_some (pv 2))) (pe_slice sl_listU (pv 1) (po_some (pe_op op_add (pv 2) pe_int)) po_none)) (pe_lstU (pa_cons (pe_op op_catU (pv 6) (pe_tupU (pa_cons (pe_call G__law_low hr__law_low (by rfl) T.m__law_low T.F__law_low.kp T.B__law_low .nil pass0 (pa_cons (pe_op op_sub (pv 4) (pe_op op_mul (pv 3) (pv 5))) (pa_cons (pv 5) pa_nil))) pa_nil))) pa_nil))))
      (pss_cons (ps_expr (pe_bm PySem.F.plainAttrs_list PySem.F.slot_list_insert PySem.F.type_list_insert mt_insert (pv 7) (pa_cons (pe_call G__law_draw hr__law_draw (by rfl) T.m__law_draw T.F__law_draw.kp T.B__law_draw .nil pass0 (pa_cons (pv 0) (pa_cons (pe_callB call_len_seq (by rfl) T.n_len (by decide +kernel) (pa_cons (pv 7) pa_nil)) pa_nil))) (pa_cons (pe_op op_catU (pv 6) (pe_tupU (pa_cons (pe_tupU (pa_cons (pv 3) (pa_cons pe_int pa_nil))) pa_nil))) pa_nil))))
      (pss_one (ps_ret (pv 7)))))))))), ?_⟩
    refine seq_op fun N hN => ?_
    walk_at "rs"
    by_cases he : items = []
    · subst he
      cases hi
      exact ⟨false, .inl ⟨[], SqL.of ha, rfl⟩, iteTT rfl ⟨Nat.zero_le _, fun p H2 s2 p0 p1 => k p [] [] H2 ((B.same s2).le (by omega)) (Kp.of s2) (SqL.of p1) .nil ig (by omega) (fun _ => rfl) fun x hx => by cases hx⟩⟩
    · have l1 : 1 ≤ items.length := List.length_pos_iff.mpr he
      have ne : xs.isEmpty = false := by
        cases xs with
        | nil => rw [List.length_nil] at lx; omega
        | cons _ _ => rfl
      refine ⟨true, .inl ⟨xs, SqL.of ha, by rw [ne]; rfl⟩, iteFF (fun z => by cases z) (hN _ _ ?_)⟩
      clear hN N
      refine seq_op fun N hN => ?_
      walk_at "rs"
      refine ⟨xs, .inl (SqL.of ha), b, c, _, N0 + 2, rfl, B, by omega, by omega, fun r H1 r0 r1 B1 K1 => ⟨b, c, 19, N0 + 1, rfl, B1, by decide, by decide, fun r2 H2 r20 r21 B2 K2 => ?_⟩⟩
      refine ⟨r2, rfl, _, _, ⟨rfl, rfl⟩, hN _ _ ?_⟩
      clear hN N
      obtain ⟨k1, rfl⟩ : ∃ k1 : Nat, r = (k1 : Int) := ⟨r.toNat, by omega⟩
      obtain ⟨pt, ept⟩ : ∃ pt : Int, r2 - 9 = pt := ⟨_, rfl⟩
      rw [ept]
      have hpt : -9 ≤ pt ∧ pt ≤ 9 := by omega
      clear ept r20 r21
      have K2' := Same.trans K1 K2
      have ha2 := Kp.get K2' ab ha
      have hi2 := hi.kp B K2'
      obtain ⟨e1, u, ks, f, ex, ee, g1, g2⟩ := hi2.get (n := k1) (by omega)
      obtain ⟨of1, lk, bk⟩ := ig.it _ (List.mem_of_getElem? ee)
      dsimp only at of1 lk bk
      have at1 : atI (ks.map V.int ++ [V.ref u]) (-1) = some (.ref u) := by
        match ks, lk, d1, d2 with
        | [x], _, _, _ => rfl
        | [x, y], _, _, _ => rfl
        | [], h, _, _ => simp at h; omega
        | _ :: _ :: _ :: _, h, _, _ => simp at h; omega
      have cut1 : cutV (ks.map V.int ++ [V.ref u]) none (some (-1)) = ks.map V.int := by
        match ks, lk, d1, d2 with
        | [x], _, _, _ => rfl
        | [x, y], _, _, _ => rfl
        | [], h, _, _ => simp at h; omega
        | _ :: _ :: _ :: _, h, _, _ => simp at h; omega
      refine seq_op fun N hN => ?_
      walk_at "rs"
      refine ⟨xs, SqL.of ha2, _, at_ofN rfl ex, e1, rfl, _, g1, _, at1, ?_⟩
      show gTup K 2 _ _ _ _ _
      refine g2_at g2 (hN _ _ ?_)
      clear hN N
      refine seq_op fun N hN => ?_
      walk_at "rs"
      have cp : ∃ x, (SqL K H2 a x ∨ SqT K H2 a x) ∧ ∀ (l : Addr) (H3 : Hp), Same H2 H3 → H2 l = none → H3 l = some (HO.lst x) → Q (V.ref l) H3 := ⟨xs, .inl (SqL.of ha2), fun l H3 s3 l0 l1 => k l xs items H3 ((B2.same s3).le (by omega)) (Same.trans K2' (Kp.of s3)) (SqL.of l1) (hi2.same s3) ig (by omega) (fun _ => rfl) fun x hx => ⟨x, hx, rfl⟩⟩
      refine ⟨by decide, ite2 (fun _ => cp) (fun n1 => ⟨by decide, ite2 (fun _ => cp) (fun n2 => hN _ _ ?_)⟩)⟩
      clear hN N cp
      refine seq_op fun N hN => ?_
      walk_at "rs"
      refine ⟨xs, SqL.of ha2, _, at_ofN rfl ex, e1, rfl, _, g1, fun q1 H3 s3 hq1 => hN _ _ ?_⟩
      clear hN N
      rw [cut1] at hq1
      have ha3 := s3 _ _ ha2
      have hi3 := hi2.same s3
      have B3 := B2.same s3
      have K3 := Same.trans K2' (Kp.of s3)
      refine seq_op fun N hN => ?_
      walk_at "rs"
      refine ⟨xs, SqL.of ha3, fun l1 H4 s4 n4 t4 => ⟨xs, SqL.of (s4 _ _ ha3), fun l2 H5 s5 n5 t5 => ?_⟩⟩
      rw [cutV_take] at t4
      rw [show ((k1 : Int) + 1) = ((k1 + 1 : Nat) : Int) by omega, cutV_drop] at t5
      have f20 : f.2 ≠ 0 := by have := of1.1; omega
      have fq : 1 ≤ f.2 := of1.1
      have mb : (pt * f.2).natAbs ≤ 9 * 10 ^ 16 := by
        rw [Int.natAbs_mul]
        exact Nat.mul_le_mul (by omega) (by omega)
      have f1b : f.1.natAbs < 10 ^ 17 := by split at n1 <;> omega
      have nb : (f.1 - pt * f.2).natAbs ≤ 1000000000000000000 := by omega
      have okg : okB 1000000000000000000 1000000000000000000 (frP (f.1 - pt * f.2) f.2, frQ (f.1 - pt * f.2) f.2) := okB_low f20 nb of1.2.2.2
      have rg := (rt_fr (f.1 - pt * f.2) f20).1
      have lxk : (xs.take k1).length + (xs.drop (k1 + 1)).length ≤ 100 := by rw [List.length_take, List.length_drop]; omega
      have lks : (ks.map V.int).length + 1 ≤ 10 := by rw [List.length_map]; omega
      refine ⟨_, s5 _ _ t4, _, t5, Nat.le_trans lxk (by decide), fun l3 H6 s6 n6 t6 => ⟨.inl ⟨by omega, by omega⟩, low_at (M := 1) (L := 1) f20 (pow_le (a := 64) (by omega) (by decide)) (pow_le (a := 64) (by have := of1.2.2.2; omega) (by decide)) fun tl H7 s7 n7 t7 => ⟨by decide, fun p8 H8 s8 n8 t8 => ?_⟩⟩⟩
      have s38 := Same.trans s4 (Same.trans s5 (Same.trans s6 (Same.trans s7 s8)))
      refine ⟨_, Same.seqT s38 hq1, _, .inl (.inl t8), Nat.le_trans lks (by decide), fun q9 H9 s9 hq9 => ⟨by decide, fun p10 H10 s10 n10 t10 => ?_⟩⟩
      have s610 := Same.trans s7 (Same.trans s8 (Same.trans s9 s10))
      refine ⟨_, s610 _ _ t6, _, t10, Nat.le_trans (show _ ≤ 101 by rw [List.length_append]; simp only [List.length_cons, List.length_nil]; omega) (by decide), fun fd H11 s11 n11 t11 => hN _ _ ?_⟩
      clear hN N
      have s311 := Same.trans s38 (Same.trans s9 (Same.trans s10 s11))
      generalize hg : ((frP (f.1 - pt * f.2) f.2, frQ (f.1 - pt * f.2) f.2) : Fr) = g at *
      have tg : Pr K H11 tl g.1 g.2 := by
        rw [← hg]
        exact .inl (.inl (Same.trans s8 (Same.trans s9 (Same.trans s10 s11)) _ _ t7))
      have hM : Its K H11 (xs.take k1 ++ xs.drop (k1 + 1) ++ [.ref q9]) (items.take k1 ++ items.drop (k1 + 1) ++ [(ks, g)]) := (((hi3.take k1).app (hi3.drop (k1 + 1))).same s311).app (.cons (Same.seqT (Same.trans s10 s11) hq9) tg .nil)
      have igM : IG d wd (items.take k1 ++ items.drop (k1 + 1) ++ [(ks, g)]) := by
        refine (IG.app ⟨fun x hx => ig.it x (List.mem_of_mem_take hx)⟩ ⟨fun x hx => ig.it x (List.mem_of_mem_drop hx)⟩).app (IG.one lk bk okg)
      have lM : (items.take k1 ++ items.drop (k1 + 1) ++ [(ks, g)]).length = items.length := by
        have := (List.getElem?_eq_some_iff.mp ee).1
        rw [List.length_append, List.length_append, List.length_take, List.length_drop, List.length_singleton]
        omega
      have aM : ∀ kk, accR (items.take k1 ++ items.drop (k1 + 1) ++ [(ks, g)]) kk + accR [(ks, ((pt, 1) : Fr))] kk = accR items kk := fun kk => by
        obtain ⟨hk, e⟩ := List.getElem?_eq_some_iff.mp ee
        have ei : items = items.take k1 ++ ([(ks, f)] ++ items.drop (k1 + 1)) := by
          conv => lhs; rw [← List.take_append_drop k1 items]
          rw [List.drop_eq_getElem_cons hk, e]
          rfl
        have rf : rt g + rt (pt, 1) = rt f := by
          rw [rg]
          show Rat.divInt (f.1 - pt * f.2) f.2 + Rat.divInt pt 1 = Rat.divInt f.1 f.2
          rw [Rat.divInt_add_divInt _ _ f20 (by decide)]
          congr 1 <;> omega
        conv => rhs; rw [ei]
        rw [accR_app, accR_app, accR_app, accR_app, accR_one, accR_one, accR_one, Rat.add_assoc, Rat.add_assoc]
        congr 1
        by_cases z : ks = kk
        · rw [if_pos z, if_pos z, if_pos z, rf, Rat.add_comm]
        · rw [if_neg z, if_neg z, if_neg z, Rat.add_zero, Rat.zero_add, Rat.add_zero]
      have mM : ∀ x ∈ items.take k1 ++ items.drop (k1 + 1) ++ [(ks, g)], ∃ y ∈ items, y.1 = x.1 := fun x hx => by
        rcases List.mem_append.mp hx with hx | hx
        · rcases List.mem_append.mp hx with hx | hx
          · exact ⟨x, List.mem_of_mem_take hx, rfl⟩
          · exact ⟨x, List.mem_of_mem_drop hx, rfl⟩
        · rw [List.mem_singleton.mp hx]
          exact ⟨_, List.mem_of_getElem? ee, rfl⟩
      have hq11 : SqT K H11 q1 (ks.map V.int) := Same.seqT s311 hq1
      have B11 := B3.same s311
      have K11 := Same.trans K3 (Kp.of s311)
      have lN := hM.len
      generalize items.take k1 ++ items.drop (k1 + 1) ++ [(ks, g)] = M at *
      generalize xs.take k1 ++ xs.drop (k1 + 1) ++ [V.ref q9] = ms at *
      have fb : fd ≠ b := new_ne (B3.same (Same.trans s38 (Same.trans s9 s10))) n11
      have fd0 : H fd = none := by
        cases e : H fd with
        | none => rfl
        | some o =>
          have := Kp.get (Same.trans K3 (Kp.of (Same.trans s38 (Same.trans s9 s10)))) fb e
          rw [n11] at this
          cases this
      clear t4 t5 t6 t7 t8 t10 s4 s5 s6 s7 s8 s9 s10 s11 s38 s610 hi2 hi3 ha2 ha3 B1 B2 B3
      refine seq_op fun N hN => ?_
      walk_at "rs"
      have lms : ms.length ≤ 100 := by omega
      refine ⟨.inl ⟨rfl, _, SqL.of t11⟩, ms, .inl (SqL.of t11), b, c, _, N0, rfl, B11, by omega, by omega, fun r3 G1 r30 r31 BG KG => ⟨by decide, fun p1 J1 u1 m1 v1 => ⟨by decide, fun p2 J2 u2 m2 v2 => ⟨_, Same.seqT (Same.trans u1 u2) (seqT_kp B11 KG hq11), _, .inl (.inl v2), Nat.le_trans lks (by decide), fun q3 J3 u3 hq3 => ?_⟩⟩⟩⟩
      have v3 := Same.trans u1 (Same.trans u2 u3)
      have j3 := v3 _ _ (Kp.get KG fb t11)
      have nt3 := notT_lst j3
      have pc : c ≠ fd := fun e => by
        obtain ⟨xc, ec⟩ := B.at2
        rw [e, fd0] at ec; cases ec
      have hM3 := (hM.kp B11 KG).same v3
      obtain ⟨at3, rfl⟩ : ∃ at3 : Nat, r3 = (at3 : Int) := ⟨r3.toNat, by omega⟩
      refine ⟨_, _, _, ⟨rfl, rfl⟩, j3, Nat.lt_of_le_of_lt lms (by decide), r30, by omega, hN _ _ ?_⟩
      clear hN N
      walk_at "rs"
      refine k fd _ (M.take at3 ++ [(ks, ((pt, 1) : Fr))] ++ M.drop at3) _ ((BG.same v3).upd (Ne.symm fb) pc) (Kp.upd2 (Same.trans K11 (Same.trans KG (Kp.of v3))) fd0) (SqL.of upd_same) ?_ ?_ ?_ (fun kk => ?_) fun x hx => ?_
      · exact (((hM3.take at3).updO nt3).app (.cons (seqT_updO nt3 hq3) (seqT_updO nt3 (.inl (.inl (Same.trans u2 u3 _ _ v1)))) .nil)).app ((hM3.drop at3).updO nt3)
      · have o1 : okB 1000000000000000000 1000000000000000000 ((pt, 1) : Fr) := ⟨Int.le_refl 1, by show Nat.gcd pt.natAbs 1 = 1; exact Nat.gcd_one_right _, by show pt.natAbs ≤ _; omega, by show (1 : Int).natAbs ≤ _; decide⟩
        exact (IG.app ⟨fun x hx => igM.it x (List.mem_of_mem_take hx)⟩ (IG.one lk bk o1)).app ⟨fun x hx => igM.it x (List.mem_of_mem_drop hx)⟩
      · rw [List.length_append, List.length_append, List.length_take, List.length_drop, List.length_singleton]
        omega
      · rw [← aM kk, accR_perm (b := M.take at3 ++ M.drop at3 ++ [(ks, ((pt, 1) : Fr))]), List.take_append_drop, accR_app]
        rw [List.append_assoc, List.append_assoc]
        exact List.Perm.append_left _ List.perm_append_comm
      · rcases List.mem_append.mp hx with hx | hx
        · rcases List.mem_append.mp hx with hx | hx
          · exact mM x (List.mem_of_mem_take hx)
          · rw [List.mem_singleton.mp hx]
            exact ⟨_, List.mem_of_getElem? ee, rfl⟩
        · exact mM x (List.mem_of_mem_drop hx)
end
end LK

set_option Elab.async false
set_option linter.all false
set_option maxRecDepth 100000
namespace LK
open PySem PySem.Spec PyProof.Rows L2
local macro_rules | `(tactic| walk_at "rs") => `(tactic| simp only [cxK, cxNK, tCallZ, tAsg, tOp, rI0, rS0, rB0, rI, rU, tUn, rEq, rNe, rIxL, rIxT, rIxS, rSetL, rSlLU, rSlS, rSlU, rCatL, rCatU, rRepL, rIn, tVar, tC, gName, gSub, tIfS, tTest, tB, tAnd, tOr, tNot, tNotV, tAndV, tOrV, tIf, tCall, tCons, tNil, tCB, tDrop, tRet, tRetN, tNext, tLstU, tTupU, tM0, tM1, tPar, tPar3, tAug, ipI, tBM, tBM0, rAppend, rPop, tBreak, sDPut, tDGet, tDGet2, tCont, tChain, tSl, tPart, tNoPart, L2.start, List.map, List.length_cons, List.length_nil, List.replicate, List.cons_append, List.nil_append, List.append_nil, List.getElem?_cons_zero, List.getElem?_cons_succ, List.set_cons_zero, List.set_cons_succ, Option.some.injEq, V.int.injEq, V.ref.injEq, V.str.injEq, V.bl.injEq, exists_eq_left', exists_eq_left, exists_and_left, decide_eq_true_eq, List.cons.injEq, and_true, true_and, scal, Bool.not_eq_true', decide_eq_false_iff_not, Nat.zero_add, Nat.reduceAdd, Nat.reduceSub, reduceCtorEq, false_and, exists_false, false_or, or_false, CPow, CPowW, CMul, CDiv, Int.reduceToNat, ↓reduceIte, wipe, sw, List.nil_append, List.singleton_append])
local macro_rules | `(tactic| walk_at "st") => `(tactic| (refine seq_op fun N hN => ?_; walk_at "rs"))
local macro_rules | `(tactic| walk_at "sd") => `(tactic| first | assumption | decide | omega)
local macro_rules | `(tactic| walk_at "rd") => `(tactic| repeat (first
  | refine ⟨_, SqL.of (by assumption), ?_⟩ | refine ⟨_, SqL.of upd_same, ?_⟩ | refine ⟨_, .inl (SqL.of (by assumption)), ?_⟩ | refine ⟨_, (by assumption : _ = some (HO.lst _)), ?_⟩ | refine ⟨_, upd_same, ?_⟩
  | refine ⟨_, rfl, ?_⟩ | refine And.intro (by walk_at "sd") ?_))

/-! ### the law's own normal form -/
theorem eqvAll_ints : ∀ k l : List Int, PyData.eqvAll (k.map PyData.int) (l.map PyData.int) = decide (k = l)
  | [], [] => by simp [PyData.eqvAll]
  | [], _ :: _ => by simp [PyData.eqvAll]
  | _ :: _, [] => by simp [PyData.eqvAll]
  | x :: k, y :: l => by
    simp only [List.map_cons, PyData.eqvAll, eqvAll_ints k l]
    by_cases h : x = y
    · subst h
      by_cases h2 : k = l <;> simp [h2, PyData.eqv]
    · simp [h, PyData.eqv]
theorem sh_ints : ∀ k : List Int, 1 ≤ k.length → k.length ≤ 2 → SeqAt.shaped (.tuple (k.map PyData.int)) = true
  | [_], _, _ => rfl
  | [_, _], _, _ => rfl
  | [], h, _ => by simp at h
  | _ :: _ :: _ :: _, _, h => by simp at h
theorem at_last (ks : List Int) (u : Addr) (l1 : 1 ≤ ks.length) (l2 : ks.length ≤ 2) : atI (ks.map V.int ++ [V.ref u]) (-1) = some (.ref u) := by
  match ks, l1, l2 with
  | [_], _, _ => rfl
  | [_, _], _, _ => rfl
  | [], h, _ => simp at h
  | _ :: _ :: _ :: _, _, h => simp at h
theorem eqv_ints (k l : List Int) : PyData.eqv (.tuple (k.map PyData.int)) (.tuple (l.map PyData.int)) = decide (k = l) := by
  simp only [PyData.eqv]
  exact eqvAll_ints k l
theorem lc_accD {J : L2.It} {n : Nat} {G : Hp → Prop} {Y : Nat → Hp → V → Hp → Prop} (w : Walk J n G Y) {g : TG} {te : TE} {vs : List Nat} {σ : L2.St} {H1 : Hp} {D : Addr} {Qd : Hp → Prop} (R : Nat → Hp → List V → Prop) (hD : H1 D = none) (hn : n ≤ 1000000)
    (mono : ∀ i H H' ys, Same H H' → R i H ys → R i H' ys) (up : ∀ i H ys zs o, H D = some (.lst zs) → R i H ys → R i (L2.upd H D o) ys) (r0 : R 0 (L2.upd H1 D (.lst [])) []) (hG : ∀ H, Same H1 H → G H)
    (hs : ∀ i x H H', i < n → Same H1 H → H D ≠ none → Y i H x H' → g x (wipe σ vs) H' fun σ2 H2 => Same H H2 ∧ wipe σ2 vs = wipe σ vs ∧ ∀ Q2 : V → Hp → Prop, (∀ v H3, Same H2 H3 → (∀ ys, R i H3 ys → R (i + 1) H3 (ys ++ [v])) → Q2 v H3) → te σ2 H2 Q2)
    (gm : ∀ x σ0 H0 Q0 Q1, (∀ σ2 H2, Q0 σ2 H2 → Q1 σ2 H2) → g x σ0 H0 Q0 → g x σ0 H0 Q1)
    (hq : ∀ H' ys, Same H1 H' → H' D = some (.lst ys) → ys.length = n → R n H' ys → Qd H') :
    ∃ W : Nat → Nat → Hp → Prop, (∃ m, W 0 m (L2.upd H1 D (.lst []))) ∧ ∀ i m H, W i m H →
      (J.stop i H ∧ Qd H) ∨ (J.go i H ∧ ∃ Nx : Hp → Prop, (∀ H', Nx H' → ∃ m', m' < m ∧ W (i + 1) m' H') ∧ ∀ x H', J.yld i H x H' → g x (wipe σ vs) H' fun σ2 H2 => wipe σ2 vs = wipe σ vs ∧ tYes σ2 H2 fun b H3 =>
        if b = true then te σ2 H3 fun y H4 => ∃ acc, H4 D = some (.lst acc) ∧ acc.length < sizeLine ∧ Nx (L2.upd H4 D (.lst (acc ++ [y]))) else Nx H3) := by
  have keep : ∀ {H : Hp} {o : HO}, Same H1 H → Same H1 (L2.upd H D o) := fun s a u e => by
    rw [upd_ne (ne_of_none e hD)]; exact s _ _ e
  refine lc_it w (fun i H => Same H1 H ∧ ∃ ys, H D = some (.lst ys) ∧ ys.length = i ∧ R i H ys) ⟨keep (Same.refl _), [], upd_same, rfl, r0⟩ (fun i H _ h => hG H h.1) (fun i x H H' hi ⟨s1, ys, h1, hl, hr⟩ hY => ?_) (fun H ⟨s1, ys, h1, hl, hr⟩ => hq H ys s1 h1 hl hr)
  refine gm _ _ _ _ _ (fun σ2 H2 ⟨s2, e2, kq⟩ => ⟨e2, ?_⟩) (hs i x H H' hi s1 (by rw [h1]; exact Option.some_ne_none _) hY)
  simp only [tYes, eq_self, ite_true]
  refine kq _ fun v H3 s3 st => ?_
  have s13 := Same.trans s2 s3
  have hD3 := s13 _ _ h1
  refine ⟨ys, hD3, ?_, keep (Same.trans s1 s13), ys ++ [v], upd_same, by rw [List.length_append, hl]; rfl, up _ _ _ _ _ hD3 (st ys (mono _ _ _ _ s13 hr))⟩
  rw [hl]
  exact Nat.lt_of_lt_of_le (Nat.lt_of_lt_of_le hi hn) (by decide)
theorem lc_lt2 {K : PySem.W.Frag} {a : Addr} {xs : List V} {g : TG} {te tl : TE} {vs : List Nat} {σ : L2.St} {H1 : Hp} {Q : VK} (hv : ∀ Q : VK, Q (.ref a) H1 → tl σ H1 Q) (h : SqL K H1 a xs ∨ SqT K H1 a xs) (R : Nat → Hp → List V → Prop) (hn : xs.length ≤ 1000000)
    (mono : ∀ i H H' ys, Same H H' → R i H ys → R i H' ys) (up : ∀ D i H ys zs o, H D = some (.lst zs) → R i H ys → R i (L2.upd H D o) ys) (r0 : ∀ H, R 0 H [])
    (hs : ∀ i x H, i < xs.length → Same H1 H → xs[i]? = some x → g x (wipe σ vs) H fun σ2 H2 => Same H H2 ∧ wipe σ2 vs = wipe σ vs ∧ ∀ Q2 : VK, (∀ v H3, Same H2 H3 → (∀ ys, R i H3 ys → R (i + 1) H3 (ys ++ [v])) → Q2 v H3) → te σ2 H2 Q2)
    (gm : ∀ x σ0 H0 Q0 Q1, (∀ σ2 H2, Q0 σ2 H2 → Q1 σ2 H2) → g x σ0 H0 Q0 → g x σ0 H0 Q1)
    (hq : ∀ D H' ys, Same H1 H' → H1 D = none → H' D = some (.lst ys) → ys.length = xs.length → R xs.length H' ys → Q (.ref D) H') : tLc (iLT K tl) g tYes te vs σ H1 Q := by
  have core : ∀ {J : L2.It} {G : Hp → Prop} (w : Walk J xs.length G (YAt xs)) (hG : ∀ H, Same H1 H → G H) (D : Addr) (hD : H1 D = none), _ := fun w hG D hD => lc_accD w (g := g) (te := te) (vs := vs) (σ := σ) (D := D) (Qd := fun H => Q (.ref D) H) R hD hn mono (up D) (r0 _) hG (fun i x H H' hi s n ⟨e, hx⟩ => by
    subst e
    exact hs i x _ hi s hx) gm fun H' ys s e l p => hq D H' ys s hD e l p
  rcases h with h | h
  · exact .inl (hv _ ⟨a, rfl, ⟨xs, h⟩, fun D hD => core walk_list (fun H s => s.seq h) D hD⟩)
  · exact .inr (hv _ ⟨a, rfl, ⟨xs, h⟩, fun D hD => core walk_tup (fun H s => Same.seqT s h) D hD⟩)
section
variable {P : Program} {w : World} {K : PySem.W.Frag} {mg : Str → Option Value} {base : Heap}
theorem ok__law_normal (T : Txt w K mg) (d : Nat) (d1 : 1 ≤ d) (d2 : d ≤ 2) : FnOk P w K mg base CX0 4 T.a__law_normal T.d__law_normal ["items"] (sp_norm K d) := by
  refine T.F__law_normal.ok sc__law_normal (fun vs H Q E h => ?_) (fun cdv A outer s H vs Q E hr h => ?_)
  · obtain ⟨a, xs, items, rfl, _⟩ := h
    rfl
  · obtain ⟨a, xs, items, rfl, ha, hi, fit, k⟩ := h
    have hr__law_plus : Room 3 _ := hr
    have G__law_plus := ok__law_plus (P := P) (base := base) T
    have lx := hi.len
    refine ⟨_, (pss_cons (ps_set (i := 1) sc__law_normal.nd rfl (Or.inl rfl) (pe_lstU pa_nil))
      (pss_cons (ps_for PassesOwn.never rfl (pi_list (pe_callB (cr_sortedT rfl) (by rfl) T.n_sorted (by decide +kernel) (pa_cons (pe_callTy (cr_setW rfl hr.units) (by rfl) T.n_set (by decide +kernel) (pa_cons (pe_lc (own := [("one", 4)]) (g := gName 4) (tt := tYes) rfl sc__law_normal.nd (pi_lt (pv 0)) (blkOk_by (own := [("one", 4)]) (N := N__law_normal) (sc := defScope s__law_normal) (by decide +kernel)) (fun _ _ _ _ _ => pg_name (i := 4) sc__law_normal.nd rfl (Or.inl rfl)) (fun _ _ _ _ _ => pts_nil) (fun _ _ _ _ _ => (pe_slice (sl_tupUK (K := K) rfl) (pv 4) po_none (po_some (pe_un un_neg pe_int))))) pa_nil)) pa_nil))) (pg_name (i := 2) sc__law_normal.nd rfl (Or.inl rfl)) (pss_cons (ps_set (i := 3) sc__law_normal.nd rfl (Or.inl rfl) (pe_tupU (pa_cons pe_int (pa_cons pe_int pa_nil))))
      (pss_cons (ps_for PassesOwn.never rfl (pi_lt (pv 0)) (pg_name (i := 4) sc__law_normal.nd rfl (Or.inl rfl)) (pss_one (ps_if (pt_cmpR (op_eqD hr.units) (pe_slice sl_tupU (pv 4) po_none (po_some (pe_un un_neg pe_int))) (pv 2) (nomark _)) (pss_one (ps_set (i := 3) sc__law_normal.nd rfl (Or.inl rfl) (pe_call G__law_plus hr__law_plus (by rfl) T.m__law_plus T.F__law_plus.kp T.B__law_plus .nil pass0 (pa_cons (pv 3) (pa_cons (pe_ix ix_tup (pv 4) (pe_un un_neg pe_int) (fun _ _ => rfl)) pa_nil))))) pss_nil)))
      (pss_one (ps_if (pt_cmpR op_neI (pe_ix ix_tup (pv 3) pe_int (fun _ _ => rfl)) pe_int (nomark _)) (pss_one (ps_expr (pe_bm PySem.F.plainAttrs_list PySem.F.slot_list_append PySem.F.type_list_append mt_append (pv 1) (pa_cons (pe_op op_catU (pv 2) (pe_tupU (pa_cons (pv 3) pa_nil))) pa_nil)))) pss_nil)))))
      (pss_one (ps_ret (pe_callTy call_tupleN (by rfl) T.n_tuple (by decide +kernel) (pa_cons (pv 1) pa_nil)))))), ?_⟩
    refine seq_op fun N hN => ?_
    walk_at "rs"
    refine ⟨by decide, fun p H1 s1 p0 p1 => hN _ _ ?_⟩
    clear hN N
    refine cut_seq (fun σ G => ∃ (x2 x3 x4 : Option V) (ys : List V) (its' : List It), σ = [some (.ref a), some (.ref p), x2, x3, x4] ∧ Same H G ∧ G p = some (.lst ys) ∧ Its K G ys its' ∧ Norm (accR items) its' ∧ its'.length < 64) (fun N hN => ?_) ?_
    · walk_at "rs"
      have cut1 : ∀ (ks : List Int) (u : Addr), ks.length = d → cutV (ks.map V.int ++ [V.ref u]) none (some (-1)) = ks.map V.int := fun ks u lk => by
        match ks, lk, d1, d2 with
        | [x], _, _, _ => rfl
        | [x, y], _, _, _ => rfl
        | [], h, _, _ => simp at h; omega
        | _ :: _ :: _ :: _, h, _, _ => simp at h; omega
      simp only [tFor, iList, tCB, tCons, tNil]
      refine lc_lt2 (K := K) (a := a) (xs := xs) (fun Q q => ⟨_, rfl, q⟩) (ha.imp s1.seq (Same.seqT s1)) (fun i H ys => ∃ L0 : List (Addr × List Int), ys = L0.map (fun q => V.ref q.1) ∧ (∀ q ∈ L0, SqT K H q.1 (q.2.map V.int)) ∧ L0.map (·.2) = (items.take i).map (·.1)) (by have := fit.len; omega) (fun i H H' ys s ⟨L0, e1, e2, e3⟩ => ⟨L0, e1, fun q hq => Same.seqT s (e2 q hq), e3⟩) (fun D i H ys zs o hp ⟨L0, e1, e2, e3⟩ => ⟨L0, e1, fun q hq => seqT_updO (notT_lst hp) (e2 q hq), e3⟩) (fun H => ⟨[], rfl, fun q hq => absurd hq (by simp), rfl⟩) (fun i x H2 hx s2 hxe => ?_) (gm_name 4) fun D H2 ys s2 D0 D1 ly ⟨L0, e1, e2, e3⟩ => ?_
      · obtain ⟨p2, u, ks, f, ex, ee, h1, h2⟩ := hi.get (n := i) (by omega)
        obtain rfl : x = .ref p2 := by rw [ex] at hxe; exact (Option.some.inj hxe).symm
        obtain ⟨_, _, lk, _⟩ := fit.it _ (List.mem_of_getElem? ee)
        refine ⟨Same.refl _, rfl, fun Q2 hq => ?_⟩
        walk_at "rs"
        refine ⟨_, Same.seqT (Same.trans s1 s2) h1, fun q3 H3 s3 hq3 => hq _ H3 s3 fun ys ⟨L0, e1, e2, e3⟩ => ⟨L0 ++ [(q3, ks)], by rw [e1, List.map_append]; rfl, fun q hqm => ?_, ?_⟩⟩
        · rw [cut1 ks u lk] at hq3
          rcases List.mem_append.mp hqm with hqm | hqm
          · exact e2 q hqm
          · rw [List.mem_singleton.mp hqm]; exact hq3
        · obtain ⟨hk, e⟩ := List.getElem?_eq_some_iff.mp ee
          rw [← List.take_append_getElem hk, e, List.map_append, List.map_append, e3]
          rfl
      · rw [lx, List.take_length] at e3
        have lL0 : L0.length = items.length := by
          have := congrArg List.length e3
          rw [List.length_map, List.length_map] at this
          exact this
        refine ⟨D, L0, rfl, SqL.of (by rw [← e1]; exact D1), e2, ?_, fun sa L sa0 sub all => ?_⟩
        · obtain ⟨S, hS, mS⟩ := fit.few
          refine ⟨S, hS, fun q hq => ?_⟩
          have : q.2 ∈ items.map (·.1) := by rw [← e3]; exact List.mem_map_of_mem hq
          obtain ⟨it, hit, e⟩ := List.mem_map.mp this
          rw [← e]; exact mS it hit
        · change rSortedT K P w [V.ref sa] (L2.upd H2 sa (SetTO P w sa L)) _
          have s2a : Same H2 (L2.upd H2 sa (SetTO P w sa L)) := same_upd sa0
          have spots : ∀ q ∈ L, SqT K (L2.upd H2 sa (SetTO P w sa L)) q.1 (q.2.map V.int) := fun q hq => Same.seqT s2a (e2 q (sub q hq))
          have bnd : ∀ q ∈ L, q.2.length = d ∧ TS.Bd 2000 q.2 := fun q hq => by
            have : q.2 ∈ items.map (·.1) := by rw [← e3]; exact List.mem_map_of_mem (sub q hq)
            obtain ⟨it, hit, e⟩ := List.mem_map.mp this
            obtain ⟨_, _, l, b⟩ := fit.it it hit
            rw [← e]; exact ⟨l, b⟩
          refine ⟨sa, L, d, 2000, rfl, upd_same, spots, d1, bnd, fun L' sp pm nd few pw sp0 => ?_⟩
          have sA : Same (L2.upd H2 sa (SetTO P w sa L)) (L2.upd (L2.upd H2 sa (SetTO P w sa L)) sp (.lst (L'.map fun q => V.ref q.1))) := same_upd sp0
          have hsp : (L2.upd (L2.upd H2 sa (SetTO P w sa L)) sp (.lst (L'.map fun q => V.ref q.1))) sp = some (.lst (L'.map fun q => V.ref q.1)) := upd_same
          have spots' : ∀ q ∈ L', SqT K (L2.upd (L2.upd H2 sa (SetTO P w sa L)) sp (.lst (L'.map fun q => V.ref q.1))) q.1 (q.2.map V.int) := fun q hq => Same.seqT sA (spots q (pm.mem_iff.mp hq))
          have sH : Same H (L2.upd (L2.upd H2 sa (SetTO P w sa L)) sp (.lst (L'.map fun q => V.ref q.1))) := Same.trans s1 (Same.trans s2 (Same.trans s2a sA))
          have pG := Same.trans s2 (Same.trans s2a sA) _ _ p1
          have psp : p ≠ sp := fun e => by
            have := Same.trans s2 s2a _ _ p1
            rw [e, sp0] at this; cases this
          generalize L2.upd (L2.upd H2 sa (SetTO P w sa L)) sp (.lst (L'.map fun q => V.ref q.1)) = G0 at *
          have all' : ∀ it ∈ items, it.1 ∈ L'.map (·.2) := fun it hit => by
            have : it.1 ∈ L0.map (·.2) := by rw [e3]; exact List.mem_map_of_mem hit
            obtain ⟨q, hq, e⟩ := List.mem_map.mp this
            have := all q hq
            rw [e] at this
            exact (pm.map (·.2)).mem_iff.mpr this
          have srt : (L'.map (·.2)).Pairwise fun a b => cd a < cd b := by
            have pw2 : (L'.map (·.2)).Pairwise fun a b => cd a ≤ cd b := List.pairwise_map.mpr pw
            refine (pw2.and nd).imp_of_mem fun {x y} hx hy h => ?_
            refine Int.lt_iff_le_and_ne.mpr ⟨h.1, fun e => h.2 ?_⟩
            obtain ⟨qx, hqx, rfl⟩ := List.mem_map.mp hx
            obtain ⟨qy, hqy, rfl⟩ := List.mem_map.mp hy
            obtain ⟨l1, b1⟩ := bnd qx (pm.mem_iff.mp hqx)
            obtain ⟨l2, b2⟩ := bnd qy (pm.mem_iff.mp hqy)
            have o : ∀ z : Int, cd [z] = z := fun z => by
              show z * 2000 ^ 0 + 0 = z
              omega
            generalize qx.2 = x at *
            generalize qy.2 = y at *
            match x, y, l1, l2, b1, b2, e, d1, d2 with
            | [u], [v], _, _, _, _, e, _, _ => rw [o, o] at e; rw [e]
            | [_, _], [_, _], _, _, b1, b2, e, _, _ => exact cd_inj b1 b2 e
            | [], _, h, _, _, _, _, _, _ => simp at h; omega
            | _ :: _ :: _ :: _, _, h, _, _, _, _, _, _ => simp at h; omega
            | [_], [], _, h, _, _, _, _, _ => simp at h; omega
            | [_], _ :: _ :: _, h, h2, _, _, _, _, _ => simp at h h2; omega
            | [_, _], [], _, h, _, _, _, _, _ => simp at h; omega
            | [_, _], [_], h, h2, _, _, _, _, _ => simp at h h2; omega
            | [_, _], _ :: _ :: _ :: _, _, h, _, _, _, _, _ => simp at h; omega
          have hl : ∀ it ∈ items, low it.2 := fun it hit => (fit.it it hit).1
          have nm := norm_of (items := items) hl srt all'
          refine ⟨sp, rfl, ⟨_, SqL.of hsp⟩, for_list (D := { nx := N, rt := Q }) (K := K) (a := sp) (xs := L'.map fun q => V.ref q.1) (fun i σ G => ∃ (x2 x3 x4 : Option V) (ys : List V), σ = [some (.ref a), some (.ref p), x2, x3, x4] ∧ Same H G ∧ (∀ q ∈ L', SqT K G q.1 (q.2.map V.int)) ∧ G sp = some (.lst (L'.map fun q => V.ref q.1)) ∧ G p = some (.lst ys) ∧ Its K G ys ((((L'.map fun q : Addr × List Int => q.2).take i).filter fun k => decide (accF items k ≠ (0, 1))).map fun k => (k, accF items k))) ⟨_, _, _, [], rfl, sH, spots', hsp, pG, .nil⟩ (fun i σ G _ ⟨_, _, _, _, _, _, _, h, _⟩ => SqL.of h) ?_ ?_⟩
          · rintro i x σ G hx ⟨x2, x3, x4, ys, rfl, sG, sq, hs, hp, hits⟩
            have hi9 : i < L'.length := by
              have := (List.getElem?_eq_some_iff.mp hx).1
              rw [List.length_map] at this
              exact this
            have eq : L'[i]? = some L'[i] := List.getElem?_eq_getElem hi9
            obtain rfl : x = .ref L'[i].1 := by
              rw [List.getElem?_map, eq] at hx
              exact (Option.some.inj hx).symm
            have et : (L'.map fun q : Addr × List Int => q.2).take (i + 1) = (L'.map fun q : Addr × List Int => q.2).take i ++ [L'[i].2] := by
              obtain ⟨hk, e⟩ := List.getElem?_eq_some_iff.mp (show (L'.map fun q : Addr × List Int => q.2)[i]? = some L'[i].2 by rw [List.getElem?_map, eq]; rfl)
              rw [← List.take_append_getElem hk, e]
            have mq : L'[i] ∈ L' := List.getElem_mem hi9
            have hq1 := sq _ mq
            obtain ⟨lc, bc⟩ := bnd _ (pm.mem_iff.mp mq)
            generalize L'[i] = q at *
            obtain ⟨qa, c⟩ := q
            dsimp only at hq1 lc bc et
            show tSeq _ _ _ [some (V.ref a), some (V.ref p), some (V.ref qa), x3, x4] G
            refine seq_op fun N1 hN1 => ?_
            walk_at "rs"
            refine ⟨by decide, fun t0 G1 s3 n0 t01 => hN1 _ _ ?_⟩
            clear hN1 N1
            refine cut_seq (fun σ G2 => ∃ (tt : Addr) (x4 : Option V), σ = [some (.ref a), some (.ref p), some (.ref qa), some (.ref tt), x4] ∧ Same G1 G2 ∧ Pr K G2 tt (accF items c).1 (accF items c).2) (fun N1 hN1 => ?_) ?_
            · refine for_lt (K := K) (a := a) (xs := xs) (fun Q q => ⟨_, rfl, q⟩) (ha.imp (Same.trans sG s3).seq (Same.seqT (Same.trans sG s3))) (fun j σ G2 => ∃ (tt : Addr) (x4 : Option V), σ = [some (.ref a), some (.ref p), some (.ref qa), some (.ref tt), x4] ∧ Same G1 G2 ∧ Pr K G2 tt (accF (items.take j) c).1 (accF (items.take j) c).2) ⟨t0, _, rfl, Same.refl _, .inl (.inl t01)⟩ (fun j σ G2 ⟨_, _, _, h, _⟩ => h) ?_ ?_
              · rintro j x σ G2 hxj ⟨tt, x4, rfl, s4, ptt⟩
                obtain ⟨p2, u, ks, f, ex, ee, h1, h2⟩ := hi.get (n := j) (by rw [← lx]; exact (List.getElem?_eq_some_iff.mp hxj).1)
                obtain rfl : x = .ref p2 := by rw [ex] at hxj; exact (Option.some.inj hxj).symm
                obtain ⟨lf, wf, lk, _⟩ := fit.it _ (List.mem_of_getElem? ee)
                dsimp only at lf wf lk
                have sH2 := Same.trans sG (Same.trans s3 s4)
                have es : items.take (j + 1) = items.take j ++ [(ks, f)] := by
                  obtain ⟨hk, e⟩ := List.getElem?_eq_some_iff.mp ee
                  rw [← List.take_append_getElem hk, e]
                show tIfS _ _ _ _ [some (V.ref a), some (V.ref p), some (V.ref qa), some (V.ref tt), some (V.ref p2)] G2
                walk_at "rs"
                refine ⟨_, Same.seqT sH2 h1, fun q3 G3 s5 hq3 => ?_⟩
                rw [cut1 ks u lk] at hq3
                have s35 := Same.trans s3 (Same.trans s4 s5)
                refine ⟨_, _, .tup hq3 (dp_ints ks), .tup (Same.seqT s35 hq1) (dp_ints c), sh_ints ks (by omega) (by omega), sh_ints c (by omega) (by omega), _, rfl, ?_⟩
                rw [eqv_ints, es, accF_snoc]
                by_cases z : ks = c
                · rw [decide_eq_true z, if_pos rfl, if_pos z]
                  obtain ⟨la, _, wa⟩ := accF_spec (items := items.take j) (fun it hit => (fit.it it (List.mem_of_mem_take hit)).1) c
                  have wb : wt (accF (items.take j) c) ≤ 3900 := Nat.le_trans wa (Nat.le_trans (wtS_take items j c) (fit.wt c))
                  exact ⟨_, Same.seqT (Same.trans sH2 s5) h1, _, at_last ks u (by omega) (by omega), tt, u, _, f, rfl, Same.seqT s5 ptt, Same.seqT (Same.trans sH2 s5) h2, la, lf, by omega, by omega, fun t5 H6 s6 n6 t6 => ⟨t5, _, ⟨rfl, rfl⟩, Same.trans s4 (Same.trans s5 s6), .inl (.inl t6)⟩⟩
                · rw [decide_eq_false z, if_neg (by simp), if_neg z]
                  exact ⟨tt, _, ⟨rfl, rfl⟩, Same.trans s4 s5, Same.seqT s5 ptt⟩
              · rintro σ G2 ⟨tt, x4, rfl, s4, ptt⟩
                rw [lx, List.take_length] at ptt
                exact hN1 _ _ ⟨tt, _, rfl, s4, ptt⟩
            · rintro σ G2 ⟨tt, x4, rfl, s4, ptt⟩
              walk_at "rs"
              have s34 := Same.trans s3 s4
              have sG2 := Same.trans sG s34
              have lowc := (accF_spec hl c).1
              refine ⟨_, ptt, _, rfl, _, rfl, ite2 (fun n9 => ?_) (fun n9 => ?_)⟩
              · have hp2 := s34 _ _ hp
                have nz : accF items c ≠ (0, 1) := fun z => n9 (by rw [z])
                refine ⟨.inl ⟨rfl, _, SqL.of hp2⟩, by decide, fun p5 H5 s5 n5 t5 => ⟨_, Same.seqT (Same.trans s34 s5) hq1, _, .inl (.inl t5), Nat.le_trans (show _ ≤ 10 by rw [List.length_map]; simp only [List.length_cons, List.length_nil]; omega) (by decide), fun q6 H6 s6 hq6 => ?_⟩⟩
                have s36 := Same.trans s34 (Same.trans s5 s6)
                have hp6 := s36 _ _ hp
                have nt6 := notT_lst hp6
                refine ⟨ys, hp6, ?_, _, _, _, ⟨rfl, rfl, rfl⟩, ?_, fun q hq => seqT_updO nt6 (Same.seqT s36 (sq q hq)), ?_, _, upd_same, ?_⟩
                · have := hits.len
                  rw [List.length_map] at this
                  rw [this]
                  refine Nat.lt_of_le_of_lt (List.length_filter_le _ _) (Nat.lt_of_le_of_lt (show _ ≤ 64 by rw [List.length_take, List.length_map]; omega) (by decide))
                · intro b o e
                  have ne : b ≠ p := fun z => by rw [z, p0] at e; cases e
                  rw [upd_ne ne]
                  exact Same.trans sG s36 _ _ e
                · rw [upd_ne (Ne.symm psp)]
                  exact s36 _ _ hs
                · rw [et, List.filter_append, List.map_append]
                  refine ((hits.same s36).updO nt6).app ?_
                  simp only [List.filter_cons, decide_eq_true (p := accF items c ≠ (0, 1)) nz, List.filter_nil, if_true, List.map_cons, List.map_nil]
                  exact .cons (seqT_updO nt6 hq6) (seqT_updO nt6 (Same.seqT (Same.trans s5 s6) ptt)) .nil
              · have z : accF items c = (0, 1) := (low_null lowc).mp (Classical.not_not.mp n9)
                refine ⟨_, _, _, ⟨rfl, rfl, rfl⟩, sG2, fun q hq => Same.seqT s34 (sq q hq), s34 _ _ hs, ys, s34 _ _ hp, ?_⟩
                rw [et, List.filter_append, List.map_append]
                have : decide (accF items c ≠ (0, 1)) = false := decide_eq_false fun n => n z
                simp only [List.filter_cons, this, List.filter_nil, List.map_nil, List.append_nil]
                simpa using hits.same s34
          · rintro σ G ⟨x2, x3, x4, ys, rfl, sG, sq, hs, hp, hits⟩
            rw [List.length_map, show L'.length = (L'.map fun q : Addr × List Int => q.2).length from (List.length_map ..).symm, List.take_length] at hits
            refine hN _ _ ⟨_, _, _, ys, _, rfl, sG, hp, hits, nm, ?_⟩
            rw [List.length_map]
            exact Nat.lt_of_le_of_lt (List.length_filter_le _ _) (by rw [List.length_map]; omega)
    · rintro σ G ⟨x2, x3, x4, ys, its', rfl, sG, hp, hi', nm, l64⟩
      walk_at "rs"
      exact ⟨ys, SqL.of hp, fun t H3 s3 t0 t1 => k t ys its' H3 (Same.trans sG s3) (.inl (.inl t1)) (hi'.same s3) nm l64⟩
end
end LK

set_option Elab.async false
set_option linter.all false
set_option maxRecDepth 100000
namespace LK
open PySem PySem.Spec PyProof.Rows L2
local macro_rules | `(tactic| walk_at "rs") => `(tactic| simp only [cxK, cxNK, tCallZ, tAsg, tOp, rI0, rS0, rB0, rI, rU, tUn, rEq, rNe, rIxL, rIxT, rIxS, rSetL, rSlLU, rSlS, rSlU, rCatL, rCatU, rRepL, rIn, tVar, tC, gName, gSub, tIfS, tTest, tB, tAnd, tOr, tNot, tNotV, tAndV, tOrV, tIf, tCall, tCons, tNil, tCB, tDrop, tRet, tRetN, tNext, tLstU, tTupU, tM0, tM1, tPar, tPar3, tAug, ipI, tBM, tBM0, rAppend, rPop, tBreak, sDPut, tDGet, tDGet2, tCont, tChain, tSl, tPart, tNoPart, L2.start, List.map, List.length_cons, List.length_nil, List.replicate, List.cons_append, List.nil_append, List.append_nil, List.getElem?_cons_zero, List.getElem?_cons_succ, List.set_cons_zero, List.set_cons_succ, Option.some.injEq, V.int.injEq, V.ref.injEq, V.str.injEq, V.bl.injEq, exists_eq_left', exists_eq_left, exists_and_left, decide_eq_true_eq, List.cons.injEq, and_true, true_and, scal, Bool.not_eq_true', decide_eq_false_iff_not, Nat.zero_add, Nat.reduceAdd, Nat.reduceSub, reduceCtorEq, false_and, exists_false, false_or, or_false, CPow, CPowW, CMul, CDiv, Int.reduceToNat, ↓reduceIte, wipe, sw, List.nil_append, List.singleton_append])
local macro_rules | `(tactic| walk_at "st") => `(tactic| (refine seq_op fun N hN => ?_; walk_at "rs"))
local macro_rules | `(tactic| walk_at "sd") => `(tactic| first | assumption | decide | omega)
local macro_rules | `(tactic| walk_at "rd") => `(tactic| repeat (first
  | refine ⟨_, SqL.of (by assumption), ?_⟩ | refine ⟨_, SqL.of upd_same, ?_⟩ | refine ⟨_, .inl (SqL.of (by assumption)), ?_⟩ | refine ⟨_, (by assumption : _ = some (HO.lst _)), ?_⟩ | refine ⟨_, upd_same, ?_⟩
  | refine ⟨_, rfl, ?_⟩ | refine And.intro (by walk_at "sd") ?_))

/-! ### what the law knows of its lists -/
theorem wtS_cons (x : It) (b : List It) (k : List Int) : wtS (x :: b) k = (if x.1 = k then wt x.2 + 1 else 0) + wtS b k := by
  have h := wtS_app [x] b k
  have e : wtS [x] k = 1 + (if x.1 = k then wt x.2 + 1 else 0) := by
    unfold wtS
    simp only [List.foldl_cons, List.foldl_nil]
    split <;> rfl
  rw [e] at h
  rw [show x :: b = [x] ++ b from rfl]
  omega
theorem wtS_perm {a b : List It} (h : a.Perm b) (k : List Int) : wtS a k = wtS b k := by
  induction h with
  | nil => rfl
  | cons x _ ih => rw [wtS_cons, wtS_cons, ih]
  | swap x y l => rw [wtS_cons, wtS_cons, wtS_cons, wtS_cons]; omega
  | trans _ _ ih1 ih2 => exact ih1.trans ih2
theorem wtS_none {k : List Int} : ∀ {l : List It}, (∀ x ∈ l, x.1 ≠ k) → wtS l k = 1
  | [], _ => rfl
  | a :: l, h => by
    rw [wtS_cons, if_neg (h a List.mem_cons_self), wtS_none fun x hx => h x (List.mem_cons_of_mem _ hx)]
theorem wtS_srt {k : List Int} {B : Nat} : ∀ {l : List It}, (l.Pairwise fun a b => cd a.1 < cd b.1) → (∀ x ∈ l, x.1 = k → wt x.2 ≤ B) → wtS l k ≤ B + 2
  | [], _, _ => by show 1 ≤ _; omega
  | a :: l, hs, h => by
    rw [List.pairwise_cons] at hs
    rw [wtS_cons]
    by_cases e : a.1 = k
    · have z : ∀ x ∈ l, x.1 ≠ k := fun x hx e2 => by
        have := hs.1 x hx
        rw [e, e2] at this
        omega
      rw [if_pos e, wtS_none z]
      have := h a List.mem_cons_self e
      omega
    · rw [if_neg e]
      have := wtS_srt (k := k) hs.2 fun x hx => h x (List.mem_cons_of_mem _ hx)
      omega
theorem wtS_map {f : Fr → Fr} {k : List Int} : ∀ {l : List It}, (∀ x ∈ l, wt (f x.2) ≤ wt x.2) → wtS (l.map fun x => (x.1, f x.2)) k ≤ wtS l k
  | [], _ => Nat.le_refl _
  | a :: l, h => by
    rw [List.map_cons, wtS_cons, wtS_cons]
    have h1 := h a List.mem_cons_self
    have h2 := wtS_map (k := k) (l := l) fun x hx => h x (List.mem_cons_of_mem _ hx)
    dsimp only
    split <;> omega
theorem Few.of {n : Nat} {a b : List It} (h : Few n a) (e : ∀ x ∈ b, ∃ y ∈ a, y.1 = x.1) : Few n b := by
  obtain ⟨S, h1, h2⟩ := h
  refine ⟨S, h1, fun x hx => ?_⟩
  obtain ⟨y, hy, e⟩ := e x hx
  rw [← e]; exact h2 y hy
theorem Norm.spot {its l : List It} (h : Norm (accR its) l) : ∀ x ∈ l, ∃ y ∈ its, y.1 = x.1 := fun x hx => by
  obtain ⟨a, b, c⟩ := h.it x hx
  refine Classical.byContradiction fun n => b ((rt_null a).mp (c.trans (accF_none fun it hit e => n ⟨it, hit, e⟩).2))
structure Ft (d n m l : Nat) (its : List It) : Prop where
  it : ∀ x ∈ its, low x.2 ∧ wt x.2 ≤ 3900 ∧ x.1.length = d ∧ TS.Bd 2000 x.1
  wt : ∀ k, wtS its k ≤ m
  few : Few n its
  len : its.length ≤ l
theorem Ft.fit {d n m l : Nat} {its : List It} (h : Ft d n m l its) (hn : n ≤ 62) (hm : m ≤ 3900) (hl : l ≤ 1000) : Fit d its := by
  obtain ⟨S, h1, h2⟩ := h.few
  exact ⟨h.it, fun k => Nat.le_trans (h.wt k) hm, ⟨S, by omega, h2⟩, Nat.le_trans h.len hl⟩
theorem Ft.of {d n m l n' m' l' : Nat} {its : List It} (h : Ft d n m l its) (hn : n ≤ n') (hm : m ≤ m') (hl : l ≤ l') : Ft d n' m' l' its := ⟨h.it, fun k => Nat.le_trans (h.wt k) hm, h.few.le hn, Nat.le_trans h.len hl⟩
theorem Ft.app {d n m l n' m' l' : Nat} {a b : List It} (h : Ft d n m l a) (g : Ft d n' m' l' b) : Ft d (n + n') (m + m') (l + l') (a ++ b) := by
  refine ⟨fun x hx => (List.mem_append.mp hx).elim (h.it x) (g.it x), fun k => ?_, h.few.app g.few, by rw [List.length_append]; exact Nat.add_le_add h.len g.len⟩
  have := wtS_app a b k
  have := h.wt k
  have := g.wt k
  omega
/-- with the same spots -/
theorem Ft.app2 {d n m l n' m' l' : Nat} {a b : List It} (h : Ft d n m l a) (g : Ft d n' m' l' b) (e : ∀ x ∈ b, ∃ y ∈ a, y.1 = x.1) : Ft d n (m + m') (l + l') (a ++ b) := by
  obtain ⟨h1, h2, _, h4⟩ := h.app g
  refine ⟨h1, h2, h.few.of fun x hx => ?_, h4⟩
  rcases List.mem_append.mp hx with hx | hx
  · exact ⟨x, hx, rfl⟩
  · exact e x hx
theorem Ft.perm {d n m l : Nat} {a b : List It} (h : Ft d n m l a) (p : b.Perm a) : Ft d n m l b :=
  ⟨fun x hx => h.it x (p.mem_iff.mp hx), fun k => by rw [wtS_perm p]; exact h.wt k, h.few.of fun x hx => ⟨x, p.mem_iff.mp hx, rfl⟩, by rw [p.length_eq]; exact h.len⟩
theorem Ft.map {d n m l : Nat} {a : List It} (h : Ft d n m l a) {f : Fr → Fr} (hf : ∀ x ∈ a, low (f x.2) ∧ LK.wt (f x.2) ≤ LK.wt x.2) : Ft d n m l (a.map fun x => (x.1, f x.2)) := by
  refine ⟨fun x hx => ?_, fun k => Nat.le_trans (wtS_map fun x hx => (hf x hx).2) (h.wt k), h.few.of fun x hx => ?_, by rw [List.length_map]; exact h.len⟩
  · obtain ⟨y, hy, rfl⟩ := List.mem_map.mp hx
    obtain ⟨a1, a2, a3, a4⟩ := h.it y hy
    obtain ⟨b1, b2⟩ := hf y hy
    exact ⟨b1, Nat.le_trans b2 a2, a3, a4⟩
  · obtain ⟨y, hy, rfl⟩ := List.mem_map.mp hx
    exact ⟨y, hy, rfl⟩
theorem Ft.norm {d n m l : Nat} {its nf : List It} (h : Ft d n m l its) (hm : m ≤ 3900) (nm : Norm (accR its) nf) (l64 : nf.length < 64) : Ft d n (m + 2) 63 nf := by
  have hl : ∀ it ∈ its, low it.2 := fun x hx => (h.it x hx).1
  have e : ∀ x ∈ nf, LK.wt x.2 ≤ m := fun x hx => by
    obtain ⟨a1, a2, a3⟩ := nm.it x hx
    obtain ⟨b1, b2, b3⟩ := accF_spec hl x.1
    rw [rt_eq a1 b1 (a3.trans b2.symm)]
    exact Nat.le_trans b3 (h.wt x.1)
  refine ⟨fun x hx => ?_, fun k => wtS_srt nm.srt fun x hx _ => e x hx, h.few.of nm.spot, by omega⟩
  obtain ⟨y, hy, es⟩ := nm.spot x hx
  obtain ⟨_, _, y3, y4⟩ := h.it y hy
  rw [es] at y3 y4
  exact ⟨(nm.it x hx).1, Nat.le_trans (e x hx) hm, y3, y4⟩
theorem IG.ft {d n l : Nat} {wd : Int} {its : List It} (h : IG d wd its) (hw : wd ≤ 2000) (f : Few n its) (hl : its.length ≤ l) : Ft d n (l * 61 + 1) l its := by
  refine ⟨fun x hx => ?_, fun k => ?_, f, hl⟩
  · obtain ⟨o, l1, b⟩ := h.it x hx
    exact ⟨⟨o.1, o.2.1⟩, Nat.le_trans (wt_okB o) (by decide), l1, fun m hm => ⟨(b m hm).1, by have := (b m hm).2; omega⟩⟩
  · have := wtS_le (B := 60) k (l := its) fun x hx => wt_okB (h.it x hx).1
    have : its.length * 61 ≤ l * 61 := Nat.mul_le_mul_right _ hl
    omega
theorem wt_light {f : Fr} (h : okB 2000 97 f) : wt f ≤ 11 := wt_le (by decide) (Nat.lt_of_le_of_lt h.2.2.1 (by decide)) (Nat.lt_of_le_of_lt h.2.2.2 (by decide))
theorem wt_zero : wt (0, 1) = 1 := by decide
theorem wt_neg (f : Fr) : wt (-f.1, f.2) = wt f := by
  unfold wt
  dsimp only
  rw [Int.natAbs_neg]
/-! data of items -/
theorem okAll_ints : ∀ k : List Int, okAll (k.map PyData.int) = true
  | [] => rfl
  | i :: k => by
    show (okD (.int i) && okAll _) = true
    rw [okAll_ints k]
    rfl
theorem okAll_app : ∀ {a b : List PyData}, okAll a = true → okAll b = true → okAll (a ++ b) = true
  | [], _, _, h => h
  | d :: a, b, h, g => by
    unfold okAll at h
    rw [Bool.and_eq_true] at h
    show (okD d && okAll (a ++ b)) = true
    rw [h.1, okAll_app h.2 g]
    rfl
theorem depAll_ints : ∀ k : List Int, depAll (k.map PyData.int) = 0
  | [] => rfl
  | i :: k => by
    show max 0 (depAll _) = 0
    rw [depAll_ints k]
    rfl
theorem depAll_app : ∀ (a b : List PyData), depAll (a ++ b) = max (depAll a) (depAll b)
  | [], b => by show depAll b = max 0 (depAll b); rw [Nat.zero_max]
  | d :: a, b => by
    show max (dep d) (depAll (a ++ b)) = max (max (dep d) (depAll a)) (depAll b)
    rw [depAll_app a b, Nat.max_assoc]
theorem dIt_ok {it : It} (h : it.1.length ≤ 1000) : okD (dIt it) = true ∧ dep (dIt it) ≤ 2 := by
  constructor
  · refine okD_tup.mpr ⟨by rw [List.length_append, List.length_map]; simp only [List.length_cons, List.length_nil]; omega, okAll_app (okAll_ints _) rfl⟩
  · unfold dIt
    rw [dep_tup, depAll_app, depAll_ints]
    show max 0 (max (max 0 (max 0 0) + 1) 0) + 1 ≤ 2
    decide
theorem dIts_ok : ∀ {its : List It}, (∀ x ∈ its, x.1.length ≤ 1000) → okAll (its.map dIt) = true ∧ depAll (its.map dIt) ≤ 2
  | [], _ => ⟨rfl, by decide⟩
  | a :: its, h => by
    obtain ⟨h1, h2⟩ := dIt_ok (h a List.mem_cons_self)
    obtain ⟨g1, g2⟩ := dIts_ok (its := its) fun x hx => h x (List.mem_cons_of_mem _ hx)
    constructor
    · show (okD _ && okAll _) = true
      rw [h1, g1]
      rfl
    · show max _ _ ≤ 2
      omega
def OkIts (its : List It) : Prop := its.length ≤ 100000 ∧ ∀ x ∈ its, x.1.length ≤ 1000
theorem Ft.ok {d n m l : Nat} {its : List It} (h : Ft d n m l its) (d2 : d ≤ 2) (hl : l ≤ 1000) : OkIts its := ⟨Nat.le_trans h.len (Nat.le_trans hl (by decide)), fun x hx => by have := (h.it x hx).2.2.1; omega⟩
section
variable {K : PySem.W.Frag} {H : Hp} {b c : Addr} {d N : Nat} {R : List Int → Rat} {dit its : List It} {Q : VK}
theorem like_atT {t u : Addr} {ys zs : List V} (o : OkIts its) (h1 : SqT K H t ys) (i1 : Its K H ys its) (h2 : SqT K H u zs) (i2 : Its K H zs its) (q : ∀ H', Same H H' → Q (.bl true) H') : sp__law_like K 3 [.ref t, .ref u] H Q E0 := by
  obtain ⟨o1, o2⟩ := dIts_ok o.2
  exact ⟨.ref t, .ref u, .tuple (its.map dIt), rfl, .tup h1 i1.dp, .tup h2 i2.dp, okD_tup.mpr ⟨by rw [List.length_map]; exact o.1, o1⟩, by rw [dep_tup]; omega, q⟩
theorem like_atL {t u : Addr} {ys zs : List V} (o : OkIts its) (h1 : SqL K H t ys) (i1 : Its K H ys its) (h2 : SqL K H u zs) (i2 : Its K H zs its) (q : ∀ H', Same H H' → Q (.bl true) H') : sp__law_like K 3 [.ref t, .ref u] H Q E0 := by
  obtain ⟨o1, o2⟩ := dIts_ok o.2
  exact ⟨.ref t, .ref u, .list (its.map dIt), rfl, .lst h1 i1.dp, .lst h2 i2.dp, okD_lst.mpr ⟨by rw [List.length_map]; exact o.1, o1⟩, by rw [dep_lst]; omega, q⟩
/-- what gives the normal form of R -/
def Good (K : PySem.W.Frag) (H : Hp) (d : Nat) (R : List Int → Rat) (v : V) : Prop := ∃ (a : Addr) (zs : List V) (its : List It), v = .ref a ∧ SeqI K H a zs ∧ Its K H zs its ∧ Fit d its ∧ ∀ k, accR its k = R k
theorem Good.same {H' : Hp} {v : V} (s : Same H H') (g : Good K H d R v) : Good K H' d R v := let ⟨a, zs, its, e, h, i, f, r⟩ := g; ⟨a, zs, its, e, h.same s, i.same s, f, r⟩
theorem Good.kp {M : Nat} {H' : Hp} {v : V} (B : Bag M H b c) (k : Kp b H H') (g : Good K H d R v) : Good K H' d R v := let ⟨a, zs, its, e, h, i, f, r⟩ := g; ⟨a, zs, its, e, h.kp B k i, i.kp B k, f, r⟩
theorem Good.upd {p : Addr} {o : HO} {ps : List V} {v : V} (hp : H p = some (.lst ps)) (ne : v ≠ .ref p) (g : Good K H d R v) : Good K (L2.upd H p o) d R v := by
  obtain ⟨a, zs, its, e, h, i, f, r⟩ := g
  refine ⟨a, zs, its, e, ?_, i.updO (notT_lst hp), f, r⟩
  have na : a ≠ p := fun z => ne (by rw [e, z])
  rcases h with h | h
  · refine .inl ?_
    rcases h with (h | ⟨u, h⟩) | h
    · exact .inl (.inl (by rw [upd_ne na]; exact h))
    · exact .inl (.inr ⟨u, by rw [upd_ne na]; exact h⟩)
    · exact .inr h
  · exact .inr (seqT_updO (notT_lst hp) h)
theorem call_at {v : V} (nd : Norm R dit) (hd : d = 1 ∨ d = 2) (B : Bag (N + 1) H b c) (g : Good K H d R v) (q : ∀ (t : Addr) (ys : List V) H', Bag N H' b c → Kp b H H' → SqT K H' t ys → Its K H' ys dit → Q (.ref t) H') : sp_call K [.ref b, .int (d : Int), v] H Q E0 := by
  obtain ⟨a, zs, its, rfl, h, i, f, r⟩ := g
  refine ⟨b, c, a, d, N, zs, its, rfl, B, hd, h, i, f, fun t ys its' H' B' K' h1 h2 nm _ => q t ys H' B' K' h1 ?_⟩
  rw [show accR its = R from funext r] at nm
  rw [← nm.uniq nd]
  exact h2
end
end LK

set_option Elab.async false
set_option linter.all false
set_option maxRecDepth 100000
namespace LK
open PySem PySem.Spec PyProof.Rows L2
local macro_rules | `(tactic| walk_at "rs") => `(tactic| simp only [cxK, cxNK, tCallZ, tAsg, tOp, rI0, rS0, rB0, rI, rU, tUn, rEq, rNe, rIxL, rIxT, rIxS, rSetL, rSlLU, rSlS, rSlU, rCatL, rCatU, rRepL, rIn, tVar, tC, gName, gSub, tIfS, tTest, tB, tAnd, tOr, tNot, tNotV, tAndV, tOrV, tIf, tCall, tCons, tNil, tCB, tDrop, tRet, tRetN, tNext, tLstU, tTupU, tM0, tM1, tPar, tPar3, tAug, ipI, tBM, tBM0, rAppend, rPop, tBreak, sDPut, tDGet, tDGet2, tCont, tChain, tSl, tPart, tNoPart, L2.start, List.map, List.length_cons, List.length_nil, List.replicate, List.cons_append, List.nil_append, List.append_nil, List.getElem?_cons_zero, List.getElem?_cons_succ, List.set_cons_zero, List.set_cons_succ, Option.some.injEq, V.int.injEq, V.ref.injEq, V.str.injEq, V.bl.injEq, exists_eq_left', exists_eq_left, exists_and_left, decide_eq_true_eq, List.cons.injEq, and_true, true_and, scal, Bool.not_eq_true', decide_eq_false_iff_not, Nat.zero_add, Nat.reduceAdd, Nat.reduceSub, reduceCtorEq, false_and, exists_false, false_or, or_false, CPow, CPowW, CMul, CDiv, Int.reduceToNat, ↓reduceIte, wipe, sw, List.nil_append, List.singleton_append])
local macro_rules | `(tactic| walk_at "st") => `(tactic| (refine seq_op fun N hN => ?_; walk_at "rs"))
local macro_rules | `(tactic| walk_at "sd") => `(tactic| first | assumption | decide | omega)
local macro_rules | `(tactic| walk_at "rd") => `(tactic| repeat (first
  | refine ⟨_, SqL.of (by assumption), ?_⟩ | refine ⟨_, SqL.of upd_same, ?_⟩ | refine ⟨_, .inl (SqL.of (by assumption)), ?_⟩ | refine ⟨_, (by assumption : _ = some (HO.lst _)), ?_⟩ | refine ⟨_, upd_same, ?_⟩
  | refine ⟨_, rfl, ?_⟩ | refine And.intro (by walk_at "sd") ?_))

def sp_law (K : PySem.W.Frag) : Sp := fun vs H Q _ => ∃ (a : Addr) (ns : List Int), vs = [.ref a] ∧ SqL K H a (ns.map V.int) ∧ ns.length ≤ 63 ∧ ∀ H', Q (.bl true) H'
abbrev cxLaw (P : Program) (w : World) (K : PySem.W.Frag) (mg : Str → Option Value) (base : Heap) (f : Addr) (cdv : Value) (A : Around) (outer : List Env) (s : Shared) (H : Hp) (E : XK) : Cx := (cxOf CX0 P w K mg base N_law "law" (defScope s_law) f cdv A outer s H E).nox
/-- a normal form at the heap -/
def Nf (K : PySem.W.Frag) (H : Hp) (R : List Int → Rat) (v : V) (its : List It) : Prop := ∃ (a : Addr) (ys : List V), v = .ref a ∧ SqT K H a ys ∧ Its K H ys its ∧ Norm R its ∧ its.length < 64
section
variable {K : PySem.W.Frag} {H H' : Hp} {b c : Addr} {d N : Nat} {R : List Int → Rat} {dit its : List It} {Q : VK} {v u : V}
theorem Nf.same (s : Same H H') (g : Nf K H R v its) : Nf K H' R v its := let ⟨a, ys, e, h, i, n, l⟩ := g; ⟨a, ys, e, Same.seqT s h, i.same s, n, l⟩
theorem Nf.kp (B : Bag N H b c) (k : Kp b H H') (g : Nf K H R v its) : Nf K H' R v its := let ⟨a, ys, e, h, i, n, l⟩ := g; ⟨a, ys, e, seqT_kp B k h, i.kp B k, n, l⟩
theorem Nf.updO {p : Addr} {ps : List V} {o : HO} (hp : H p = some (.lst ps)) (g : Nf K H R v its) : Nf K (L2.upd H p o) R v its := let ⟨a, ys, e, h, i, n, l⟩ := g; ⟨a, ys, e, seqT_updO (notT_lst hp) h, i.updO (notT_lst hp), n, l⟩
theorem Nf.like (o : OkIts its) (g : Nf K H R v its) {t : Addr} {ys : List V} (h : SqT K H t ys) (i : Its K H ys its) (q : ∀ H', Same H H' → Q (.bl true) H') : sp__law_like K 3 [.ref t, v] H Q E0 := by
  obtain ⟨a, zs, rfl, h2, i2, _, _⟩ := g
  exact like_atT o h i h2 i2 q
/-- what the law knows of its lists -/
structure Kw (K : PySem.W.Frag) (H : Hp) (b ia ma : Addr) (vd vb : V) (d : Nat) (wd : Int) (xs ys : List V) (items more dit bit : List It) : Prop where
  hd : d = 1 ∨ d = 2
  w2 : wd ≤ 2000
  hi : H ia = some (.lst xs)
  hm : H ma = some (.lst ys)
  ni : ia ≠ b
  nm : ma ≠ b
  ti : Its K H xs items
  tm : Its K H ys more
  gi : IG d wd items
  fi : Ft d 49 1619 58 items
  fm : Ft d 4 489 8 more
  due : Nf K H (accR items) vd dit
  both : Nf K H (accR (items ++ more)) vb bit
namespace Kw
variable {ia ma : Addr} {vd vb : V} {wd : Int} {xs ys : List V} {items more bit : List It}
theorem same (q : Kw K H b ia ma vd vb d wd xs ys items more dit bit) (s : Same H H') : Kw K H' b ia ma vd vb d wd xs ys items more dit bit :=
  ⟨q.hd, q.w2, s _ _ q.hi, s _ _ q.hm, q.ni, q.nm, q.ti.same s, q.tm.same s, q.gi, q.fi, q.fm, q.due.same s, q.both.same s⟩
theorem kp (q : Kw K H b ia ma vd vb d wd xs ys items more dit bit) (B : Bag N H b c) (k : Kp b H H') : Kw K H' b ia ma vd vb d wd xs ys items more dit bit :=
  ⟨q.hd, q.w2, Kp.get k q.ni q.hi, Kp.get k q.nm q.hm, q.ni, q.nm, q.ti.kp B k, q.tm.kp B k, q.gi, q.fi, q.fm, q.due.kp B k, q.both.kp B k⟩
theorem d2 (q : Kw K H b ia ma vd vb d wd xs ys items more dit bit) : 1 ≤ d ∧ d ≤ 2 := by
  have := q.hd
  omega
theorem fd (q : Kw K H b ia ma vd vb d wd xs ys items more dit bit) : Ft d 49 1621 63 dit := by
  obtain ⟨_, _, _, _, _, n, l⟩ := q.due
  exact q.fi.norm (by decide) n l
theorem fb (q : Kw K H b ia ma vd vb d wd xs ys items more dit bit) : Ft d 53 2110 63 bit := by
  obtain ⟨_, _, _, _, _, n, l⟩ := q.both
  exact (q.fi.app q.fm).norm (by decide) n l
theorem od (q : Kw K H b ia ma vd vb d wd xs ys items more dit bit) : OkIts dit := q.fd.ok q.d2.2 (by decide)
theorem ob (q : Kw K H b ia ma vd vb d wd xs ys items more dit bit) : OkIts bit := q.fb.ok q.d2.2 (by decide)
theorem lx (q : Kw K H b ia ma vd vb d wd xs ys items more dit bit) : xs.length = items.length ∧ items.length ≤ 58 := ⟨q.ti.len, q.fi.len⟩
theorem ly (q : Kw K H b ia ma vd vb d wd xs ys items more dit bit) : ys.length = more.length ∧ more.length ≤ 8 := ⟨q.tm.len, q.fm.len⟩
/-- the program's normal form of what sums to the items is like the due one -/
theorem call (q : Kw K H b ia ma vd vb d wd xs ys items more dit bit) (B : Bag (N + 1) H b c) (g : Good K H d (accR items) v) (k : ∀ (u : V) H', Bag N H' b c → Kp b H H' → Nf K H' (accR items) u dit → Q u H') : sp_call K [.ref b, .int (d : Int), v] H Q E0 := by
  have ⟨_, _, _, _, _, n, l⟩ := q.due
  exact call_at n q.hd B g fun t zs G B1 K1 h1 h2 => k _ _ B1 K1 ⟨t, zs, rfl, h1, h2, n, l⟩
theorem callB (q : Kw K H b ia ma vd vb d wd xs ys items more dit bit) (B : Bag (N + 1) H b c) (g : Good K H d (accR (items ++ more)) v) (k : ∀ (u : V) H', Bag N H' b c → Kp b H H' → Nf K H' (accR (items ++ more)) u bit → Q u H') : sp_call K [.ref b, .int (d : Int), v] H Q E0 := by
  have ⟨_, _, _, _, _, n, l⟩ := q.both
  exact call_at n q.hd B g fun t zs G B1 K1 h1 h2 => k _ _ B1 K1 ⟨t, zs, rfl, h1, h2, n, l⟩
end Kw
theorem Nf.like2 {R R' : List Int → Rat} (o : OkIts its) (g : Nf K H R v its) (g2 : Nf K H R' u its) (q : ∀ H', Same H H' → Q (.bl true) H') : sp__law_like K 3 [v, u] H Q E0 := by
  obtain ⟨a, zs, rfl, h, i, _⟩ := g
  exact g2.like o h i q
end
end LK

set_option Elab.async false
set_option linter.all false
set_option maxRecDepth 100000
namespace LK
open PySem PySem.Spec PyProof.Rows L2
local macro_rules | `(tactic| walk_at "rs") => `(tactic| simp only [cxK, cxNK, tCallZ, tAsg, tOp, rI0, rS0, rB0, rI, rU, tUn, rEq, rNe, rIxL, rIxT, rIxS, rSetL, rSlLU, rSlS, rSlU, rCatL, rCatU, rRepL, rIn, tVar, tC, gName, gSub, tIfS, tTest, tB, tAnd, tOr, tNot, tNotV, tAndV, tOrV, tIf, tCall, tCons, tNil, tCB, tDrop, tRet, tRetN, tNext, tLstU, tTupU, tM0, tM1, tPar, tPar3, tAug, ipI, tBM, tBM0, rAppend, rPop, tBreak, sDPut, tDGet, tDGet2, tCont, tChain, tSl, tPart, tNoPart, L2.start, List.map, List.length_cons, List.length_nil, List.replicate, List.cons_append, List.nil_append, List.append_nil, List.getElem?_cons_zero, List.getElem?_cons_succ, List.set_cons_zero, List.set_cons_succ, Option.some.injEq, V.int.injEq, V.ref.injEq, V.str.injEq, V.bl.injEq, exists_eq_left', exists_eq_left, exists_and_left, decide_eq_true_eq, List.cons.injEq, and_true, true_and, scal, Bool.not_eq_true', decide_eq_false_iff_not, Nat.zero_add, Nat.reduceAdd, Nat.reduceSub, reduceCtorEq, false_and, exists_false, false_or, or_false, CPow, CPowW, CMul, CDiv, Int.reduceToNat, ↓reduceIte, wipe, sw, List.nil_append, List.singleton_append])
local macro_rules | `(tactic| walk_at "st") => `(tactic| (refine seq_op fun N hN => ?_; walk_at "rs"))
local macro_rules | `(tactic| walk_at "sd") => `(tactic| first | assumption | decide | omega)
local macro_rules | `(tactic| walk_at "rd") => `(tactic| repeat (first
  | refine ⟨_, SqL.of (by assumption), ?_⟩ | refine ⟨_, SqL.of upd_same, ?_⟩ | refine ⟨_, .inl (SqL.of (by assumption)), ?_⟩ | refine ⟨_, (by assumption : _ = some (HO.lst _)), ?_⟩ | refine ⟨_, upd_same, ?_⟩
  | refine ⟨_, rfl, ?_⟩ | refine And.intro (by walk_at "sd") ?_))

theorem norm_none : Norm (fun _ => (0 : Rat)) [] := ⟨.nil, fun x hx => absurd hx (by simp), fun k h => absurd rfl h⟩
theorem lc_itm {K : PySem.W.Frag} {a : Addr} {xs : List V} {its : List It} {te tl : TE} {i0 : Nat} {σ : L2.St} {H1 : Hp} {Q : VK} (F : Fr → Fr) (hv : ∀ Q : VK, Q (.ref a) H1 → tl σ H1 Q) (h : H1 a = some (.lst xs)) (ti : Its K H1 xs its) (hl : its.length ≤ 1000)
    (hs : ∀ (p u : Addr) (ks : List Int) (f : Fr) G, (ks, f) ∈ its → Same H1 G → SqT K G p (ks.map V.int ++ [.ref u]) → Pr K G u f.1 f.2 → ∀ Q2 : VK, (∀ (q u2 : Addr) G2, Same G G2 → SqT K G2 q (ks.map V.int ++ [.ref u2]) → Pr K G2 u2 (F f).1 (F f).2 → Q2 (.ref q) G2) → te ((wipe σ [i0]).set i0 (some (.ref p))) G Q2)
    (hq : ∀ (D : Addr) H2 ys, Same H1 H2 → H1 D = none → H2 D = some (.lst ys) → Its K H2 ys (its.map fun x : It => (x.1, F x.2)) → Q (.ref D) H2) : tLc (iList K tl) (gName i0) tYes te [i0] σ H1 Q := by
  have lx := ti.len
  refine hv _ ⟨a, rfl, ⟨xs, SqL.of h⟩, fun D hD => lc_accD (n := xs.length) walk_list (fun i H ys => Its K H ys ((its.take i).map fun x : It => (x.1, F x.2))) hD (by omega) (fun i H H2 ys s r => r.same s) (fun i H ys zs o hp r => r.updO (notT_lst hp)) .nil (fun H2 s => s.seq (SqL.of h)) (fun i x G G2 hi s n y => ?_) (gm_name i0) fun H2 ys s e l r => ?_⟩
  · obtain ⟨rfl, hx⟩ := y
    obtain ⟨p, u, ks, f, ex, ee, h1, h2⟩ := ti.get (n := i) (by omega)
    have hx : xs[i]? = some x := hx
    obtain rfl : x = .ref p := by rw [ex] at hx; exact (Option.some.inj hx).symm
    refine ⟨Same.refl _, ?_, fun Q2 hq2 => ?_⟩
    · show ((σ.set i0 none).set i0 (some _)).set i0 none = σ.set i0 none
      rw [List.set_set, List.set_set]
    · refine hs p u ks f _ (List.mem_of_getElem? ee) s (Same.seqT s h1) (Same.seqT s h2) Q2 fun q u2 G3 s3 g1 g2 => hq2 _ G3 s3 fun ys r => ?_
      have es : its.take (i + 1) = its.take i ++ [(ks, f)] := by
        obtain ⟨hk, e⟩ := List.getElem?_eq_some_iff.mp ee
        rw [← List.take_append_getElem hk, e]
      rw [es, List.map_append]
      exact r.app (.cons g1 g2 .nil)
  · rw [lx, List.take_length] at r
    exact hq D H2 ys s hD e r
theorem cut_spot {d : Nat} (h : 1 ≤ d ∧ d ≤ 2) (ks : List Int) (u : Addr) (lk : ks.length = d) : cutV (ks.map V.int ++ [V.ref u]) none (some (-1)) = ks.map V.int ∧ atI (ks.map V.int ++ [V.ref u]) (-1) = some (.ref u) := by
  match ks, lk, h with
  | [x], _, _ => exact ⟨rfl, rfl⟩
  | [x, y], _, _ => exact ⟨rfl, rfl⟩
  | [], h, h2 => simp at h; omega
  | _ :: _ :: _ :: _, h, h2 => simp at h; omega
theorem Its.nil_of {K : PySem.W.Frag} {H : Hp} {ys : List V} (h : Its K H ys []) : ys = [] := by cases h; rfl
section
variable {P : Program} {w : World} {K : PySem.W.Frag} {mg : Str → Option Value} {base : Heap}
theorem law18 (T : Txt w K mg) {cdv : Value} {A : Around} {outer : List Env} {s : Shared} {H0 : Hp} {E : XK} (hr : Room 6 (A.deeper (envOfC "law" (defScope s_law) s.heap.objs.size T.a_law cdv))) : ∃ t, PSs (cxLaw P w K mg base T.a_law cdv A outer s H0 E) ((defBody s_law).drop 18) t ∧
    ∀ (D : Ends) (σ : L2.St) (H : Hp) (b c ia ma tu : Addr) (vd vb : V) (d : Nat) (wd : Int) (xs ys : List V) (items more dit bit : List It) (x0 x3 x5 x9 x10 x12 x13 x14 : Option V), (∀ H', D.rt (.bl true) H') →
      σ = [x0, some (.ref b), some (.int (d : Int)), x3, some (.ref ia), x5, some (.ref ma), some vd, some vb, x9, x10, some (.ref tu), x12, x13, x14, none, none, none, none] → Bag 1000 H b c → Kw K H b ia ma vd vb d wd xs ys items more dit bit → H tu = some (.lst xs.reverse) → tu ≠ b → t D σ H := by
  have hr__law_draw : Room 1 _ := hr.mono (by decide)
  have G__law_draw := ok__law_draw (P := P) (base := base) T
  have hr__law_call : Room 6 _ := hr
  have G__law_call := ok__law_call (P := P) (base := base) T
  have hr__law_like : Room 4 _ := hr.mono (by decide)
  have G__law_like := ok__law_like (P := P) (base := base) T 3
  refine ⟨_, (pss_cons (ps_setLc (i := 15) (own := [("one", 13)]) (g := gName 13) (tt := tYes) rfl sc_law.nd rfl rfl (sw_true rfl rfl rfl (by decide +kernel)) (pi_list (pv 11)) (blkOk_by (own := [("one", 13)]) (N := N_law) (sc := defScope s_law) (by decide +kernel)) (fun _ _ _ _ _ => pg_name (i := 13) sc_law.nd rfl (Or.inl rfl)) (fun _ _ _ _ _ => pts_nil) (fun _ _ _ _ _ => (pe_op (op_catUK (K := K) rfl) (pe_slice (sl_tupUK (K := K) rfl) (pv 13) po_none (po_some (pe_un un_neg pe_int))) (pe_tupU (pa_cons (pe_tupU (pa_cons (pe_un un_neg (pe_ix (ix_tupK (K := K) rfl) (pe_ix (ix_tupK (K := K) rfl) (pv 13) (pe_un un_neg pe_int) (fun _ _ => rfl)) pe_int (fun _ _ => rfl))) (pa_cons (pe_ix (ix_tupK (K := K) rfl) (pe_ix (ix_tupK (K := K) rfl) (pv 13) (pe_un un_neg pe_int) (fun _ _ => rfl)) pe_int (fun _ _ => rfl)) pa_nil))) pa_nil)))))
      (pss_cons (ps_setLc (i := 16) (own := [("one", 13)]) (g := gName 13) (tt := tYes) rfl sc_law.nd rfl rfl (sw_true rfl rfl rfl (by decide +kernel)) (pi_list (pv 4)) (blkOk_by (own := [("one", 13)]) (N := N_law) (sc := defScope s_law) (by decide +kernel)) (fun _ _ _ _ _ => pg_name (i := 13) sc_law.nd rfl (Or.inl rfl)) (fun _ _ _ _ _ => pts_nil) (fun _ _ _ _ _ => (pe_op (op_catUK (K := K) rfl) (pe_slice (sl_tupUK (K := K) rfl) (pv 13) po_none (po_some (pe_un un_neg pe_int))) (pe_tupU (pa_cons (pe_tupU (pa_cons pe_int (pa_cons pe_int pa_nil))) pa_nil)))))
      (pss_cons (ps_set (i := 17) sc_law.nd rfl (Or.inl rfl) (pe_lstU (pa_cons (pe_call G__law_call hr__law_call (by rfl) T.m__law_call T.F__law_call.kp T.B__law_call .nil pass0 (pa_cons (pv 1) (pa_cons (pv 2) (pa_cons (pe_op op_catL (pv 4) (pv 15)) pa_nil)))) (pa_cons (pe_call G__law_call hr__law_call (by rfl) T.m__law_call T.F__law_call.kp T.B__law_call .nil pass0 (pa_cons (pv 1) (pa_cons (pv 2) (pa_cons (pv 16) pa_nil)))) (pa_cons (pe_call G__law_call hr__law_call (by rfl) T.m__law_call T.F__law_call.kp T.B__law_call .nil pass0 (pa_cons (pv 1) (pa_cons (pv 2) (pa_cons (pe_lstU pa_nil) pa_nil)))) pa_nil)))))
      (pss_one (ps_ret (pe_and (pe_call G__law_like hr__law_like (by rfl) T.m__law_like T.F__law_like.kp T.B__law_like .nil pass0 (pa_cons (pv 17) (pa_cons (pe_lstU (pa_cons (pe_tupU pa_nil) (pa_cons (pe_tupU pa_nil) (pa_cons (pe_tupU pa_nil) pa_nil)))) pa_nil))) (pe_one (pe_call G__law_like hr__law_like (by rfl) T.m__law_like T.F__law_like.kp T.B__law_like .nil pass0 (pa_cons (pe_call G__law_call hr__law_call (by rfl) T.m__law_call T.F__law_call.kp T.B__law_call .nil pass0 (pa_cons (pv 1) (pa_cons (pv 2) (pa_cons (pe_callTy call_tupleN (by rfl) T.n_tuple (by decide +kernel) (pa_cons (pv 4) pa_nil)) pa_nil)))) (pa_cons (pv 7) pa_nil)))))))))), ?_⟩
  rintro D σ H b c ia ma tu vd vb d wd xs ys items more dit bit x0 x3 x5 x9 x10 x12 x13 x14 k rfl B kw htu ntu
  refine seq_op fun N hN => ?_
  walk_at "rs"
  obtain ⟨lx, l58⟩ := kw.lx
  have d12 := kw.d2
  refine lc_itm (fun f => (-f.1, f.2)) (fun Q q => ⟨_, rfl, q⟩) htu kw.ti.rev (by rw [List.length_reverse]; omega) (fun p u ks f G hm s1 h1 h2 Q2 hq => ?_) fun D1 H1 ms s1 D10 D11 im => hN _ _ ?_
  · obtain ⟨_, _, lk, _⟩ := kw.fi.it _ (List.mem_reverse.mp hm)
    have lk : ks.length = d := lk
    obtain ⟨c1, a1⟩ := cut_spot d12 ks u lk
    walk_at "rs"
    refine ⟨_, h1, fun q3 G3 s3 hq3 => ⟨_, Same.seqT s3 h1, _, a1, u, rfl, _, Same.seqT s3 h2, _, rfl, f.1, rfl, _, Same.seqT s3 h1, _, a1, u, rfl, _, Same.seqT s3 h2, _, rfl, by decide, fun q4 G4 s4 q40 q41 => ⟨by decide, fun q5 G5 s5 q50 q51 => ⟨_, Same.seqT (Same.trans s4 s5) hq3, _, .inl (.inl q51), ?_, fun q6 G6 s6 hq6 => hq q6 q4 G6 (Same.trans s3 (Same.trans s4 (Same.trans s5 s6))) ?_ (.inl (.inl (Same.trans s5 s6 _ _ q41)))⟩⟩⟩⟩
    · rw [c1]
      exact Nat.le_trans (show (ks.map V.int).length + 1 ≤ 10 by rw [List.length_map]; omega) (by decide)
    · rw [c1] at hq6
      exact hq6
  clear hN N
  refine seq_op fun N hN => ?_
  walk_at "rs"
  refine lc_itm (fun f => (0, 1)) (fun Q q => ⟨_, rfl, q⟩) (s1 _ _ kw.hi) (kw.ti.same s1) (by omega) (fun p u ks f G hm s2 h1 h2 Q2 hq => ?_) fun D2 H2 zs s2 D20 D21 iz => hN _ _ ?_
  · obtain ⟨_, _, lk, _⟩ := kw.fi.it _ hm
    have lk : ks.length = d := lk
    obtain ⟨c1, a1⟩ := cut_spot d12 ks u lk
    walk_at "rs"
    refine ⟨_, h1, fun q3 G3 s3 hq3 => ⟨by decide, fun q4 G4 s4 q40 q41 => ⟨by decide, fun q5 G5 s5 q50 q51 => ⟨_, Same.seqT (Same.trans s4 s5) hq3, _, .inl (.inl q51), ?_, fun q6 G6 s6 hq6 => hq q6 q4 G6 (Same.trans s3 (Same.trans s4 (Same.trans s5 s6))) ?_ (.inl (.inl (Same.trans s5 s6 _ _ q41)))⟩⟩⟩⟩
    · rw [c1]
      exact Nat.le_trans (show (ks.map V.int).length + 1 ≤ 10 by rw [List.length_map]; omega) (by decide)
    · rw [c1] at hq6
      exact hq6
  clear hN N
  refine seq_op fun N hN => ?_
  walk_at "rs"
  have s12 := Same.trans s1 s2
  have lowi : ∀ x ∈ items, low x.2 := fun x hx => (kw.fi.it x hx).1
  have lm := im.len
  rw [List.length_map, List.length_reverse] at lm
  have fr := kw.fi.perm (List.reverse_perm items)
  have fneg : Ft d 49 1619 58 (items.reverse.map fun x : It => (x.1, ((-x.2.1, x.2.2) : Fr))) := fr.map (f := fun f => (-f.1, f.2)) fun x hx => ⟨(rt_neg (lowi x (List.mem_reverse.mp hx))).2, by rw [wt_neg]; exact Nat.le_refl _⟩
  have fz : Ft d 49 1619 58 (items.map fun x : It => (x.1, ((0, 1) : Fr))) := kw.fi.map (f := fun _ => (0, 1)) fun x hx => ⟨low_zero, by rw [wt_zero]; exact wt_pos _⟩
  have fboth := (kw.fi.app2 fneg fun x hx => by
    obtain ⟨y, hy, rfl⟩ := List.mem_map.mp hx
    exact ⟨y, List.mem_reverse.mp hy, rfl⟩).fit (by decide) (by decide) (by decide)
  have l3 : xs.length + ms.length ≤ 116 := by omega
  refine ⟨xs, s12 _ _ kw.hi, ms, s2 _ _ D11, Nat.le_trans l3 (by decide), fun p3 H3 s3 p30 p31 => ?_⟩
  have s03 := Same.trans s12 s3
  have B3 := B.same s03
  refine call_at norm_none kw.hd (N := 999) B3 ⟨p3, xs ++ ms, _, rfl, .inl (SqL.of p31), (kw.ti.same s03).app (im.same (Same.trans s2 s3)), fboth, fun k => ?_⟩ fun t1 y1 H4 B4 K4 g1 i1 => ?_
  · rw [accR_app, accR_neg k fun x hx => lowi x (List.mem_reverse.mp hx), accR_perm (List.reverse_perm items), Rat.add_neg_cancel]
  obtain rfl := i1.nil_of
  have D2b : D2 ≠ b := new_ne (B.same s1) D20
  refine call_at norm_none kw.hd (N := 998) B4 ⟨D2, zs, _, rfl, .inl (SqL.of (Kp.get K4 D2b (s3 _ _ D21))), (iz.same s3).kp B3 K4, fz.fit (by decide) (by decide) (by decide), fun k => accR_zero k items⟩ fun t2 y2 H5 B5 K5 g2 i2 => ?_
  obtain rfl := i2.nil_of
  refine ⟨Nat.zero_le _, fun p6 H6 s6 p60 p61 => ?_⟩
  have B6 := B5.same s6
  refine call_at norm_none kw.hd (N := 997) B6 ⟨p6, [], [], rfl, .inl (SqL.of p61), .nil, ⟨fun x hx => absurd hx (by simp), fun k => by show 1 ≤ _; omega, ⟨[], Nat.zero_le _, fun x hx => absurd hx (by simp)⟩, Nat.zero_le _⟩, fun k => rfl⟩ fun t3 y3 H7 B7 K7 g3 i3 => ?_
  obtain rfl := i3.nil_of
  refine ⟨by decide, fun p8 H8 s8 p80 p81 => hN _ _ ?_⟩
  clear hN N
  have g1' := Same.seqT s8 (seqT_kp B6 K7 (Same.seqT s6 (seqT_kp B4 K5 g1)))
  have g2' := Same.seqT s8 (seqT_kp B6 K7 (Same.seqT s6 g2))
  have g3' := Same.seqT s8 g3
  have kw8 : Kw K H8 b ia ma vd vb d wd xs ys items more dit bit := (((((kw.same s03).kp B3 K4).kp B4 K5).same s6).kp B6 K7).same s8
  have B8 := B7.same s8
  walk_at "rs"
  refine ⟨Nat.zero_le _, fun e1 J1 u1 e10 e11 => ⟨Nat.zero_le _, fun e2 J2 u2 e20 e21 => ⟨Nat.zero_le _, fun e3 J3 u3 e30 e31 => ⟨by decide, fun e4 J4 u4 e40 e41 => ?_⟩⟩⟩⟩
  have v14 := Same.trans u1 (Same.trans u2 (Same.trans u3 u4))
  have tup0 : ∀ {a : Addr}, SqT K J4 a [] → Dp K J4 (.ref a) (.tuple []) := fun h => .tup h .nil
  refine ⟨.ref p8, .ref e4, .list [.tuple [], .tuple [], .tuple []], rfl, .lst (SqL.of (v14 _ _ p81)) (.cons (tup0 (Same.seqT v14 g1')) (.cons (tup0 (Same.seqT v14 g2')) (.cons (tup0 (Same.seqT v14 g3')) .nil))), .lst (SqL.of e41) (.cons (tup0 (.inl (.inl (Same.trans u2 (Same.trans u3 u4) _ _ e11)))) (.cons (tup0 (.inl (.inl (Same.trans u3 u4 _ _ e21)))) (.cons (tup0 (.inl (.inl (u4 _ _ e31)))) .nil))), rfl, by decide, fun J5 u5 => ⟨true, rfl, ?_⟩⟩
  rw [if_pos rfl]
  have kwJ := (kw8.same v14).same u5
  refine ⟨xs, SqL.of kwJ.hi, fun q9 J9 u9 q90 q91 => ?_⟩
  have kw9 := kwJ.same u9
  refine kw9.call (N := 996) (((B8.same v14).same u5).same u9) ⟨q9, xs, items, rfl, .inr (.inl (.inl q91)), kw9.ti, kw9.fi.fit (by decide) (by decide) (by decide), fun k => rfl⟩ fun u J10 B10 K10 nf => ?_
  have kw10 := kw9.kp (((B8.same v14).same u5).same u9) K10
  exact nf.like2 kw10.od kw10.due fun H' _ => k H'
end
end LK

set_option Elab.async false
set_option linter.all false
set_option maxRecDepth 100000
namespace LK
open PySem PySem.Spec PyProof.Rows L2
local macro_rules | `(tactic| walk_at "rs") => `(tactic| simp only [cxK, cxNK, tCallZ, tAsg, tOp, rI0, rS0, rB0, rI, rU, tUn, rEq, rNe, rIxL, rIxT, rIxS, rSetL, rSlLU, rSlS, rSlU, rCatL, rCatU, rRepL, rIn, tVar, tC, gName, gSub, tIfS, tTest, tB, tAnd, tOr, tNot, tNotV, tAndV, tOrV, tIf, tCall, tCons, tNil, tCB, tDrop, tRet, tRetN, tNext, tLstU, tTupU, tM0, tM1, tPar, tPar3, tAug, ipI, tBM, tBM0, rAppend, rPop, tBreak, sDPut, tDGet, tDGet2, tCont, tChain, tSl, tPart, tNoPart, L2.start, List.map, List.length_cons, List.length_nil, List.replicate, List.cons_append, List.nil_append, List.append_nil, List.getElem?_cons_zero, List.getElem?_cons_succ, List.set_cons_zero, List.set_cons_succ, Option.some.injEq, V.int.injEq, V.ref.injEq, V.str.injEq, V.bl.injEq, exists_eq_left', exists_eq_left, exists_and_left, decide_eq_true_eq, List.cons.injEq, and_true, true_and, scal, Bool.not_eq_true', decide_eq_false_iff_not, Nat.zero_add, Nat.reduceAdd, Nat.reduceSub, reduceCtorEq, false_and, exists_false, false_or, or_false, CPow, CPowW, CMul, CDiv, Int.reduceToNat, ↓reduceIte, wipe, sw, List.nil_append, List.singleton_append])
local macro_rules | `(tactic| walk_at "st") => `(tactic| (refine seq_op fun N hN => ?_; walk_at "rs"))
local macro_rules | `(tactic| walk_at "sd") => `(tactic| first | assumption | decide | omega)
local macro_rules | `(tactic| walk_at "rd") => `(tactic| repeat (first
  | refine ⟨_, SqL.of (by assumption), ?_⟩ | refine ⟨_, SqL.of upd_same, ?_⟩ | refine ⟨_, .inl (SqL.of (by assumption)), ?_⟩ | refine ⟨_, (by assumption : _ = some (HO.lst _)), ?_⟩ | refine ⟨_, upd_same, ?_⟩
  | refine ⟨_, rfl, ?_⟩ | refine And.intro (by walk_at "sd") ?_))

/-- a for over a written list -/
theorem for_lit {K : PySem.W.Frag} {g : TG} {tb : TS} {D : Ends} {σ : L2.St} {H : Hp} {tl : TE} (Ok : Addr → List V → Hp → Prop) (h : ∀ R : VK, (∀ p gs G, G p = some (.lst gs) → Ok p gs G → R (.ref p) G) → tl σ H R) (Pv : Addr → List V → Nat → L2.St → Hp → Prop)
    (h0 : ∀ p gs G, G p = some (.lst gs) → Ok p gs G → Pv p gs 0 σ G) (hl : ∀ p gs i σ G, Pv p gs i σ G → G p = some (.lst gs))
    (hs : ∀ p gs i x σ G, gs[i]? = some x → Pv p gs i σ G → g x σ G fun σ2 H2 => tb { D with nx := Pv p gs (i + 1), ct := Pv p gs (i + 1), bk := D.nx } σ2 H2) (hd : ∀ p gs σ G, Pv p gs gs.length σ G → D.nx σ G) : tFor (iList K tl) g tb D σ H :=
  h _ fun p gs G e ok => ⟨p, rfl, ⟨gs, SqL.of e⟩, for_list (K := K) (a := p) (xs := gs) (Pv p gs) (h0 p gs G e ok) (fun i σ G _ q => SqL.of (hl p gs i σ G q)) (fun i x σ G => hs p gs i x σ G) fun σ G => hd p gs σ G⟩
section
variable {P : Program} {w : World} {K : PySem.W.Frag} {mg : Str → Option Value} {base : Heap}
theorem law13 (T : Txt w K mg) {cdv : Value} {A : Around} {outer : List Env} {s : Shared} {H0 : Hp} {E : XK} (hr : Room 6 (A.deeper (envOfC "law" (defScope s_law) s.heap.objs.size T.a_law cdv))) : ∃ t, PSs (cxLaw P w K mg base T.a_law cdv A outer s H0 E) ((defBody s_law).drop 13) t ∧
    ∀ (D : Ends) (σ : L2.St) (H : Hp) (b c ia ma : Addr) (vd vb vf : V) (d : Nat) (wd : Int) (xs ys : List V) (items more dit bit : List It) (x0 x3 x5 x9 : Option V), (∀ H', D.rt (.bl true) H') →
      σ = [x0, some (.ref b), some (.int (d : Int)), x3, some (.ref ia), x5, some (.ref ma), some vd, some vb, x9, some vf, none, none, none, none, none, none, none, none] → Bag 2000 H b c → Kw K H b ia ma vd vb d wd xs ys items more dit bit → Nf K H (accR items) vf dit → t D σ H := by
  have hr__law_draw : Room 1 _ := hr.mono (by decide)
  have G__law_draw := ok__law_draw (P := P) (base := base) T
  have hr__law_call : Room 6 _ := hr
  have G__law_call := ok__law_call (P := P) (base := base) T
  have hr__law_like : Room 4 _ := hr.mono (by decide)
  have G__law_like := ok__law_like (P := P) (base := base) T 3
  have hr__law_parted : Room 4 _ := hr.mono (by decide)
  have G__law_parted := ok__law_parted (P := P) (base := base) T
  obtain ⟨t18, h18, go18⟩ := law18 (P := P) (base := base) (outer := outer) (H0 := H0) (E := E) T hr
  refine ⟨_, (pss_cons (ps_set (i := 11) sc_law.nd rfl (Or.inl rfl) (pe_revL (pv 4)))
      (pss_cons (ps_set (i := 12) sc_law.nd rfl (Or.inl rfl) (pe_call G__law_draw hr__law_draw (by rfl) T.m__law_draw T.F__law_draw.kp T.B__law_draw .nil pass0 (pa_cons (pv 1) (pa_cons (pe_op op_add (pe_callB call_len_seq (by rfl) T.n_len (by decide +kernel) (pa_cons (pv 4) pa_nil)) pe_int) pa_nil))))
      (pss_cons (ps_for PassesOwn.never rfl (pi_list (pe_lstU (pa_cons (pe_callTy call_tupleN (by rfl) T.n_tuple (by decide +kernel) (pa_cons (pv 11) pa_nil)) (pa_cons (pe_op op_catL (pe_slice sl_listU (pv 4) (po_some (pv 12)) po_none) (pe_slice sl_listU (pv 4) po_none (po_some (pv 12)))) (pa_cons (pe_callTy call_listU (by rfl) T.n_list (by decide +kernel) (pa_cons (pv 10) pa_nil)) (pa_cons (pv 10) (pa_cons (pe_call G__law_parted hr__law_parted (by rfl) T.m__law_parted T.F__law_parted.kp T.B__law_parted .nil pass0 (pa_cons (pv 1) (pa_cons (pv 4) pa_nil))) pa_nil))))))) (pg_name (i := 13) sc_law.nd rfl (Or.inl rfl)) (pss_one (ps_if (pt_not (pt_val (pe_call G__law_like hr__law_like (by rfl) T.m__law_like T.F__law_like.kp T.B__law_like .nil pass0 (pa_cons (pe_call G__law_call hr__law_call (by rfl) T.m__law_call T.F__law_call.kp T.B__law_call .nil pass0 (pa_cons (pv 1) (pa_cons (pv 2) (pa_cons (pv 13) pa_nil)))) (pa_cons (pv 7) pa_nil))))) (pss_one (ps_ret pe_bl)) pss_nil)))
      (pss_cons (ps_set (i := 14) sc_law.nd rfl (Or.inl rfl) (pe_call G__law_call hr__law_call (by rfl) T.m__law_call T.F__law_call.kp T.B__law_call .nil pass0 (pa_cons (pv 1) (pa_cons (pv 2) (pa_cons (pv 6) pa_nil)))))
      (pss_cons (ps_for PassesOwn.never rfl (pi_list (pe_lstU (pa_cons (pe_op op_catL (pe_callTy call_listU (by rfl) T.n_list (by decide +kernel) (pa_cons (pv 10) pa_nil)) (pv 6)) (pa_cons (pe_op op_catL (pe_callTy call_listU (by rfl) T.n_list (by decide +kernel) (pa_cons (pv 14) pa_nil)) (pe_callTy call_listU (by rfl) T.n_list (by decide +kernel) (pa_cons (pv 10) pa_nil))) (pa_cons (pe_op op_catL (pv 4) (pe_callTy call_listU (by rfl) T.n_list (by decide +kernel) (pa_cons (pv 14) pa_nil))) (pa_cons (pe_op op_catL (pv 6) (pv 4)) pa_nil)))))) (pg_name (i := 13) sc_law.nd rfl (Or.inl rfl)) (pss_one (ps_if (pt_not (pt_val (pe_call G__law_like hr__law_like (by rfl) T.m__law_like T.F__law_like.kp T.B__law_like .nil pass0 (pa_cons (pe_call G__law_call hr__law_call (by rfl) T.m__law_call T.F__law_call.kp T.B__law_call .nil pass0 (pa_cons (pv 1) (pa_cons (pv 2) (pa_cons (pv 13) pa_nil)))) (pa_cons (pv 8) pa_nil))))) (pss_one (ps_ret pe_bl)) pss_nil)))
      h18))))), ?_⟩
  rintro D σ H b c ia ma vd vb vf d wd xs ys items more dit bit x0 x3 x5 x9 k rfl B kw fnd
  obtain ⟨lx, l58⟩ := kw.lx
  obtain ⟨ly, l8⟩ := kw.ly
  refine seq_op fun N hN => ?_
  walk_at "rs"
  refine ⟨_, rfl, ia, xs, rfl, SqL.of kw.hi, fun tu tu0 => hN _ _ ?_⟩
  clear hN N
  have s1 : Same H (L2.upd H tu (.lst xs.reverse)) := same_upd tu0
  have htu : (L2.upd H tu (.lst xs.reverse)) tu = some (.lst xs.reverse) := upd_same
  have ntu := new_ne B tu0
  generalize L2.upd H tu (.lst xs.reverse) = H1 at *
  replace B := B.same s1
  replace kw := kw.same s1
  replace fnd := fnd.same s1
  clear s1 tu0 H
  refine seq_op fun N hN => ?_
  walk_at "rs"
  refine ⟨xs, .inl (SqL.of kw.hi), b, c, _, 1999, rfl, B, by omega, by omega, fun r H2 r0 r1 B2 K2 => hN _ _ ?_⟩
  clear hN N
  obtain ⟨at1, rfl⟩ : ∃ at1 : Nat, r = (at1 : Int) := ⟨r.toNat, by omega⟩
  replace kw := kw.kp B K2
  replace fnd := fnd.kp B K2
  replace htu := Kp.get K2 ntu htu
  clear B K2 r0 r1 H1
  refine seq_op fun N hN => ?_
  walk_at "rs"
  refine for_lit (fun p gs G => gs.length ≤ 5 ∧ p ≠ b ∧ Bag 1990 G b c ∧ Kw K G b ia ma vd vb d wd xs ys items more dit bit ∧ Nf K G (accR items) vf dit ∧ G tu = some (.lst xs.reverse) ∧ ∀ v ∈ gs, Good K G d (accR items) v) (fun R hR => ?_)
    (fun p gs i σ G => ∃ x13, σ = [x0, some (V.ref b), some (V.int ↑d), x3, some (V.ref ia), x5, some (V.ref ma), some vd, some vb, x9, some vf, some (V.ref tu), some (V.int ↑at1), x13, none, none, none, none, none] ∧ i ≤ gs.length ∧ gs.length ≤ 5 ∧ p ≠ b ∧ Bag (1985 + (gs.length - i)) G b c ∧ Kw K G b ia ma vd vb d wd xs ys items more dit bit ∧ Nf K G (accR items) vf dit ∧ G tu = some (.lst xs.reverse) ∧ G p = some (.lst gs) ∧ ∀ v ∈ gs, Good K G d (accR items) v)
    (fun p gs G e ⟨l5, pb, B, kw, fnd, htu, good⟩ => ⟨_, rfl, Nat.zero_le _, l5, pb, B.le (by omega), kw, fnd, htu, e, good⟩) (fun p gs i σ G ⟨_, _, _, _, _, _, _, _, _, e, _⟩ => e) ?_ ?_
  · walk_at "rs"
    have ⟨fa, fys, efa, hfa, ifa, nfa, lfa⟩ := fnd
    subst efa
    refine ⟨_, SqL.of htu, fun q1 H3 s3 n3 t3 => ⟨xs, SqL.of (s3 _ _ kw.hi), fun q2 H4 s4 n4 t4 => ⟨xs, SqL.of (s4 _ _ (s3 _ _ kw.hi)), fun q3 H5 s5 n5 t5 => ?_⟩⟩⟩
    rw [cutV_drop] at t4
    rw [cutV_take] at t5
    have l45 : (xs.drop at1).length + (xs.take at1).length ≤ 58 := by rw [List.length_drop, List.length_take]; omega
    refine ⟨_, s5 _ _ t4, _, t5, Nat.le_trans l45 (by decide), fun q6 H6 s6 n6 t6 => ⟨fa, rfl, fys, .inr (Same.seqT (Same.trans s3 (Same.trans s4 (Same.trans s5 s6))) hfa), fun q7 H7 s7 n7 t7 => ?_⟩⟩
    have s37 := Same.trans s3 (Same.trans s4 (Same.trans s5 (Same.trans s6 s7)))
    have B7 := B2.same s37
    have kw7 := kw.same s37
    refine ⟨b, c, ia, 1996, d, wd, xs, items, rfl, B7, kw7.ni, kw7.hi, kw7.ti, kw7.gi, by omega, kw7.d2.1, kw7.d2.2, fun q8 zs parts H8 B8 K8 t8 ip gp lp rp mp => ?_⟩
    have kw8 := kw7.kp B7 K8
    refine ⟨by decide, fun p9 H9 s9 n9 t9 => hR _ _ _ t9 ⟨Nat.le_refl 5, new_ne B8 n9, B8.same s9 |>.le (by omega), kw8.same s9, (fnd.same s37).kp B7 K8 |>.same s9, s9 _ _ (Kp.get K8 ntu (s37 _ _ htu)), fun v hv => Good.same s9 ?_⟩⟩
    have fr := kw.fi.perm (List.reverse_perm items)
    have pm : (items.drop at1 ++ items.take at1).Perm items := by
      conv => rhs; rw [← List.take_append_drop at1 items]
      exact List.perm_append_comm
    have g1 : Good K H7 d (accR items) (.ref q1) := ⟨q1, _, items.reverse, rfl, .inr (.inl (.inl (Same.trans s4 (Same.trans s5 (Same.trans s6 s7)) _ _ t3))), kw7.ti.rev, fr.fit (by decide) (by decide) (by decide), accR_perm (List.reverse_perm items)⟩
    have g6 : Good K H7 d (accR items) (.ref q6) := ⟨q6, _, items.drop at1 ++ items.take at1, rfl, .inl (SqL.of (s7 _ _ t6)), (kw7.ti.drop at1).app (kw7.ti.take at1), (kw.fi.perm pm).fit (by decide) (by decide) (by decide), accR_perm pm⟩
    have g7 : Good K H7 d (accR items) (.ref q7) := ⟨q7, _, dit, rfl, .inl (SqL.of t7), ifa.same s37, kw.fd.fit (by decide) (by decide) (by decide), accR_norm nfa⟩
    have gf : Good K H7 d (accR items) (.ref fa) := ⟨fa, _, dit, rfl, .inr (Same.seqT s37 hfa), ifa.same s37, kw.fd.fit (by decide) (by decide) (by decide), accR_norm nfa⟩
    have g8 : Good K H8 d (accR items) (.ref q8) := ⟨q8, _, parts, rfl, .inl t8, ip, gp.fit kw.w2 (by omega) ((kw.fi.few.of mp).le (by decide)), rp⟩
    simp only [List.mem_cons, List.not_mem_nil, or_false] at hv
    rcases hv with rfl | rfl | rfl | rfl | rfl
    · exact g1.kp B7 K8
    · exact g6.kp B7 K8
    · exact g7.kp B7 K8
    · exact gf.kp B7 K8
    · exact g8
  · rintro p gs i x σ G hx ⟨x13, rfl, hi, l5, pb, B, kw, fnd, htu, e, good⟩
    have hi1 := (List.getElem?_eq_some_iff.mp hx).1
    walk_at "rs"
    have B1 : Bag (1985 + (gs.length - (i + 1)) + 1) G b c := B.le (by omega)
    refine kw.call B1 (good x (List.mem_of_getElem? hx)) fun u G2 B2 K2 nf => ?_
    have kw2 := kw.kp B1 K2
    refine nf.like2 kw2.od kw2.due fun G3 s3 => ⟨true, rfl, ?_⟩
    rw [if_neg (by simp)]
    exact ⟨by omega, l5, pb, B2.same s3, kw2.same s3, (fnd.kp B1 K2).same s3, s3 _ _ (Kp.get K2 ntu htu), s3 _ _ (Kp.get K2 pb e), fun v hv => ((good v hv).kp B1 K2).same s3⟩
  · rintro p gs σ G ⟨x13, rfl, _, l5, pb, B, kw, fnd, htu, e, good⟩
    refine hN _ _ ?_
    clear hN N good e pb
    replace B : Bag 1985 G b c := B.le (by omega)
    refine seq_op fun N hN => ?_
    walk_at "rs"
    refine ⟨b, c, ma, d, 1984, ys, more, rfl, B, kw.hd, .inl (SqL.of kw.hm), kw.tm, kw.fm.fit (by decide) (by decide) (by decide), fun la lys lit G1 B1 K1 hla ila nla lla => hN _ _ ?_⟩
    clear hN N
    replace kw := kw.kp B K1
    replace fnd := fnd.kp B K1
    replace htu := Kp.get K1 ntu htu
    clear B K1 G
    have late : Nf K G1 (accR more) (.ref la) lit := ⟨la, lys, rfl, hla, ila, nla, lla⟩
    have flit : Ft d 4 491 63 lit := kw.fm.norm (by decide) nla lla
    refine seq_op fun N hN => ?_
    walk_at "rs"
    refine for_lit (fun p gs G => gs.length ≤ 4 ∧ p ≠ b ∧ Bag 1980 G b c ∧ Kw K G b ia ma vd vb d wd xs ys items more dit bit ∧ G tu = some (.lst xs.reverse) ∧ ∀ v ∈ gs, Good K G d (accR (items ++ more)) v) (fun R hR => ?_)
      (fun p gs i σ G => ∃ x13, σ = [x0, some (V.ref b), some (V.int ↑d), x3, some (V.ref ia), x5, some (V.ref ma), some vd, some vb, x9, some vf, some (V.ref tu), some (V.int ↑at1), x13, some (.ref la), none, none, none, none] ∧ i ≤ gs.length ∧ gs.length ≤ 4 ∧ p ≠ b ∧ Bag (1975 + (gs.length - i)) G b c ∧ Kw K G b ia ma vd vb d wd xs ys items more dit bit ∧ G tu = some (.lst xs.reverse) ∧ G p = some (.lst gs) ∧ ∀ v ∈ gs, Good K G d (accR (items ++ more)) v)
      (fun p gs G e ⟨l5, pb, B, kw, htu, good⟩ => ⟨_, rfl, Nat.zero_le _, l5, pb, B.le (by omega), kw, htu, e, good⟩) (fun p gs i σ G ⟨_, _, _, _, _, _, _, _, e, _⟩ => e) ?_ ?_
    · walk_at "rs"
      have ⟨fa, fys, efa, hfa, ifa, nfa, lfa⟩ := fnd
      subst efa
      have lf := ifa.len
      have ll := ila.len
      have m1 : fys.length + ys.length ≤ 200 := by omega
      have m2 : lys.length + fys.length ≤ 200 := by omega
      have m3 : xs.length + lys.length ≤ 200 := by omega
      have m4 : ys.length + xs.length ≤ 200 := by omega
      refine ⟨fa, rfl, fys, .inr hfa, fun q1 J1 u1 n1 t1 => ⟨fys, t1, ys, u1 _ _ kw.hm, Nat.le_trans m1 (by decide), fun q2 J2 u2 n2 t2 => ⟨lys, .inr (Same.seqT (Same.trans u1 u2) hla), fun q3 J3 u3 n3 t3 => ⟨fa, rfl, fys, .inr (Same.seqT (Same.trans u1 (Same.trans u2 u3)) hfa), fun q4 J4 u4 n4 t4 => ⟨lys, u4 _ _ t3, fys, t4, Nat.le_trans m2 (by decide), fun q5 J5 u5 n5 t5 => ?_⟩⟩⟩⟩⟩
      have v5 := Same.trans u1 (Same.trans u2 (Same.trans u3 (Same.trans u4 u5)))
      refine ⟨lys, .inr (Same.seqT v5 hla), fun q6 J6 u6 n6 t6 => ⟨xs, u6 _ _ (v5 _ _ kw.hi), lys, t6, Nat.le_trans m3 (by decide), fun q7 J7 u7 n7 t7 => ?_⟩⟩
      have v7 := Same.trans v5 (Same.trans u6 u7)
      refine ⟨ys, v7 _ _ kw.hm, xs, v7 _ _ kw.hi, Nat.le_trans m4 (by decide), fun q8 J8 u8 n8 t8 => ⟨by decide, fun p9 J9 u9 n9 t9 => ?_⟩⟩
      have v8 := Same.trans v7 u8
      have v9 := Same.trans v8 u9
      have u39 := Same.trans u3 (Same.trans u4 (Same.trans u5 (Same.trans u6 (Same.trans u7 (Same.trans u8 u9)))))
      have u69 := Same.trans u6 (Same.trans u7 (Same.trans u8 u9))
      refine hR _ _ _ t9 ⟨Nat.le_refl 4, new_ne (B1.same v8) n9, (B1.same v9).le (by omega), kw.same v9, v9 _ _ htu, fun v hv => ?_⟩
      have kw9 := kw.same v9
      have if9 := ifa.same v9
      have il9 := ila.same v9
      simp only [List.mem_cons, List.not_mem_nil, or_false] at hv
      rcases hv with rfl | rfl | rfl | rfl
      · exact ⟨q2, _, dit ++ more, rfl, .inl (SqL.of (u39 _ _ t2)), if9.app kw9.tm, (kw.fd.app kw.fm).fit (by decide) (by decide) (by decide), fun k => by rw [accR_app, accR_app, accR_norm nfa]⟩
      · exact ⟨q5, _, lit ++ dit, rfl, .inl (SqL.of (u69 _ _ t5)), il9.app if9, (flit.app kw.fd).fit (by decide) (by decide) (by decide), fun k => by rw [accR_app, accR_app, accR_norm nfa, accR_norm nla, Rat.add_comm]⟩
      · exact ⟨q7, _, items ++ lit, rfl, .inl (SqL.of (Same.trans u8 u9 _ _ t7)), kw9.ti.app il9, (kw.fi.app flit).fit (by decide) (by decide) (by decide), fun k => by rw [accR_app, accR_app, accR_norm nla]⟩
      · exact ⟨q8, _, more ++ items, rfl, .inl (SqL.of (u9 _ _ t8)), kw9.tm.app kw9.ti, (kw.fm.app kw.fi).fit (by decide) (by decide) (by decide), fun k => by rw [accR_app, accR_app, Rat.add_comm]⟩
    · rintro p gs i x σ G hx ⟨x13, rfl, hi, l5, pb, B, kw, htu, e, good⟩
      have hi1 := (List.getElem?_eq_some_iff.mp hx).1
      walk_at "rs"
      have B1 : Bag (1975 + (gs.length - (i + 1)) + 1) G b c := B.le (by omega)
      refine kw.callB B1 (good x (List.mem_of_getElem? hx)) fun u G2 B2 K2 nf => ?_
      have kw2 := kw.kp B1 K2
      refine nf.like2 kw2.ob kw2.both fun G3 s3 => ⟨true, rfl, ?_⟩
      rw [if_neg (by simp)]
      exact ⟨by omega, l5, pb, B2.same s3, kw2.same s3, s3 _ _ (Kp.get K2 ntu htu), s3 _ _ (Kp.get K2 pb e), fun v hv => ((good v hv).kp B1 K2).same s3⟩
    · rintro p gs σ G ⟨x13, rfl, _, l5, pb, B, kw, htu, e, good⟩
      refine hN _ _ ?_
      exact go18 D _ G b c ia ma tu vd vb d wd xs ys items more dit bit _ _ _ _ _ _ _ _ k rfl (B.le (by omega)) kw htu ntu
end
end LK

set_option Elab.async false
set_option linter.all false
set_option maxRecDepth 100000
namespace LK
open PySem PySem.Spec PyProof.Rows L2
local macro_rules | `(tactic| walk_at "rs") => `(tactic| simp only [cxK, cxNK, tCallZ, tAsg, tOp, rI0, rS0, rB0, rI, rU, tUn, rEq, rNe, rIxL, rIxT, rIxS, rSetL, rSlLU, rSlS, rSlU, rCatL, rCatU, rRepL, rIn, tVar, tC, gName, gSub, tIfS, tTest, tB, tAnd, tOr, tNot, tNotV, tAndV, tOrV, tIf, tCall, tCons, tNil, tCB, tDrop, tRet, tRetN, tNext, tLstU, tTupU, tM0, tM1, tPar, tPar3, tAug, ipI, tBM, tBM0, rAppend, rPop, tBreak, sDPut, tDGet, tDGet2, tCont, tChain, tSl, tPart, tNoPart, L2.start, List.map, List.length_cons, List.length_nil, List.replicate, List.cons_append, List.nil_append, List.append_nil, List.getElem?_cons_zero, List.getElem?_cons_succ, List.set_cons_zero, List.set_cons_succ, Option.some.injEq, V.int.injEq, V.ref.injEq, V.str.injEq, V.bl.injEq, exists_eq_left', exists_eq_left, exists_and_left, decide_eq_true_eq, List.cons.injEq, and_true, true_and, scal, Bool.not_eq_true', decide_eq_false_iff_not, Nat.zero_add, Nat.reduceAdd, Nat.reduceSub, reduceCtorEq, false_and, exists_false, false_or, or_false, CPow, CPowW, CMul, CDiv, Int.reduceToNat, ↓reduceIte, wipe, sw, List.nil_append, List.singleton_append])
local macro_rules | `(tactic| walk_at "st") => `(tactic| (refine seq_op fun N hN => ?_; walk_at "rs"))
local macro_rules | `(tactic| walk_at "sd") => `(tactic| first | assumption | decide | omega)
local macro_rules | `(tactic| walk_at "rd") => `(tactic| repeat (first
  | refine ⟨_, SqL.of (by assumption), ?_⟩ | refine ⟨_, SqL.of upd_same, ?_⟩ | refine ⟨_, .inl (SqL.of (by assumption)), ?_⟩ | refine ⟨_, (by assumption : _ = some (HO.lst _)), ?_⟩ | refine ⟨_, upd_same, ?_⟩
  | refine ⟨_, rfl, ?_⟩ | refine And.intro (by walk_at "sd") ?_))

def one0 (n : Nat) : It := (List.replicate n 0, (1, 1))
theorem one0_ft {n : Nat} : Ft n 1 3 1 [one0 n] := by
  refine ⟨fun x hx => ?_, fun k => ?_, ⟨[List.replicate n 0], Nat.le_refl 1, fun x hx => by rw [List.mem_singleton.mp hx]; exact List.mem_cons_self⟩, Nat.le_refl 1⟩
  · rw [List.mem_singleton.mp hx]
    exact ⟨⟨(by decide : (1 : Int) ≤ 1), (by decide : Nat.gcd 1 1 = 1)⟩, (by decide : LK.wt ((1, 1) : Fr) ≤ 3900), List.length_replicate, fun m hm => by rw [List.eq_of_mem_replicate hm]; decide⟩
  · rw [wtS_cons]
    have : wtS [] k = 1 := rfl
    rw [this, show LK.wt (one0 n).2 = 1 from (by decide : LK.wt ((1, 1) : Fr) = 1)]
    split <;> decide
theorem rep_flat (n : Nat) : (List.replicate n [V.int 0]).flatten = (List.replicate n (0 : Int)).map V.int := by
  induction n with
  | zero => rfl
  | succ n ih =>
    rw [List.replicate_succ, List.replicate_succ, List.flatten_cons, List.map_cons, ih]
    rfl
section
variable {P : Program} {w : World} {K : PySem.W.Frag} {mg : Str → Option Value} {base : Heap}
def sp_normX (K : PySem.W.Frag) : Sp := fun vs H Q E => ∃ d, 1 ≤ d ∧ d ≤ 2 ∧ sp_norm K d vs H Q E
theorem ok__law_normalX (T : Txt w K mg) : FnOk P w K mg base CX0 4 T.a__law_normal T.d__law_normal ["items"] (sp_normX K) :=
  ⟨fun vs H Q E ⟨d, d1, d2, h⟩ => (ok__law_normal (P := P) (base := base) T d d1 d2).len vs H Q E h, fun A outer s H args us vs Q E hr he hb hv ⟨d, d1, d2, h⟩ => (ok__law_normal (P := P) (base := base) T d d1 d2).run A outer s H args us vs Q E hr he hb hv h⟩
theorem law07 (T : Txt w K mg) {cdv : Value} {A : Around} {outer : List Env} {s : Shared} {H0 : Hp} {E : XK} (hr : Room 6 (A.deeper (envOfC "law" (defScope s_law) s.heap.objs.size T.a_law cdv))) : ∃ t, PSs (cxLaw P w K mg base T.a_law cdv A outer s H0 E) ((defBody s_law).drop 7) t ∧
    ∀ (D : Ends) (σ : L2.St) (H : Hp) (b c ia ma : Addr) (vd vb : V) (many : Nat) (wd : Int) (xs ys : List V) (items more dit bit : List It) (x0 x3 x5 : Option V), (∀ H', D.rt (.bl true) H') →
      σ = [x0, some (.ref b), some (.int (many : Int)), x3, some (.ref ia), x5, some (.ref ma), some vd, some vb, none, none, none, none, none, none, none, none, none, none] → Bag 3000 H b c → Kw K H b ia ma vd vb many wd xs ys items more dit bit → t D σ H := by
  have hr__law_draw : Room 1 _ := hr.mono (by decide)
  have G__law_draw := ok__law_draw (P := P) (base := base) T
  have hr__law_call : Room 6 _ := hr
  have G__law_call := ok__law_call (P := P) (base := base) T
  have hr__law_like : Room 4 _ := hr.mono (by decide)
  have G__law_like := ok__law_like (P := P) (base := base) T 3
  have hr__law_normal : Room 4 _ := hr.mono (by decide)
  have G__law_normal := ok__law_normalX (P := P) (base := base) T
  obtain ⟨t13, h13, go13⟩ := law13 (P := P) (base := base) (outer := outer) (H0 := H0) (E := E) T hr
  refine ⟨_, (pss_cons (ps_set (i := 9) sc_law.nd rfl (Or.inl rfl) (pe_callTy call_listU (by rfl) T.n_list (by decide +kernel) (pa_cons (pv 4) pa_nil)))
      (pss_cons (ps_set (i := 10) sc_law.nd rfl (Or.inl rfl) (pe_call G__law_call hr__law_call (by rfl) T.m__law_call T.F__law_call.kp T.B__law_call .nil pass0 (pa_cons (pv 1) (pa_cons (pv 2) (pa_cons (pv 9) pa_nil)))))
      (pss_cons (ps_if (PW.pt (pw_or (pt_not (pt_val (pe_call G__law_like hr__law_like (by rfl) T.m__law_like T.F__law_like.kp T.B__law_like .nil pass0 (pa_cons (pv 10) (pa_cons (pv 7) pa_nil))))) (pw_or1 (pt_not (pt_val (pe_call G__law_like hr__law_like (by rfl) T.m__law_like T.F__law_like.kp T.B__law_like .nil pass0 (pa_cons (pv 9) (pa_cons (pv 4) pa_nil)))))))) (pss_one (ps_ret pe_bl)) pss_nil)
      (pss_cons (ps_expr (pe_bm PySem.F.plainAttrs_list PySem.F.slot_list_append PySem.F.type_list_append mt_append (pv 9) (pa_cons (pe_op op_catU (pe_callTy call_tupleN (by rfl) T.n_tuple (by decide +kernel) (pa_cons (pe_op op_repL (pe_lstU (pa_cons pe_int pa_nil)) (pv 2)) pa_nil)) (pe_tupU (pa_cons (pe_tupU (pa_cons pe_int (pa_cons pe_int pa_nil))) pa_nil))) pa_nil)))
      (pss_cons (ps_expr (pe_bm0 PySem.F.plainAttrs_list PySem.F.slot_list_reverse PySem.F.type_list_reverse mt_reverse (pv 9)))
      (pss_cons (ps_if (PW.pt (pw_or (pt_not (pt_val (pe_call G__law_like hr__law_like (by rfl) T.m__law_like T.F__law_like.kp T.B__law_like .nil pass0 (pa_cons (pv 10) (pa_cons (pv 7) pa_nil))))) (pw_or1 (pt_not (pt_val (pe_call G__law_like hr__law_like (by rfl) T.m__law_like T.F__law_like.kp T.B__law_like .nil pass0 (pa_cons (pe_call G__law_call hr__law_call (by rfl) T.m__law_call T.F__law_call.kp T.B__law_call .nil pass0 (pa_cons (pv 1) (pa_cons (pv 2) (pa_cons (pe_op op_catL (pe_slice sl_listU (pv 9) (po_some pe_int) po_none) (pe_lstU (pa_cons (pe_ix ix_list (pv 9) pe_int (fun _ _ => rfl)) pa_nil))) pa_nil)))) (pa_cons (pe_call G__law_normal hr__law_normal (by rfl) T.m__law_normal T.F__law_normal.kp T.B__law_normal .nil pass0 (pa_cons (pv 9) pa_nil)) pa_nil)))))))) (pss_one (ps_ret pe_bl)) pss_nil)
      h13)))))), ?_⟩
  rintro D σ H b c ia ma vd vb many wd xs ys items more dit bit x0 x3 x5 k rfl B kw
  obtain ⟨lx, l58⟩ := kw.lx
  have ⟨d1, d2⟩ := kw.d2
  refine seq_op fun N hN => ?_
  walk_at "rs"
  refine ⟨xs, .inl (SqL.of kw.hi), fun ha H1 s1 ha0 ha1 => hN _ _ ?_⟩
  clear hN N
  have nha : ha ≠ b := new_ne B ha0
  have ncha : c ≠ ha := fun e => by
    obtain ⟨xc, ec⟩ := B.at2
    rw [← e, ec] at ha0; cases ha0
  replace B := B.same s1
  have nia : ia ≠ ha := fun e => by rw [← e, kw.hi] at ha0; cases ha0
  have nma : ma ≠ ha := fun e => by rw [← e, kw.hm] at ha0; cases ha0
  replace kw := kw.same s1
  refine seq_op fun N hN => ?_
  walk_at "rs"
  refine kw.call B (N := 2999) ⟨ha, xs, items, rfl, .inl (SqL.of ha1), kw.ti, kw.fi.fit (by decide) (by decide) (by decide), fun k => rfl⟩ fun vf H2 B2 K2 nf => hN _ _ ?_
  clear hN N
  replace kw := kw.kp B K2
  have ha2 := Kp.get K2 nha ha1
  refine seq_op fun N hN => ?_
  walk_at "rs"
  refine nf.like2 kw.od kw.due fun H3 s3 => ⟨true, rfl, ?_⟩
  rw [if_neg (by simp)]
  replace kw := kw.same s3
  replace nf := nf.same s3
  have ha3 := s3 _ _ ha2
  refine like_atL (kw.fi.ok d2 (by decide)) (SqL.of ha3) kw.ti (SqL.of kw.hi) kw.ti fun H4 s4 => ⟨true, rfl, ?_⟩
  rw [if_neg (by simp)]
  refine hN _ _ ?_
  clear hN N
  replace kw := kw.same s4
  replace nf := nf.same s4
  have ha4 := s4 _ _ ha3
  replace B := (B2.same s3).same s4
  clear s4 s3 ha3 ha2 ha1 ha0 B2 K2
  refine seq_op fun N hN => ?_
  walk_at "rs"
  refine ⟨.inl ⟨rfl, _, SqL.of ha4⟩, by decide, fun q1 J1 u1 m1 v1 => ⟨_, v1, by omega, by omega, Nat.le_trans (show 1 * many ≤ 2 by omega) (by decide), fun q2 J2 u2 m2 v2 => ⟨_, SqL.of v2, fun q3 J3 u3 m3 v3 => ⟨by decide, fun q4 J4 u4 m4 v4 => ⟨by decide, fun q5 J5 u5 m5 v5 => ?_⟩⟩⟩⟩⟩
  rw [Int.toNat_natCast, rep_flat] at v3
  have u15 := Same.trans u1 (Same.trans u2 (Same.trans u3 (Same.trans u4 u5)))
  refine ⟨_, .inl (.inl (Same.trans u4 u5 _ _ v3)), _, .inl (.inl v5), Nat.le_trans (show _ ≤ 3 by rw [List.length_map, List.length_replicate]; simp only [List.length_cons, List.length_nil]; omega) (by decide), fun q6 J6 u6 v6 => ⟨xs, u6 _ _ (u15 _ _ ha4), Nat.lt_of_le_of_lt (show xs.length ≤ 100 by omega) (by decide), hN _ _ ?_⟩⟩
  clear hN N
  have u16 := Same.trans u15 u6
  have ha6 := u16 _ _ ha4
  have nt := notT_lst ha6
  have kw6 := kw.same u16
  have q46 : Pr K J6 q4 1 1 := .inl (.inl (u6 _ _ (u5 _ _ v4)))
  have B7 := (B.same u16).upd (o := .lst (xs ++ [.ref q6])) nha.symm ncha
  have i7 : Its K (L2.upd J6 ha (.lst (xs ++ [.ref q6]))) (xs ++ [.ref q6]) (items ++ [one0 many]) := (kw6.ti.updO nt).app (.cons (seqT_updO nt v6) (seqT_updO nt q46) .nil)
  have kw7 : Kw K (L2.upd J6 ha (.lst (xs ++ [.ref q6]))) b ia ma vd vb many wd xs ys items more dit bit := ⟨kw6.hd, kw6.w2, by rw [upd_ne nia]; exact kw6.hi, by rw [upd_ne nma]; exact kw6.hm, kw6.ni, kw6.nm, kw6.ti.updO nt, kw6.tm.updO nt, kw6.gi, kw6.fi, kw6.fm, kw6.due.updO ha6, kw6.both.updO ha6⟩
  have nf7 := (nf.same u16).updO (o := .lst (xs ++ [.ref q6])) ha6
  have ha7 : (L2.upd J6 ha (.lst (xs ++ [.ref q6]))) ha = some (.lst (xs ++ [.ref q6])) := upd_same
  generalize L2.upd J6 ha (.lst (xs ++ [.ref q6])) = J7 at *
  clear kw6 q46 v6 nt ha6 kw nf B u16 u15 u1 u2 u3 u4 u5 u6 v1 v2 v3 v4 v5 ha4
  refine seq_op fun N hN => ?_
  walk_at "rs"
  refine ⟨.inl ⟨rfl, _, SqL.of ha7⟩, ha, _, rfl, rfl, ha7, hN _ _ ?_⟩
  clear hN N
  have nt := notT_lst ha7
  have B8 := B7.upd (o := .lst (xs ++ [V.ref q6]).reverse) nha.symm ncha
  have i8 := i7.rev.updO (o := .lst (xs ++ [V.ref q6]).reverse) nt
  have kw8 : Kw K (L2.upd J7 ha (.lst (xs ++ [V.ref q6]).reverse)) b ia ma vd vb many wd xs ys items more dit bit := ⟨kw7.hd, kw7.w2, by rw [upd_ne nia]; exact kw7.hi, by rw [upd_ne nma]; exact kw7.hm, kw7.ni, kw7.nm, kw7.ti.updO nt, kw7.tm.updO nt, kw7.gi, kw7.fi, kw7.fm, kw7.due.updO ha7, kw7.both.updO ha7⟩
  have nf8 := nf7.updO (o := .lst (xs ++ [V.ref q6]).reverse) ha7
  have ha8 : (L2.upd J7 ha (.lst (xs ++ [V.ref q6]).reverse)) ha = some (.lst (xs ++ [V.ref q6]).reverse) := upd_same
  generalize L2.upd J7 ha (.lst (xs ++ [V.ref q6]).reverse) = J8 at *
  rw [List.reverse_append] at ha8 i8
  rw [List.reverse_append] at i8
  replace ha8 : J8 ha = some (.lst (.ref q6 :: xs.reverse)) := ha8
  replace i8 : Its K J8 (.ref q6 :: xs.reverse) (one0 many :: items.reverse) := i8
  clear kw7 nf7 B7 i7 ha7 nt
  refine seq_op fun N hN => ?_
  walk_at "rs"
  refine nf8.like2 kw8.od kw8.due fun H9 s9 => ⟨true, rfl, ?_⟩
  rw [if_neg (by simp)]
  replace B8 := B8.same s9
  replace kw8 := kw8.same s9
  replace nf8 := nf8.same s9
  replace ha8 := s9 _ _ ha8
  replace i8 := i8.same s9
  clear s9 J8
  have lr : xs.reverse.length ≤ 58 := by rw [List.length_reverse]; omega
  have e1 : cutV (V.ref q6 :: xs.reverse) (some 1) none = xs.reverse := cutV_drop (V.ref q6 :: xs.reverse) 1
  refine ⟨_, SqL.of ha8, fun p1 J1 u1 m1 v1 => ⟨_, SqL.of (u1 _ _ ha8), _, at_ofN (j := 0) rfl rfl, by decide, fun p2 J2 u2 m2 v2 => ⟨_, u2 _ _ v1, _, v2, ?_, fun p3 J3 u3 m3 v3 => ?_⟩⟩⟩
  · rw [e1]
    exact Nat.le_trans (show _ + 1 ≤ 100 by omega) (by decide)
  rw [e1] at v3
  have u13 := Same.trans u1 (Same.trans u2 u3)
  have ft : Ft many 50 1622 59 (one0 many :: items.reverse) := ((kw8.fi.app one0_ft).perm (b := one0 many :: items.reverse) ((List.Perm.cons _ (List.reverse_perm items)).trans (List.perm_append_singleton _ _).symm))
  have pm : (items.reverse ++ [one0 many]).Perm (one0 many :: items.reverse) := List.perm_append_singleton _ _
  obtain ⟨hq, hrest⟩ : Its K H9 [.ref q6] [one0 many] ∧ Its K H9 xs.reverse items.reverse := by
    cases i8 with
    | cons h1 h2 r => exact ⟨.cons h1 h2 .nil, r⟩
  have B13 := B8.same u13
  refine ⟨b, c, p3, many, 2998, _, items.reverse ++ [one0 many], rfl, B13.le (by omega), kw8.hd, .inl (SqL.of v3), (hrest.same u13).app (hq.same u13), (ft.perm pm).fit (by decide) (by decide) (by decide), fun t ts its1 J4 B4 K4 g4 i4 n4 l4 => ?_⟩
  have ha4 := Kp.get K4 nha (u13 _ _ ha8)
  have i84 := (i8.same u13).kp B13 K4
  refine ⟨many, d1, d2, ha, _, _, rfl, .inl (SqL.of ha4), i84, ft.fit (by decide) (by decide) (by decide), fun t5 ts5 its5 J5 u5 g5 i5 n5 l5 => ?_⟩
  have eR : accR (items.reverse ++ [one0 many]) = accR (one0 many :: items.reverse) := funext (accR_perm pm)
  rw [eR] at n4
  have f5 := ft.norm (by decide) n5 l5
  rw [n4.uniq n5] at i4
  refine like_atT (f5.ok d2 (by decide)) (Same.seqT u5 g4) (i4.same u5) g5 i5 fun J6 u6 => ⟨true, rfl, ?_⟩
  rw [if_neg (by simp)]
  refine hN _ _ ?_
  exact go13 D _ J6 b c ia ma vd vb vf many wd xs ys items more dit bit _ _ _ _ k rfl (((B4.same u5).same u6).le (by omega)) ((((kw8.same u13).kp B13 K4).same u5).same u6) ((((nf8.same u13).kp B13 K4).same u5).same u6)
end
end LK

set_option Elab.async false
set_option linter.all false
set_option maxRecDepth 100000
namespace LK
open PySem PySem.Spec PyProof.Rows L2
local macro_rules | `(tactic| walk_at "rs") => `(tactic| simp only [cxK, cxNK, tCallZ, tAsg, tOp, rI0, rS0, rB0, rI, rU, tUn, rEq, rNe, rIxL, rIxT, rIxS, rSetL, rSlLU, rSlS, rSlU, rCatL, rCatU, rRepL, rIn, tVar, tC, gName, gSub, tIfS, tTest, tB, tAnd, tOr, tNot, tNotV, tAndV, tOrV, tIf, tCall, tCons, tNil, tCB, tDrop, tRet, tRetN, tNext, tLstU, tTupU, tM0, tM1, tPar, tPar3, tAug, ipI, tBM, tBM0, rAppend, rPop, tBreak, sDPut, tDGet, tDGet2, tCont, tChain, tSl, tPart, tNoPart, L2.start, List.map, List.length_cons, List.length_nil, List.replicate, List.cons_append, List.nil_append, List.append_nil, List.getElem?_cons_zero, List.getElem?_cons_succ, List.set_cons_zero, List.set_cons_succ, Option.some.injEq, V.int.injEq, V.ref.injEq, V.str.injEq, V.bl.injEq, exists_eq_left', exists_eq_left, exists_and_left, decide_eq_true_eq, List.cons.injEq, and_true, true_and, scal, Bool.not_eq_true', decide_eq_false_iff_not, Nat.zero_add, Nat.reduceAdd, Nat.reduceSub, reduceCtorEq, false_and, exists_false, false_or, or_false, CPow, CPowW, CMul, CDiv, Int.reduceToNat, ↓reduceIte, wipe, sw, List.nil_append, List.singleton_append])
local macro_rules | `(tactic| walk_at "st") => `(tactic| (refine seq_op fun N hN => ?_; walk_at "rs"))
local macro_rules | `(tactic| walk_at "sd") => `(tactic| first | assumption | decide | omega)
local macro_rules | `(tactic| walk_at "rd") => `(tactic| repeat (first
  | refine ⟨_, SqL.of (by assumption), ?_⟩ | refine ⟨_, SqL.of upd_same, ?_⟩ | refine ⟨_, .inl (SqL.of (by assumption)), ?_⟩ | refine ⟨_, (by assumption : _ = some (HO.lst _)), ?_⟩ | refine ⟨_, upd_same, ?_⟩
  | refine ⟨_, rfl, ?_⟩ | refine And.intro (by walk_at "sd") ?_))

section
variable {P : Program} {w : World} {K : PySem.W.Frag} {mg : Str → Option Value} {base : Heap}
theorem ok_law (T : Txt w K mg) : FnOk P w K mg base CX0 7 T.a_law T.d_law ["script"] (sp_law K) := by
  refine T.F_law.ok sc_law (fun vs H Q E h => ?_) (fun cdv A outer s H vs Q E hr h => ?_)
  · obtain ⟨a, ns, rfl, _⟩ := h
    rfl
  · obtain ⟨a, ns, rfl, ha, l63, k⟩ := h
    have hr__law_bag : Room 1 _ := hr.mono (by decide)
    have G__law_bag := ok__law_bag (P := P) (base := base) T
    have hr__law_draw : Room 1 _ := hr.mono (by decide)
    have G__law_draw := ok__law_draw (P := P) (base := base) T
    have hr__law_items : Room 4 _ := hr.mono (by decide)
    have G__law_items := ok__law_items (P := P) (base := base) T
    have hr__law_light : Room 3 _ := hr.mono (by decide)
    have G__law_light := ok__law_light (P := P) (base := base) T
    have hr__law_normal : Room 4 _ := hr.mono (by decide)
    have G__law_normal := ok__law_normalX (P := P) (base := base) T
    obtain ⟨t07, h07, go07⟩ := law07 (P := P) (base := base) (outer := outer) (H0 := H) (E := E) T hr
    refine ⟨_, (pss_cons (ps_set (i := 1) sc_law.nd rfl (Or.inr rfl) (pe_call G__law_bag hr__law_bag (by rfl) T.m__law_bag T.F__law_bag.kp T.B__law_bag .nil pass0 (pa_cons (pv 0) pa_nil)))
      (pss_cons (ps_set (i := 2) sc_law.nd rfl (Or.inl rfl) (pe_op op_add pe_int (pe_call G__law_draw hr__law_draw (by rfl) T.m__law_draw T.F__law_draw.kp T.B__law_draw .nil pass0 (pa_cons (pv 1) (pa_cons pe_int pa_nil)))))
      (pss_cons (ps_set (i := 3) sc_law.nd rfl (Or.inr rfl) (pe_ix ix_list (pe_lstU (pa_cons pe_int (pa_cons pe_int (pa_cons pe_int (pa_cons pe_int pa_nil))))) (pe_call G__law_draw hr__law_draw (by rfl) T.m__law_draw T.F__law_draw.kp T.B__law_draw .nil pass0 (pa_cons (pv 1) (pa_cons pe_int pa_nil))) (fun _ _ => rfl)))
      (pss_cons (ps_set (i := 4) sc_law.nd rfl (Or.inl rfl) (pe_call G__law_items hr__law_items (by rfl) T.m__law_items T.F__law_items.kp T.B__law_items .nil pass0 (pa_cons (pv 1) (pa_cons (pv 2) (pa_cons (pv 3) (pa_cons pe_int pa_nil))))))
      (pss_cons (ps_if (pt_cmpR op_eqI (pe_call G__law_draw hr__law_draw (by rfl) T.m__law_draw T.F__law_draw.kp T.B__law_draw .nil pass0 (pa_cons (pv 1) (pa_cons pe_int pa_nil))) pe_int (nomark _)) (pss_one (ps_for PassesOwn.never rfl (pi_range1 (by rfl) T.n_range (pa_cons pe_int pa_nil)) (pg_name (i := 5) sc_law.nd rfl (Or.inl rfl)) (pss_one (ps_expr (pe_bm PySem.F.plainAttrs_list PySem.F.slot_list_append PySem.F.type_list_append mt_append (pv 4) (pa_cons (pe_op op_catU (pe_callTy call_tupleN (by rfl) T.n_tuple (by decide +kernel) (pa_cons (pe_lc (own := [("j", 18)]) (g := gName 18) (tt := tYes) rfl sc_law.nd (pi_range1 (by rfl) T.n_range (pa_cons (pv 2) pa_nil)) (blkOk_by (own := [("j", 18)]) (N := N_law) (sc := defScope s_law) (by decide +kernel)) (fun _ _ _ _ _ => pg_name (i := 18) sc_law.nd rfl (Or.inl rfl)) (fun _ _ _ _ _ => pts_nil) (fun _ _ _ _ _ => (pe_call G__law_draw hr__law_draw (by rfl) T.m__law_draw T.F__law_draw.kp T.B__law_draw .nil pass0 (pa_cons (pv 1) (pa_cons (pv 3) pa_nil))))) pa_nil)) (pe_tupU (pa_cons (pe_call G__law_light hr__law_light (by rfl) T.m__law_light T.F__law_light.kp T.B__law_light .nil pass0 (pa_cons (pv 1) pa_nil)) pa_nil))) pa_nil)))))) pss_nil)
      (pss_cons (ps_set (i := 6) sc_law.nd rfl (Or.inl rfl) (pe_call G__law_items hr__law_items (by rfl) T.m__law_items T.F__law_items.kp T.B__law_items .nil pass0 (pa_cons (pv 1) (pa_cons (pv 2) (pa_cons (pv 3) (pa_cons pe_int pa_nil))))))
      (pss_cons (ps_par (i := 7) (j := 8) (by rfl) sc_law.nd rfl rfl (by decide) rfl rfl (pa_cons (pe_call G__law_normal hr__law_normal (by rfl) T.m__law_normal T.F__law_normal.kp T.B__law_normal .nil pass0 (pa_cons (pv 4) pa_nil)) (pa_cons (pe_call G__law_normal hr__law_normal (by rfl) T.m__law_normal T.F__law_normal.kp T.B__law_normal .nil pass0 (pa_cons (pe_op op_catL (pv 4) (pv 6)) pa_nil)) pa_nil)) (by rfl))
      h07))))))), ?_⟩
    refine seq_op fun N hN => ?_
    walk_at "rs"
    refine ⟨a, ns, rfl, ha, l63, fun b c H1 s1 B1 b0 => hN _ _ ?_⟩
    clear hN N
    refine seq_op fun N hN => ?_
    walk_at "rs"
    refine ⟨b, c, 2, 1099511627775, rfl, B1, by decide, by decide, fun r H2 r0 r1 B2 K2 => ⟨r, rfl, hN _ _ ?_⟩⟩
    clear hN N
    obtain ⟨n, en, n1, n2⟩ : ∃ n : Nat, 1 + r = (n : Int) ∧ 1 ≤ n ∧ n ≤ 2 := ⟨(1 + r).toNat, by omega, by omega, by omega⟩
    rw [en]
    refine seq_op fun N hN => ?_
    walk_at "rs"
    refine ⟨by decide, fun p3 H3 s3 p30 p31 => ⟨b, c, 4, 1099511627774, rfl, B2.same s3, by decide, by decide, fun r4 H4 r40 r41 B4 K4 => ?_⟩⟩
    have h34 := Kp.get K4 (new_ne B2 p30) p31
    obtain ⟨wd, ewd, wd0, wd1⟩ : ∃ wd : Int, atI [V.int 2, V.int 3, V.int 6, V.int 2000] r4 = some (.int wd) ∧ 0 < wd ∧ wd ≤ 2000 := by
      have : r4 = 0 ∨ r4 = 1 ∨ r4 = 2 ∨ r4 = 3 := by omega
      rcases this with rfl | rfl | rfl | rfl
      · exact ⟨2, rfl, by decide, by decide⟩
      · exact ⟨3, rfl, by decide, by decide⟩
      · exact ⟨6, rfl, by decide, by decide⟩
      · exact ⟨2000, rfl, by decide, by decide⟩
    refine ⟨_, r4, rfl, SqL.of h34, _, ewd, hN _ _ ?_⟩
    clear hN N h34 ewd p30 p31
    refine seq_op fun N hN => ?_
    walk_at "rs"
    refine ⟨b, c, 1000000, n, 9, wd, rfl, B4.le (by decide), n1, n2, wd0, wd1, by decide, fun ia xs items H5 B5 K5 ia0 ia1 it5 ig5 l5 fw5 => hN _ _ ?_⟩
    clear hN N
    have nia : ia ≠ b := new_ne B4 ia0
    have nci : c ≠ ia := fun e => by
      obtain ⟨xc, ec⟩ := B4.at2
      rw [← e, ec] at ia0; cases ia0
    have w5 : ∀ kk, wtS items kk ≤ 1099 := fun kk => by
      have := wtS_le (B := 60) kk (l := items) fun x hx => wt_okB (ig5.it x hx).1
      omega
    refine cut_seq (fun σ G => ∃ (x5 : Option V) (xs : List V) (items : List It), σ = [some (.ref a), some (.ref b), some (.int (n : Int)), some (.int wd), some (.ref ia), x5, none, none, none, none, none, none, none, none, none, none, none, none, none] ∧ Bag 900000 G b c ∧ G ia = some (.lst xs) ∧ Its K G xs items ∧ IG n wd items ∧ items.length ≤ 58 ∧ Few 49 items ∧ ∀ kk, wtS items kk ≤ 1619) (fun N hN => ?_) ?_
    · walk_at "rs"
      refine ⟨b, c, 8, 999999, rfl, B5, by decide, by decide, fun r6 H6 _ _ B6 K6 => ⟨r6, rfl, ite2 (fun _ => ?_) (fun _ => hN _ _ ⟨_, xs, items, rfl, B6.le (by omega), Kp.get K6 nia ia1, it5.kp B5 K6, ig5, by omega, fw5.le (by omega), fun kk => by have := w5 kk; omega⟩)⟩⟩
      refine ⟨40, rfl, by decide, by decide, for_range (lo := 0) (n := 40) (fun i σ G => ∃ (x5 : Option V) (xs : List V) (items : List It), σ = [some (.ref a), some (.ref b), some (.int (n : Int)), some (.int wd), some (.ref ia), x5, none, none, none, none, none, none, none, none, none, none, none, none, none] ∧ Bag (990000 + (40 - i) * 10) G b c ∧ G ia = some (.lst xs) ∧ Its K G xs items ∧ IG n wd items ∧ items.length ≤ 18 + i ∧ Few (9 + i) items ∧ ∀ kk, wtS items kk ≤ 1099 + 13 * i) ⟨_, xs, items, rfl, B6.le (by omega), Kp.get K6 nia ia1, it5.kp B5 K6, ig5, by omega, fw5, fun kk => by have := w5 kk; omega⟩ ?_ ?_⟩
      · rintro i σ G hi ⟨x5, xs, items, rfl, BG, hG, ti, ig, l58, fw, wi⟩
        have e10 : (40 - i) * 10 = (40 - (i + 1)) * 10 + 10 := by omega
        rw [e10] at BG
        walk_at "rs"
        refine ⟨.inl ⟨rfl, _, SqL.of hG⟩, ?_⟩
        have BG' : Bag ((990000 + (40 - (i + 1)) * 10 + 8) + (n : Int).toNat * 1) G b c := BG.le (by omega)
        refine ⟨_, rfl, (n : Int), rfl, by omega, by omega, fun D hD => lc_draw (n := (n : Int).toNat) walk_range (fun _ v => ∃ j : Int, v = V.int j ∧ 0 ≤ j ∧ j < wd) (fun _ _ _ _ h => h) hD BG' (by omega) (fun _ _ _ _ y => y.1) (fun _ _ => trivial) (fun x J4 M K4 B4 Q2 hq => ?_) fun J4 zs B4 K4 hD4 hl4 hy4 => ?_⟩
        · exact ⟨_, rfl, _, rfl, b, c, wd, M, rfl, B4, wd0, by omega, fun r1 J5 r10 r11 B5 K5 => hq _ _ B5 K5 ⟨r1, rfl, r10, r11⟩⟩
        · obtain ⟨ks, rfl, bk⟩ := ints_all hy4
          rw [List.length_map, Int.toNat_natCast] at hl4
          have h4 := Kp.get K4 nia hG
          have ti4 := ti.kp BG K4
          have lx := ti.len
          refine ⟨D, rfl, _, SqL.of hD4, fun q5 J5 s5 q50 q51 => ⟨b, c, 990000 + (40 - (i + 1)) * 10 + 4, rfl, B4.same s5, fun tf f J6 okf t0 t1 B6 K6 => ⟨by decide, fun q7 J7 s7 n7 t7 => ?_⟩⟩⟩
          have B5 := B4.same s5
          have lks : (ks.map V.int).length + 1 ≤ 10 := by rw [List.length_map]; omega
          have hq7 : SqT K J7 q5 (ks.map V.int) := Same.seqT s7 (seqT_kp B5 K6 (.inl (.inl q51)))
          refine ⟨_, hq7, _, .inl (.inl t7), Nat.le_trans lks (by decide), fun q8 J8 s8 hq8 => ?_⟩
          have h8 := s8 _ _ (s7 _ _ (Kp.get K6 nia (s5 _ _ h4)))
          have nt := notT_lst h8
          have ti8 := (((ti4.same s5).kp B5 K6).same s7).same s8
          have B8 := (B6.same s7).same s8
          refine ⟨xs, h8, Nat.lt_of_le_of_lt (show xs.length ≤ 1000 by omega) (by decide), (B8.le (by omega)).upd nia.symm nci, _, upd_same, items ++ [(ks, f)], (ti8.updO nt).app (.cons (seqT_updO nt hq8) (seqT_updO nt (.inl (.inl (s8 _ _ (s7 _ _ t1))))) .nil), ig.app (IG.one hl4 bk ⟨okf.1, okf.2.1, Nat.le_trans okf.2.2.1 (by decide), Nat.le_trans okf.2.2.2 (by decide)⟩), by simp only [List.length_append, List.length_cons, List.length_nil]; omega, (fw.spot (k := ks) fun x hx => ?_).le (by omega), fun kk => ?_⟩
          · rcases List.mem_append.mp hx with hx | hx
            · exact .inl hx
            · exact .inr (by rw [List.mem_singleton.mp hx])
          · have h1 := wtS_app items [(ks, f)] kk
            have h2 := wtS_cons (ks, f) [] kk
            have h3 : wtS [] kk = 1 := rfl
            have h4 := wt_light okf
            have h5 := wi kk
            have h6 : (if ks = kk then wt f + 1 else 0) ≤ 12 := by split <;> omega
            have h2 : wtS [(ks, f)] kk = (if ks = kk then wt f + 1 else 0) + wtS [] kk := h2
            omega
      · rintro σ G ⟨x5, xs, items, rfl, BG, hG, ti, ig, l58, fw, wi⟩
        exact hN _ _ ⟨x5, xs, items, rfl, BG.le (by omega), hG, ti, ig, l58, fw, wi⟩
    · rintro σ G ⟨x5, xs, items, rfl, BG, hi, ti, ig, l58, fw, wi⟩
      refine seq_op fun N hN => ?_
      walk_at "rs"
      refine ⟨b, c, 100000, n, 4, wd, rfl, BG.le (by omega), n1, n2, wd0, wd1, by decide, fun ma ys more G1 BG1 KG1 ma0 ma1 tm gm lm fm => hN _ _ ?_⟩
      clear hN N
      have nma : ma ≠ b := new_ne BG ma0
      replace hi := Kp.get KG1 nia hi
      replace ti := ti.kp BG KG1
      have fti : Ft n 49 1619 58 items := by
        obtain ⟨f1, _, _, _⟩ := ig.ft wd1 fw l58
        exact ⟨f1, wi, fw, l58⟩
      have ftm : Ft n 4 489 8 more := gm.ft wd1 fm lm
      have lx := ti.len
      have ly := tm.len
      have lxy : xs.length + ys.length ≤ 100 := by omega
      clear KG1 ma0 BG
      refine seq_op fun N hN => ?_
      walk_at "rs"
      refine ⟨n, n1, n2, ia, xs, items, rfl, .inl (SqL.of hi), ti, fti.fit (by decide) (by decide) (by decide), fun td ds dit H2 s2 gd idt nd ld => ⟨xs, s2 _ _ hi, ys, s2 _ _ ma1, Nat.le_trans lxy (by decide), fun p3 H3 s3 p30 p31 => ?_⟩⟩
      have s23 := Same.trans s2 s3
      refine ⟨n, n1, n2, p3, xs ++ ys, items ++ more, rfl, .inl (SqL.of p31), (ti.same s23).app (tm.same s23), (fti.app ftm).fit (by decide) (by decide) (by decide), fun tb bs bit H4 s4 gb ib nb lb => ⟨_, _, ⟨rfl, rfl⟩, hN _ _ ?_⟩⟩
      have s24 := Same.trans s23 s4
      have s34 := Same.trans s3 s4
      exact go07 _ _ H4 b c ia ma _ _ n wd xs ys items more dit bit _ _ _ k rfl ((BG1.same s24).le (by decide)) ⟨by omega, wd1, s24 _ _ hi, s24 _ _ ma1, nia, nma, ti.same s24, tm.same s24, ig, fti, ftm, ⟨td, ds, rfl, Same.seqT s34 gd, idt.same s34, nd, ld⟩, ⟨tb, bs, rfl, gb, ib, nb, lb⟩⟩
end
end LK

set_option Elab.async false
set_option linter.all false
set_option maxRecDepth 100000
namespace LK
open PySem PySem.Spec PyProof.Rows L2
local macro_rules | `(tactic| walk_at "rs") => `(tactic| simp only [cxK, cxNK, tCallZ, tAsg, tOp, rI0, rS0, rB0, rI, rU, tUn, rEq, rNe, rIxL, rIxT, rIxS, rSetL, rSlLU, rSlS, rSlU, rCatL, rCatU, rRepL, rIn, tVar, tC, gName, gSub, tIfS, tTest, tB, tAnd, tOr, tNot, tNotV, tAndV, tOrV, tIf, tCall, tCons, tNil, tCB, tDrop, tRet, tRetN, tNext, tLstU, tTupU, tM0, tM1, tPar, tPar3, tAug, ipI, tBM, tBM0, rAppend, rPop, tBreak, sDPut, tDGet, tDGet2, tCont, tChain, tSl, tPart, tNoPart, L2.start, List.map, List.length_cons, List.length_nil, List.replicate, List.cons_append, List.nil_append, List.append_nil, List.getElem?_cons_zero, List.getElem?_cons_succ, List.set_cons_zero, List.set_cons_succ, Option.some.injEq, V.int.injEq, V.ref.injEq, V.str.injEq, V.bl.injEq, exists_eq_left', exists_eq_left, exists_and_left, decide_eq_true_eq, List.cons.injEq, and_true, true_and, scal, Bool.not_eq_true', decide_eq_false_iff_not, Nat.zero_add, Nat.reduceAdd, Nat.reduceSub, reduceCtorEq, false_and, exists_false, false_or, or_false, CPow, CPowW, CMul, CDiv, Int.reduceToNat, ↓reduceIte, wipe, sw, List.nil_append, List.singleton_append])
local macro_rules | `(tactic| walk_at "st") => `(tactic| (refine seq_op fun N hN => ?_; walk_at "rs"))
local macro_rules | `(tactic| walk_at "sd") => `(tactic| first | assumption | decide | omega)
local macro_rules | `(tactic| walk_at "rd") => `(tactic| repeat (first
  | refine ⟨_, SqL.of (by assumption), ?_⟩ | refine ⟨_, SqL.of upd_same, ?_⟩ | refine ⟨_, .inl (SqL.of (by assumption)), ?_⟩ | refine ⟨_, (by assumption : _ = some (HO.lst _)), ?_⟩ | refine ⟨_, upd_same, ?_⟩
  | refine ⟨_, rfl, ?_⟩ | refine And.intro (by walk_at "sd") ?_))
/-! ### what the head tells, as Bools -/
def oexB (K : PySem.W.Frag) (C : Addr) : Bool := (match K.lookup C with
  | some ⟨.type c, _, .cls cd, sl⟩ => (match cd.mro, sl.toList with
    | .ref C' :: bm, [_, _, _, _, some (.builtin n), _] => decide (c = "type") && (decide (C' = C) && (decide (n = "ValueError.__new__") && (!cd.hasDel && (cd.hasDict && PySem.HandSPX.refsVE bm))))
    | _, _ => false)
  | _ => false) && (He.eqO (PySem.W.findIn K (.ref C) "__setattr__") (some (some (.builtin "object.__setattr__"))) && (decide (PySem.W.subIn K (.ref C) (.type "BaseException") = some true) && (decide (PySem.W.typeIn K (.ref C) = some (.type "type")) && PySem.W.keepIn K (.ref C))))
theorem oexB_ok {K : PySem.W.Frag} {C : Addr} (h : oexB K C = true) : OexC K C := by
  obtain ⟨h1, h2⟩ := He.ba h
  obtain ⟨h3, h4⟩ := He.ba h2
  obtain ⟨h5, h6⟩ := He.ba h4
  obtain ⟨h7, h8⟩ := He.ba h6
  refine ⟨?_, He.eqO_ok h3, of_decide_eq_true h5, of_decide_eq_true h7, h8⟩
  cases e : K.lookup C with
  | none => rw [e] at h1; cases h1
  | some ob =>
    obtain ⟨oc, od, dt, osl⟩ := ob
    rw [e] at h1
    cases oc with
    | type c =>
      cases dt with
      | cls cd =>
        obtain ⟨nm, bs, mro, ns, qn, hd, sn, sb, ab, col, del⟩ := cd
        dsimp only at h1
        split at h1
        · rename_i xl C' bm k0 k1 k2 k3 n k5 es
          obtain ⟨a1, b1⟩ := He.ba h1
          obtain ⟨a2, b2⟩ := He.ba b1
          obtain ⟨a3, b3⟩ := He.ba b2
          obtain ⟨a4, b4⟩ := He.ba b3
          obtain ⟨a5, a6⟩ := He.ba b4
          have ec : c = "type" := of_decide_eq_true a1
          have eC : C' = C := of_decide_eq_true a2
          have en : n = "ValueError.__new__" := of_decide_eq_true a3
          have ed : del = false := by cases del with
            | false => rfl
            | true => cases a4
          have eh : hd = true := a5
          have eo : osl = #[k0, k1, k2, k3, some (.builtin n), k5] := by
            have := congrArg List.toArray es
            simpa using this
          subst ec eC en ed eh eo
          exact ⟨nm, qn, ns, bs, bm, sn, sb, ab, col, od, k0, k1, k2, k3, k5, rfl, a6⟩
        · cases h1
      | _ => cases h1
    | _ => cases dt <;> cases h1
def bvC (K : PySem.W.Frag) : Addr := He.ga K "BadValue"
def bvI (K : PySem.W.Frag) : Addr := He.fAd K ("BadValue", some "__init__")
def exB (K : PySem.W.Frag) : Bool := oexB K (bvC K) && (He.eqO (PySem.W.nsIn K mainGlobals "gcd") (some (some (.builtin "math.gcd"))) && (decide (PySem.W.typeIn K (.ref (bvI K)) = some (.type "function")) && (He.eqO (PySem.W.findIn K (.ref (bvC K)) "__init__") (some (some (.ref (bvI K)))) && (He.tupB K "ZERO" [.int 0, .int 1]))))
def dInit : He.DefD := ⟨("BadValue", some "__init__"), "__init__", "BadValue.__init__", defArgs s_BadValue, defBody s_BadValue, defScope s_BadValue, [], []⟩
def D_is_number : He.DefD := ⟨("is_number", none), "is_number", "is_number", defArgs s_is_number, defBody s_is_number, defScope s_is_number, [], []⟩
def D_fraction : He.DefD := ⟨("fraction", none), "fraction", "fraction", defArgs s_fraction, defBody s_fraction, defScope s_fraction, [.int 1], []⟩
def D_plus : He.DefD := ⟨("plus", none), "plus", "plus", defArgs s_plus, defBody s_plus, defScope s_plus, [], []⟩
def D_normal_entries : He.DefD := ⟨("normal_entries", none), "normal_entries", "normal_entries", defArgs s_normal_entries, defBody s_normal_entries, defScope s_normal_entries, [], []⟩
def D_normal_triples : He.DefD := ⟨("normal_triples", none), "normal_triples", "normal_triples", defArgs s_normal_triples, defBody s_normal_triples, defScope s_normal_triples, [], []⟩
def D__law_bag : He.DefD := ⟨("_law_bag", none), "_law_bag", "_law_bag", defArgs s__law_bag, defBody s__law_bag, defScope s__law_bag, [], []⟩
def D__law_draw : He.DefD := ⟨("_law_draw", none), "_law_draw", "_law_draw", defArgs s__law_draw, defBody s__law_draw, defScope s__law_draw, [], []⟩
def D__law_like : He.DefD := ⟨("_law_like", none), "_law_like", "_law_like", defArgs s__law_like, defBody s__law_like, defScope s__law_like, [], []⟩
def D__law_gcd : He.DefD := ⟨("_law_gcd", none), "_law_gcd", "_law_gcd", defArgs s__law_gcd, defBody s__law_gcd, defScope s__law_gcd, [], []⟩
def D__law_low : He.DefD := ⟨("_law_low", none), "_law_low", "_law_low", defArgs s__law_low, defBody s__law_low, defScope s__law_low, [], []⟩
def D__law_plus : He.DefD := ⟨("_law_plus", none), "_law_plus", "_law_plus", defArgs s__law_plus, defBody s__law_plus, defScope s__law_plus, [], []⟩
def D__law_great : He.DefD := ⟨("_law_great", none), "_law_great", "_law_great", defArgs s__law_great, defBody s__law_great, defScope s__law_great, [], []⟩
def D__law_factor : He.DefD := ⟨("_law_factor", none), "_law_factor", "_law_factor", defArgs s__law_factor, defBody s__law_factor, defScope s__law_factor, [], []⟩
def D__law_items : He.DefD := ⟨("_law_items", none), "_law_items", "_law_items", defArgs s__law_items, defBody s__law_items, defScope s__law_items, [], []⟩
def D__law_normal : He.DefD := ⟨("_law_normal", none), "_law_normal", "_law_normal", defArgs s__law_normal, defBody s__law_normal, defScope s__law_normal, [], []⟩
def D__law_light : He.DefD := ⟨("_law_light", none), "_law_light", "_law_light", defArgs s__law_light, defBody s__law_light, defScope s__law_light, [], []⟩
def D__law_call : He.DefD := ⟨("_law_call", none), "_law_call", "_law_call", defArgs s__law_call, defBody s__law_call, defScope s__law_call, [], []⟩
def D__law_parted : He.DefD := ⟨("_law_parted", none), "_law_parted", "_law_parted", defArgs s__law_parted, defBody s__law_parted, defScope s__law_parted, [], []⟩
def D_law : He.DefD := ⟨("law", none), "law", "law", defArgs s_law, defBody s_law, defScope s_law, [], []⟩
def fnL : List He.DefD := [dInit, D_is_number, D_fraction, D_plus, D_normal_entries, D_normal_triples, D__law_bag, D__law_draw, D__law_like, D__law_gcd, D__law_low, D__law_plus, D__law_great, D__law_factor, D__law_items, D__law_normal, D__law_light, D__law_call, D__law_parted, D_law]
def faL : List He.Fa := [.free "len", .free "int", .free "list", .free "tuple", .free "bool", .free "str", .free "dict", .free "isinstance", .free "all", .free "range", .free "zip", .free "abs", .free "sorted", .free "set", .glo "ZERO", .glo "BadValue", .glo "is_number", .glo "fraction", .glo "plus", .glo "normal_entries", .glo "normal_triples", .glo "_law_bag", .glo "_law_draw", .glo "_law_like", .glo "_law_gcd", .glo "_law_low", .glo "_law_plus", .glo "_law_great", .glo "_law_factor", .glo "_law_items", .glo "_law_normal", .glo "_law_light", .glo "_law_call", .glo "_law_parted", .glo "law", .noat "BadValue" "value", .noat "BadValue" "code"]
theorem fun_ofD {K : PySem.W.Frag} {x q : Str} {st : Stmt} {f : Addr} {fd : FuncData} {kws : List (Str × V)} (F : FunD K x q (defArgs st) (defBody st) (defScope st) [] kws f fd) : Fun K x q st f fd := by
  obtain ⟨oc, od, dV, kV, doc, pm, an, cdv, ct, osl, rfl, lk, hcd, hD, _⟩ := F.ex
  rcases hD with ⟨_, rfl⟩ | ⟨e, _⟩
  · exact ⟨⟨oc, od, kV, doc, pm, an, cdv, ct, osl, rfl, lk, hcd⟩, F.kp⟩
  · exact absurd rfl e
set_option maxHeartbeats 0 in
theorem facts {P : Program} {w : World} {K : PySem.W.Frag} {h : Heap} {mg : Str → Option Value} {f : Addr} (X : K.In h) (G : h.Ns mainGlobals mg) (hfa : mg ("law" : Str) = some (.ref f)) (c : He.SaysX faL fnL [] [] exB w h K) :
    ∃ (fd : FuncData) (cs : List (Addr × Addr)) (sp : Sp), (∀ p ∈ cs, h.get? p.2 = some { cls := .none, data := .fields #[] }) ∧ (∀ p ∈ cs, K.lookup p.2 = none) ∧ (∀ p ∈ cs, PySem.W.CodeHd h p.1 p.2) ∧ (∀ (s : Shared) (u : Value), BindsTo s fd ⟨[u], []⟩ [("script", u)]) ∧
      (∀ (H : Hp) (a : Addr) (ns : List Int), ns.length ≤ 63 → (∀ z ∈ ns, Builtin.Int.intBits z ≤ 1048576) → (∀ p ∈ cs, H p.2 = some (.tbl #[])) → SqL K H a (ns.map V.int) → sp [.ref a] H (fun v _ => v = .bl true) fun _ _ _ => False) ∧
      ∀ base : Heap, K.In base → base.Ns mainGlobals mg → (∀ p ∈ cs, LamX.TabB base mg p.1 p.2) → FnOk P w K mg base CX0 7 f fd ["script"] sp := by
  have d := c.t.d
  have ex := c.more
  obtain ⟨e1, ex⟩ := He.ba ex
  obtain ⟨e2, ex⟩ := He.ba ex
  obtain ⟨e3, ex⟩ := He.ba ex
  obtain ⟨e4, ex⟩ := He.ba ex
  have e5 := ex
  obtain ⟨d_init, FD_init⟩ := d.def_ 0 (d := dInit) rfl
  obtain ⟨d_is_number, FD_is_number⟩ := d.def_ 1 (d := D_is_number) rfl
  obtain ⟨d_fraction, FD_fraction⟩ := d.def_ 2 (d := D_fraction) rfl
  obtain ⟨d_plus, FD_plus⟩ := d.def_ 3 (d := D_plus) rfl
  obtain ⟨d_normal_entries, FD_normal_entries⟩ := d.def_ 4 (d := D_normal_entries) rfl
  obtain ⟨d_normal_triples, FD_normal_triples⟩ := d.def_ 5 (d := D_normal_triples) rfl
  obtain ⟨d__law_bag, FD__law_bag⟩ := d.def_ 6 (d := D__law_bag) rfl
  obtain ⟨d__law_draw, FD__law_draw⟩ := d.def_ 7 (d := D__law_draw) rfl
  obtain ⟨d__law_like, FD__law_like⟩ := d.def_ 8 (d := D__law_like) rfl
  obtain ⟨d__law_gcd, FD__law_gcd⟩ := d.def_ 9 (d := D__law_gcd) rfl
  obtain ⟨d__law_low, FD__law_low⟩ := d.def_ 10 (d := D__law_low) rfl
  obtain ⟨d__law_plus, FD__law_plus⟩ := d.def_ 11 (d := D__law_plus) rfl
  obtain ⟨d__law_great, FD__law_great⟩ := d.def_ 12 (d := D__law_great) rfl
  obtain ⟨d__law_factor, FD__law_factor⟩ := d.def_ 13 (d := D__law_factor) rfl
  obtain ⟨d__law_items, FD__law_items⟩ := d.def_ 14 (d := D__law_items) rfl
  obtain ⟨d__law_normal, FD__law_normal⟩ := d.def_ 15 (d := D__law_normal) rfl
  obtain ⟨d__law_light, FD__law_light⟩ := d.def_ 16 (d := D__law_light) rfl
  obtain ⟨d__law_call, FD__law_call⟩ := d.def_ 17 (d := D__law_call) rfl
  obtain ⟨d__law_parted, FD__law_parted⟩ := d.def_ 18 (d := D__law_parted) rfl
  obtain ⟨d_law, FD_law⟩ := d.def_ 19 (d := D_law) rfl
  have F_init : Fun K "__init__" "BadValue.__init__" s_BadValue (bvI K) d_init := fun_ofD FD_init
  have F_is_number : Fun K "is_number" "is_number" s_is_number (He.ga K "is_number") d_is_number := fun_ofD FD_is_number
  have F_plus : Fun K "plus" "plus" s_plus (He.ga K "plus") d_plus := fun_ofD FD_plus
  have F_normal_entries : Fun K "normal_entries" "normal_entries" s_normal_entries (He.ga K "normal_entries") d_normal_entries := fun_ofD FD_normal_entries
  have F_normal_triples : Fun K "normal_triples" "normal_triples" s_normal_triples (He.ga K "normal_triples") d_normal_triples := fun_ofD FD_normal_triples
  have F__law_bag : Fun K "_law_bag" "_law_bag" s__law_bag (He.ga K "_law_bag") d__law_bag := fun_ofD FD__law_bag
  have F__law_draw : Fun K "_law_draw" "_law_draw" s__law_draw (He.ga K "_law_draw") d__law_draw := fun_ofD FD__law_draw
  have F__law_like : Fun K "_law_like" "_law_like" s__law_like (He.ga K "_law_like") d__law_like := fun_ofD FD__law_like
  have F__law_gcd : Fun K "_law_gcd" "_law_gcd" s__law_gcd (He.ga K "_law_gcd") d__law_gcd := fun_ofD FD__law_gcd
  have F__law_low : Fun K "_law_low" "_law_low" s__law_low (He.ga K "_law_low") d__law_low := fun_ofD FD__law_low
  have F__law_plus : Fun K "_law_plus" "_law_plus" s__law_plus (He.ga K "_law_plus") d__law_plus := fun_ofD FD__law_plus
  have F__law_great : Fun K "_law_great" "_law_great" s__law_great (He.ga K "_law_great") d__law_great := fun_ofD FD__law_great
  have F__law_factor : Fun K "_law_factor" "_law_factor" s__law_factor (He.ga K "_law_factor") d__law_factor := fun_ofD FD__law_factor
  have F__law_items : Fun K "_law_items" "_law_items" s__law_items (He.ga K "_law_items") d__law_items := fun_ofD FD__law_items
  have F__law_normal : Fun K "_law_normal" "_law_normal" s__law_normal (He.ga K "_law_normal") d__law_normal := fun_ofD FD__law_normal
  have F__law_light : Fun K "_law_light" "_law_light" s__law_light (He.ga K "_law_light") d__law_light := fun_ofD FD__law_light
  have F__law_call : Fun K "_law_call" "_law_call" s__law_call (He.ga K "_law_call") d__law_call := fun_ofD FD__law_call
  have F__law_parted : Fun K "_law_parted" "_law_parted" s__law_parted (He.ga K "_law_parted") d__law_parted := fun_ofD FD__law_parted
  have F_law : Fun K "law" "law" s_law (He.ga K "law") d_law := fun_ofD FD_law
  have b_init := F_init.binds (ps := ["self", "value"]) fun _ _ _ _ _ _ us hl => match us, hl with | [_, _], _ => rfl
  have b_is_number := F_is_number.binds (ps := ["value"]) fun _ _ _ _ _ _ us hl => match us, hl with | [_], _ => rfl
  have b_plus := F_plus.binds (ps := ["a", "b"]) fun _ _ _ _ _ _ us hl => match us, hl with | [_, _], _ => rfl
  have b_normal_entries := F_normal_entries.binds (ps := ["entries"]) fun _ _ _ _ _ _ us hl => match us, hl with | [_], _ => rfl
  have b_normal_triples := F_normal_triples.binds (ps := ["triples"]) fun _ _ _ _ _ _ us hl => match us, hl with | [_], _ => rfl
  have b__law_bag := F__law_bag.binds (ps := ["script"]) fun _ _ _ _ _ _ us hl => match us, hl with | [_], _ => rfl
  have b__law_draw := F__law_draw.binds (ps := ["bag", "many"]) fun _ _ _ _ _ _ us hl => match us, hl with | [_, _], _ => rfl
  have b__law_like := F__law_like.binds (ps := ["found", "due"]) fun _ _ _ _ _ _ us hl => match us, hl with | [_, _], _ => rfl
  have b__law_gcd := F__law_gcd.binds (ps := ["a", "b"]) fun _ _ _ _ _ _ us hl => match us, hl with | [_, _], _ => rfl
  have b__law_low := F__law_low.binds (ps := ["p", "q"]) fun _ _ _ _ _ _ us hl => match us, hl with | [_, _], _ => rfl
  have b__law_plus := F__law_plus.binds (ps := ["a", "b"]) fun _ _ _ _ _ _ us hl => match us, hl with | [_, _], _ => rfl
  have b__law_great := F__law_great.binds (ps := ["bag"]) fun _ _ _ _ _ _ us hl => match us, hl with | [_], _ => rfl
  have b__law_factor := F__law_factor.binds (ps := ["bag"]) fun _ _ _ _ _ _ us hl => match us, hl with | [_], _ => rfl
  have b__law_items := F__law_items.binds (ps := ["bag", "many", "width", "most"]) fun _ _ _ _ _ _ us hl => match us, hl with | [_, _, _, _], _ => rfl
  have b__law_normal := F__law_normal.binds (ps := ["items"]) fun _ _ _ _ _ _ us hl => match us, hl with | [_], _ => rfl
  have b__law_light := F__law_light.binds (ps := ["bag"]) fun _ _ _ _ _ _ us hl => match us, hl with | [_], _ => rfl
  have b__law_call := F__law_call.binds (ps := ["bag", "many", "items"]) fun _ _ _ _ _ _ us hl => match us, hl with | [_, _, _], _ => rfl
  have b__law_parted := F__law_parted.binds (ps := ["bag", "items"]) fun _ _ _ _ _ _ us hl => match us, hl with | [_, _], _ => rfl
  have b_law := F_law.binds (ps := ["script"]) fun _ _ _ _ _ _ us hl => match us, hl with | [_], _ => rfl
  have b_fraction : Binds K d_fraction ["p", "q"] [] := by
    obtain ⟨ds, hv, hb⟩ := FunD.binds1 (ps := ["p", "q"]) FD_fraction 2 1 (List.cons_ne_nil _ _) rfl fun _ _ _ _ _ _ _ us its h1 h2 => match us, its, h1, h2 with | [_, _], [_], _, _ => ⟨_, rfl, rfl⟩
    cases hv
    exact hb
  have dfl_fraction : ∃ ds, Vals [.int 1] ds ∧ Binds K d_fraction ["p", "q"] ds := FunD.binds1 (ps := ["p", "q"]) FD_fraction 1 0 (List.cons_ne_nil _ _) rfl fun _ _ _ _ _ _ _ us its h1 h2 => match us, its, h1, h2 with | [_], [_], _, _ => ⟨_, rfl, rfl⟩
  have z_normal_entries : KBn K d_normal_entries ["entries"] 0 ["entries"] (fun _ ws => ws) (fun _ zs => zs) := kb_of F_normal_entries (n := 0) (ks := ["entries"]) (ps := ["entries"]) (fun _ ws => ws) (fun _ h => h) fun _ _ _ _ _ _ us ws h1 h2 => match us, ws, h1, h2 with | [], [_], _, _ => rfl
  have z_normal_triples : KBn K d_normal_triples ["triples"] 0 ["triples"] (fun _ ws => ws) (fun _ zs => zs) := kb_of F_normal_triples (n := 0) (ks := ["triples"]) (ps := ["triples"]) (fun _ ws => ws) (fun _ h => h) fun _ _ _ _ _ _ us ws h1 h2 => match us, ws, h1, h2 with | [], [_], _, _ => rfl
  let T : Txt w K mg := {
    n_len := He.free_ok X G (d.fact 0 (f := .free "len") rfl)
    n_int := He.free_ok X G (d.fact 1 (f := .free "int") rfl)
    n_list := He.free_ok X G (d.fact 2 (f := .free "list") rfl)
    n_tuple := He.free_ok X G (d.fact 3 (f := .free "tuple") rfl)
    n_bool := He.free_ok X G (d.fact 4 (f := .free "bool") rfl)
    n_str := He.free_ok X G (d.fact 5 (f := .free "str") rfl)
    n_dict := He.free_ok X G (d.fact 6 (f := .free "dict") rfl)
    n_isinstance := He.free_ok X G (d.fact 7 (f := .free "isinstance") rfl)
    n_all := He.free_ok X G (d.fact 8 (f := .free "all") rfl)
    n_range := He.free_ok X G (d.fact 9 (f := .free "range") rfl)
    n_zip := He.free_ok X G (d.fact 10 (f := .free "zip") rfl)
    n_abs := He.free_ok X G (d.fact 11 (f := .free "abs") rfl)
    n_sorted := He.free_ok X G (d.fact 12 (f := .free "sorted") rfl)
    n_set := He.free_ok X G (d.fact 13 (f := .free "set") rfl)
    m_gcd := PySem.W.mg_of X G (He.eqO_ok e2)
    a_ZERO := He.ga K "ZERO"
    m_ZERO := He.glo_ok X G (d.fact 14 (f := .glo "ZERO") rfl)
    s_ZERO := fun H => He.tupB_ok e5 H
    C_BadValue := bvC K
    f_BadValue := bvI K
    d_BadValue := d_init
    m_BadValue := He.glo_ok X G (d.fact 15 (f := .glo "BadValue") rfl)
    X_BadValue := oexB_ok e1
    i_BadValue := He.eqO_ok e4
    t_BadValue := of_decide_eq_true e3
    F_BadValue := F_init
    B_BadValue__init := b_init
    v_BadValue := He.noat_ok (d.fact 35 (f := .noat "BadValue" "value") rfl)
    c_BadValue := He.noat_ok (d.fact 36 (f := .noat "BadValue" "code") rfl)
    a_is_number := He.ga K "is_number"
    d_is_number := d_is_number
    F_is_number := F_is_number
    m_is_number := He.glo_ok X G (d.fact 16 (f := .glo "is_number") rfl)
    B_is_number := b_is_number
    a_fraction := He.ga K "fraction"
    d_fraction := d_fraction
    F_fraction := FD_fraction
    m_fraction := He.glo_ok X G (d.fact 17 (f := .glo "fraction") rfl)
    B_fraction := b_fraction
    a_plus := He.ga K "plus"
    d_plus := d_plus
    F_plus := F_plus
    m_plus := He.glo_ok X G (d.fact 18 (f := .glo "plus") rfl)
    B_plus := b_plus
    a_normal_entries := He.ga K "normal_entries"
    d_normal_entries := d_normal_entries
    F_normal_entries := F_normal_entries
    m_normal_entries := He.glo_ok X G (d.fact 19 (f := .glo "normal_entries") rfl)
    B_normal_entries := b_normal_entries
    a_normal_triples := He.ga K "normal_triples"
    d_normal_triples := d_normal_triples
    F_normal_triples := F_normal_triples
    m_normal_triples := He.glo_ok X G (d.fact 20 (f := .glo "normal_triples") rfl)
    B_normal_triples := b_normal_triples
    a__law_bag := He.ga K "_law_bag"
    d__law_bag := d__law_bag
    F__law_bag := F__law_bag
    m__law_bag := He.glo_ok X G (d.fact 21 (f := .glo "_law_bag") rfl)
    B__law_bag := b__law_bag
    a__law_draw := He.ga K "_law_draw"
    d__law_draw := d__law_draw
    F__law_draw := F__law_draw
    m__law_draw := He.glo_ok X G (d.fact 22 (f := .glo "_law_draw") rfl)
    B__law_draw := b__law_draw
    a__law_like := He.ga K "_law_like"
    d__law_like := d__law_like
    F__law_like := F__law_like
    m__law_like := He.glo_ok X G (d.fact 23 (f := .glo "_law_like") rfl)
    B__law_like := b__law_like
    a__law_gcd := He.ga K "_law_gcd"
    d__law_gcd := d__law_gcd
    F__law_gcd := F__law_gcd
    m__law_gcd := He.glo_ok X G (d.fact 24 (f := .glo "_law_gcd") rfl)
    B__law_gcd := b__law_gcd
    a__law_low := He.ga K "_law_low"
    d__law_low := d__law_low
    F__law_low := F__law_low
    m__law_low := He.glo_ok X G (d.fact 25 (f := .glo "_law_low") rfl)
    B__law_low := b__law_low
    a__law_plus := He.ga K "_law_plus"
    d__law_plus := d__law_plus
    F__law_plus := F__law_plus
    m__law_plus := He.glo_ok X G (d.fact 26 (f := .glo "_law_plus") rfl)
    B__law_plus := b__law_plus
    a__law_great := He.ga K "_law_great"
    d__law_great := d__law_great
    F__law_great := F__law_great
    m__law_great := He.glo_ok X G (d.fact 27 (f := .glo "_law_great") rfl)
    B__law_great := b__law_great
    a__law_factor := He.ga K "_law_factor"
    d__law_factor := d__law_factor
    F__law_factor := F__law_factor
    m__law_factor := He.glo_ok X G (d.fact 28 (f := .glo "_law_factor") rfl)
    B__law_factor := b__law_factor
    a__law_items := He.ga K "_law_items"
    d__law_items := d__law_items
    F__law_items := F__law_items
    m__law_items := He.glo_ok X G (d.fact 29 (f := .glo "_law_items") rfl)
    B__law_items := b__law_items
    a__law_normal := He.ga K "_law_normal"
    d__law_normal := d__law_normal
    F__law_normal := F__law_normal
    m__law_normal := He.glo_ok X G (d.fact 30 (f := .glo "_law_normal") rfl)
    B__law_normal := b__law_normal
    a__law_light := He.ga K "_law_light"
    d__law_light := d__law_light
    F__law_light := F__law_light
    m__law_light := He.glo_ok X G (d.fact 31 (f := .glo "_law_light") rfl)
    B__law_light := b__law_light
    a__law_call := He.ga K "_law_call"
    d__law_call := d__law_call
    F__law_call := F__law_call
    m__law_call := He.glo_ok X G (d.fact 32 (f := .glo "_law_call") rfl)
    B__law_call := b__law_call
    a__law_parted := He.ga K "_law_parted"
    d__law_parted := d__law_parted
    F__law_parted := F__law_parted
    m__law_parted := He.glo_ok X G (d.fact 33 (f := .glo "_law_parted") rfl)
    B__law_parted := b__law_parted
    a_law := He.ga K "law"
    d_law := d_law
    F_law := F_law
    m_law := He.glo_ok X G (d.fact 34 (f := .glo "law") rfl)
    B_law := b_law
    Z_normal_entries := z_normal_entries
    Z_normal_triples := z_normal_triples
  }
  have ef : f = He.ga K "law" := by
    have e := hfa.symm.trans T.m_law
    cases e
    rfl
  refine ⟨d_law, [], sp_law K, fun p hp => absurd hp (by simp), fun p hp => absurd hp (by simp), fun p hp => absurd hp (by simp), fun s u => FunD.bindsA (ps := ["script"]) FD_law (fun _ _ _ _ _ _ us hl => match us, hl with | [_], _ => rfl) s [u] rfl, fun H a ns hl _ hT hS => ⟨a, ns, rfl, hS, hl, fun _ => rfl⟩, fun base _ _ hB => ?_⟩
  rw [ef]
  exact ok_law (P := P) (base := base) T
/-! ### the head's run -/
abbrev R : PySem.W.OpenRow := PySem.W.OpenLaw.row PySem.Challenge.rw_lookingnets_k13_normal_forms
abbrev hk : PySem.W.Hook := He.hookX 6 faL fnL [] [] exB
def ob (s : PySem.W.SharedT) : He.AlX := He.obsX 6 faL fnL [] [] exB (HandSHeadRun.getT s)
theorem ob_eq (s : PySem.W.SharedT) : ob s = hk.obs s.abs := He.obsX_eq (HandSHeadRun.getT_eq s)
def loose : List Str := (["NetError", "BadValue", "ZERO", "is_number", "fraction", "plus", "normal_entries", "normal_triples", "_law_bag", "_law_draw", "_law_like", "_law_gcd", "_law_low", "_law_plus", "_law_great", "_law_factor"] : List Str) ++ (["_law_items", "_law_normal", "_law_light", "_law_call", "_law_parted"] : List Str)
set_option maxHeartbeats 0 in
theorem run (w : World) : HandSHeadRun.RunEqI R (PySem.W.view R.prog [0, 26]) hk ob 20000 loose w := by
  unfold HandSHeadRun.RunEqI
  kernel_rfl
end LK

open PySem PySem.W PySem.Calls PyProof.Rows
set_option maxRecDepth 100000 in
set_option maxHeartbeats 0 in
theorem PySem.Challenge.cw_lookingnets_k13_normal_forms_holds : PySem.Challenge.rw_lookingnets_k13_normal_forms.Holds := by
  w_on; o_law
  refine HandSHeadRun.head_imp (r := OpenLaw.row PySem.Challenge.rw_lookingnets_k13_normal_forms) (q := view (OpenLaw.row PySem.Challenge.rw_lookingnets_k13_normal_forms).prog [0, 26]) (H := LK.hk) (ob := LK.ob) (M := 20000) (loose := LK.loose) (d := HandSHeadRun.topDef (OpenLaw.row PySem.Challenge.rw_lookingnets_k13_normal_forms).prog 26) (kwd := []) LK.ob_eq
    LK.run (by kernel_rfl) (by kernel_rfl) (by kernel_rfl) (by rfl) (by first | assumption | decide +kernel) (by decide +kernel) ⟨rfl, rfl, rfl, rfl, rfl, by decide +kernel⟩ ?hw ?hc
  case hw => w_witness2
  case hc =>
    refine LamX.walk_ofTsE (l := PySem.Challenge.rw_lookingnets_k13_normal_forms) (n := 63) (k := 7) (x := "script") (CX := fun _ => L2.CX0) rfl (by decide) (by kernel_rfl) ⟨rfl, by decide, by decide⟩ ?F (fun _ _ _ _ _ z => z)
    intro w mg fa h Y G hmg0
    obtain ⟨K, KX, c⟩ := Y
    have hmg : mg ("law" : PySem.Str) = some (.ref fa) := by
      have e : (HandSHeadRun.topDef (OpenLaw.row PySem.Challenge.rw_lookingnets_k13_normal_forms).prog 26).name = ("law" : PySem.Str) := by kernel_rfl
      rw [← e]
      exact hmg0
    exact ⟨K, KX, LK.facts KX G hmg c⟩
