import PyProof.Rows.All
import Wide.All
import OpenK.AllK
import Wide.FinOn
import HandS.ForMost
import HandS.IsInst
import HandS.Zip
import HandS.TupAny
import HandS.Style
import HandS.More
import HandS.Defaults
import HandS.Walk
import KE.GoesMore
import HandS.Deep
import HandS.TupSets
import HandS.Conv
import HandS.DeepEq
import KE.KDictCopyH
import KE.KDictWalk
import HandS.TryOnly
import HandS.ExcInit
import HandS.Gcd
import HandS.Wide
import HandS.WordsExc
import HandS.HeadHook4
import HandS.HeadWalk
import HandS.Head2
import HandS.Head3
import HandS.Lambda
import PySem.Challenge.RW_lookingnets_k27_peaks_at_points
set_option Elab.async false
set_option linter.all false
set_option maxRecDepth 100000
namespace LK
open PySem PySem.Spec PyProof.Rows L2
/-! ### heaps but for one object -/
def hb (H : Hp) (b : Addr) : Hp := fun a => if a = b then none else H a
theorem hb_ne {H : Hp} {a b : Addr} (h : a ≠ b) : hb H b a = H a := if_neg h
theorem hb_same {H : Hp} {b : Addr} : hb H b b = none := if_pos rfl
theorem hb_some {H : Hp} {a b : Addr} {o : HO} (h : hb H b a = some o) : a ≠ b ∧ H a = some o := by
  unfold hb at h
  split at h
  · cases h
  · exact ⟨by assumption, h⟩
theorem hb_le (H : Hp) (b : Addr) : Same (hb H b) H := fun _ _ h => (hb_some h).2
/-- all but b stays -/
abbrev Kp (b : Addr) (H H' : Hp) : Prop := Same (hb H b) (hb H' b)
theorem Kp.of {b : Addr} {H H' : Hp} (s : Same H H') : Kp b H H' := fun a o h => by
  obtain ⟨h1, h2⟩ := hb_some h
  rw [hb_ne h1]
  exact s _ _ h2
theorem Kp.refl (b : Addr) (H : Hp) : Kp b H H := Same.refl _
theorem Kp.upd {b : Addr} {H : Hp} {o : HO} : Kp b H (upd H b o) := fun a u h => by
  obtain ⟨h1, h2⟩ := hb_some h
  rw [hb_ne h1, upd_ne h1]
  exact h2
theorem Kp.hd {b a : Addr} {H H' : Hp} {o : HO} (k : Kp b H H') (h : H a = some o) (n : a ≠ b) : H' a = some o := (hb_some (k a o (by rw [hb_ne n]; exact h))).2
/-- a new object -/
theorem al {H : Hp} {R : Addr → Hp → Prop} {o : HO} (h : ∀ p H1, Same H H1 → H1 p = some o → H p = none → R p H1) : ∀ p, H p = none → R p (upd H p o) := fun p hp =>
  h p _ (fun a u e => by rw [upd_ne (ne_of_none e hp)]; exact e) upd_same hp
theorem same_upd {H : Hp} {p : Addr} {o : HO} (hp : H p = none) : Same H (upd H p o) := fun a u e => by rw [upd_ne (ne_of_none e hp)]; exact e
theorem at_ofN {α : Type} {xs : List α} {z : Int} {j : Nat} {v : α} (e : z = (j : Int)) (h : xs[j]? = some v) : atI xs z = some v := by
  subst e
  exact atI_nat h
/-! ### the bag of a law -/
def Bag (N : Nat) (H : Hp) (b c : Addr) : Prop := ∃ (cells : List Int) (i g m n : Int), H b = some (.lst [.ref c, .int i, .int g, .int m, .int n]) ∧ H c = some (.lst (cells.map V.int)) ∧ c ≠ b ∧ 0 ≤ i ∧ 0 ≤ m ∧ m < 2147483579
theorem Bag.to {N M : Nat} {H : Hp} {b c : Addr} (B : Bag N H b c) : Bag M H b c := B
theorem Bag.le {N M : Nat} {H : Hp} {b c : Addr} (B : Bag N H b c) (h : M ≤ N) : Bag M H b c := B
theorem Bag.same {N : Nat} {H H' : Hp} {b c : Addr} (B : Bag N H b c) (s : Same H H') : Bag N H' b c := by
  obtain ⟨cells, i, g, m, n, h1, h2, h3⟩ := B
  exact ⟨cells, i, g, m, n, s _ _ h1, s _ _ h2, h3⟩
theorem Bag.at {N : Nat} {H : Hp} {b c : Addr} (B : Bag N H b c) : ∃ xs, H b = some (.lst xs) := by
  obtain ⟨cells, i, g, m, n, h1, _⟩ := B
  exact ⟨_, h1⟩
theorem Bag.at2 {N : Nat} {H : Hp} {b c : Addr} (B : Bag N H b c) : ∃ xs, H c = some (.lst xs) := by
  obtain ⟨cells, i, g, m, n, h1, h2, _⟩ := B
  exact ⟨_, h2⟩
/-- another object is stored -/
theorem Bag.upd {N : Nat} {H : Hp} {b c p : Addr} {o : HO} (B : Bag N H b c) (n1 : b ≠ p) (n2 : c ≠ p) : Bag N (upd H p o) b c := by
  obtain ⟨cells, i, g, m, n, h1, h2, h3⟩ := B
  exact ⟨cells, i, g, m, n, by rw [upd_ne n1]; exact h1, by rw [upd_ne n2]; exact h2, h3⟩
/-- a new object beside a bag -/
theorem alB {N : Nat} {H : Hp} {R : Addr → Hp → Prop} {o : HO} {b c : Addr} (B : Bag N H b c) (h : ∀ p H1, Kp b H H1 → Bag N H1 b c → hb H1 b p = some o → Same H H1 → H p = none → R p H1) : ∀ p, H p = none → R p (upd H p o) :=
  al fun p H1 s h1 h0 => h p H1 (Kp.of s) (B.same s) (by
    have n : p ≠ b := fun e => by
      obtain ⟨xs, q⟩ := B.at
      rw [e, q] at h0; cases h0
    rw [hb_ne n]; exact h1) s h0
/-! ### data -/
theorem Same.seqT {K : PySem.W.Frag} {H H' : Hp} {a : Addr} {xs : List V} (e : Same H H') (h : SqT K H a xs) : SqT K H' a xs := by
  rcases h with (h | ⟨o, h⟩) | h
  · exact .inl (.inl (e _ _ h))
  · exact .inl (.inr ⟨o, e _ _ h⟩)
  · exact .inr h
mutual
theorem dp_same {K : PySem.W.Frag} {H H' : Hp} (e : Same H H') : ∀ {d : PyData} {v : V}, Dp K H v d → Dp K H' v d
  | .none, _, h => by cases h; exact .non
  | .bool _, _, h => by cases h; exact .bl _
  | .int _, _, h => by cases h; exact .int _
  | .str _, _, h => by cases h; exact .str _
  | .list ds, _, h => by cases h with | lst a b => exact .lst (L2.Same.seq e a) (dpa_same e b)
  | .tuple ds, _, h => by cases h with | tup a b => exact .tup (Same.seqT e a) (dpa_same e b)
  | .dict _, _, h => by cases h
theorem dpa_same {K : PySem.W.Frag} {H H' : Hp} (e : Same H H') : ∀ {ds : List PyData} {vs : List V}, DpAll K H vs ds → DpAll K H' vs ds
  | [], _, h => by cases h; exact .nil
  | _ :: _, _, h => by cases h with | cons a b => exact .cons (dp_same e a) (dpa_same e b)
end
end LK
namespace LK
open PySem PySem.Spec PyProof.Rows L2
section
variable {CX : CXT} {P : Program} {w : World} {K : PySem.W.Frag} {mg : Str → Option Value} {base : Heap} {N : List Str} {q : Str} {sc : Scope} {f : Addr} {cd : Value} {A : Around} {outer : List Env} {s : Shared} {H : Hp} {E : XK}
theorem cxK : (cxOf CX P w K mg base N q sc f cd A outer s H E).K = K := rfl
theorem cxNK : (cxOf CX P w K mg base N q sc f cd A outer s H E).nox.K = K := rfl
theorem cxW : (cxOf CX P w K mg base N q sc f cd A outer s H E).w = w := rfl
end
theorem cut_seq {t u : TS} {D : Ends} {σ : L2.St} {H : Hp} (Mid : L2.St → Hp → Prop) (h1 : ∀ N : L2.St → Hp → Prop, (∀ σ' H', Mid σ' H' → N σ' H') → t { D with nx := N } σ H) (h2 : ∀ σ' H', Mid σ' H' → u D σ' H') : tSeq t u D σ H := h1 _ h2
end LK
namespace LK
open PySem PySem.Spec PyProof.Rows L2
theorem seq_op {t u : TS} {D : Ends} {σ : L2.St} {H : Hp} (h : ∀ N : L2.St → Hp → Prop, (∀ σ' H', u D σ' H' → N σ' H') → t { D with nx := N } σ H) : tSeq t u D σ H := h _ fun _ _ z => z
end LK
namespace LK
open PySem PySem.Spec PyProof.Rows L2
section
variable {X : Cx}
theorem opr_imp {f : Value → Value → Sem Value} {r r' : R2} (h : OpR X f r) (i : ∀ x y H Q, r' x y H Q → r x y H Q) : OpR X f r' := fun pins s σ H x y v u Q I rx ry q => h pins s σ H x y v u Q I rx ry (i _ _ _ _ q)
theorem cr_imp {f : Value} {r r' : List V → Hp → VK → Prop} (h : CallR X f r) (i : ∀ x H Q, r' x H Q → r x H Q) : CallR X f r' := fun pins s σ H xs us Q I rx q => h pins s σ H xs us Q I rx (i _ _ _ q)
theorem op_eqI : OpR X (compareOp .Eq) (rI0 fun i j => .bl (decide (i = j))) := opr_imp op_eq fun x y H Q h => by
  obtain ⟨i, j, rfl, rfl, q⟩ := h
  refine ⟨rfl, ?_⟩
  rw [L2.dec_int, Bool.beq_eq_decide_eq]; exact q
theorem op_neI : OpR X (compareOp .NotEq) (rI0 fun i j => .bl (!decide (i = j))) := opr_imp op_ne fun x y H Q h => by
  obtain ⟨i, j, rfl, rfl, q⟩ := h
  refine ⟨rfl, ?_⟩
  rw [L2.dec_int, Bool.beq_eq_decide_eq]; exact q
def rS0 (g : Str → Str → V) : R2 := fun x y H Q => ∃ i j, x = .str i ∧ y = .str j ∧ Q (g i j) H
theorem op_eqS : OpR X (compareOp .Eq) (rS0 fun i j => .bl (decide (i = j))) := opr_imp op_eq fun x y H Q h => by
  obtain ⟨i, j, rfl, rfl, q⟩ := h
  refine ⟨rfl, ?_⟩
  have e : decide (V.str i = V.str j) = decide (i = j) := by
    by_cases c : i = j
    · subst c; simp
    · rw [decide_eq_false c, decide_eq_false (fun z => c (V.str.inj z))]
  rw [e]; exact q
theorem op_neS : OpR X (compareOp .NotEq) (rS0 fun i j => .bl (!decide (i = j))) := opr_imp op_ne fun x y H Q h => by
  obtain ⟨i, j, rfl, rfl, q⟩ := h
  refine ⟨rfl, ?_⟩
  have e : decide (V.str i = V.str j) = decide (i = j) := by
    by_cases c : i = j
    · subst c; simp
    · rw [decide_eq_false c, decide_eq_false (fun z => c (V.str.inj z))]
  rw [e]; exact q
def rB0 (g : Bool → Bool → V) : R2 := fun x y H Q => ∃ i j, x = .bl i ∧ y = .bl j ∧ Q (g i j) H
theorem op_eqB : OpR X (compareOp .Eq) (rB0 fun i j => .bl (i == j)) := opr_imp op_eq fun x y H Q h => by
  obtain ⟨i, j, rfl, rfl, q⟩ := h
  refine ⟨rfl, ?_⟩
  rw [L2.dec_bl]; exact q
theorem op_neB : OpR X (compareOp .NotEq) (rB0 fun i j => .bl (!(i == j))) := opr_imp op_ne fun x y H Q h => by
  obtain ⟨i, j, rfl, rfl, q⟩ := h
  refine ⟨rfl, ?_⟩
  rw [L2.dec_bl]; exact q
/-- int(n) of an int -/
theorem call_intI : CallR X (.type "int") (fun xs H Q => ∃ i, xs = [.int i] ∧ Q (.int i) H) := cr_imp call_int1 fun xs H Q h => .inl h
end
end LK
namespace LK
open PySem PySem.Spec PyProof.Rows L2
/-! ### isinstance of data -/
def tyN : PyData → String
  | .none => "NoneType" | .bool _ => "bool" | .int _ => "int" | .str _ => "str" | .list _ => "list" | .tuple _ => "tuple" | .dict _ => "dict"
def isTy (T : String) : PyData → Bool
  | .none => false | .bool _ => T == "bool" || T == "int" | .int _ => T == "int" | .str _ => T == "str" | .list _ => T == "list" | .tuple _ => T == "tuple" | .dict _ => false
theorem dp_ty {K : PySem.W.Frag} {H : Hp} {v : V} {d : PyData} (h : Dp K H v d) : TyX K H v (.type (tyN d)) := by
  cases h with
  | non => exact .base .non
  | bl b => exact .base (.bl b)
  | int i => exact .base (.int i)
  | str x => exact .base (.str x)
  | lst hs _ =>
    rcases hs with (h | ⟨o, h⟩) | ⟨o, its, n, h1, h2, _⟩
    · exact .base (.lst h)
    · exact .base (.frz h)
    · exact .kList h1 h2
  | tup hs _ =>
    rcases hs with (h | ⟨o, h⟩) | ⟨o, its, n, h1, h2, _⟩
    · exact .base (.tup h)
    · exact .fTuple h
    · exact .kTuple h1 h2
theorem dp_kit {K : PySem.W.Frag} {H : Hp} {v : V} {d : PyData} (h : Dp K H v d) {T : String} (hT : T ∈ ["str", "int", "bool", "list", "tuple"]) : PySem.W.kitOne K (.type (tyN d)) (.type T) = some (isTy T d) := by
  refine kit_ty ?_
  simp only [List.mem_cons, List.mem_nil_iff, or_false] at hT
  cases h <;> rcases hT with rfl | rfl | rfl | rfl | rfl <;> (simp only [tyN, isTy]; decide +kernel)
section
variable {X : Cx}
theorem call_isiD : CallR X (.builtin "isinstance") (fun xs H Q => ∃ x T d, xs = [x, .ty T] ∧ Dp X.K H x d ∧ T ∈ ["str", "int", "bool", "list", "tuple"] ∧ Q (.bl (isTy T d)) H) := cr_imp call_isi fun xs H Q h => by
  obtain ⟨x, T, d, rfl, hd, hT, q⟩ := h
  exact ⟨x, .ty T, _, _, _, rfl, .ty T, dp_ty hd, dp_kit hd hT, q⟩
theorem call_isiDT : CallR X (.builtin "isinstance") (fun xs H Q => ∃ x tp d, xs = [x, .ref tp] ∧ H tp = some (.tup [.ty "list", .ty "tuple"]) ∧ Dp X.K H x d ∧ Q (.bl (isTy "list" d || isTy "tuple" d)) H) := cr_imp call_isiT fun xs H Q h => by
  obtain ⟨x, tp, d, rfl, ht, hd, q⟩ := h
  refine ⟨x, tp, _, .type (tyN d), [.type "list", .type "tuple"], _, rfl, ht, .cons (.ty _) (.cons (.ty _) .nil), dp_ty hd, ?_, q⟩
  have h1 := dp_kit hd (T := "list") (by simp)
  have h2 := dp_kit hd (T := "tuple") (by simp)
  unfold PySem.W.kitAny PySem.W.kitAny PySem.W.kitAny
  rw [h1, h2]
  cases isTy "list" d <;> cases isTy "tuple" d <;> rfl
/-- len of data -/
theorem call_lenD : CallR X (.builtin "len") (fun xs H Q => ∃ x d, xs = [x] ∧ Dp X.K H x d ∧ ((∃ ds, (d = .list ds ∨ d = .tuple ds) ∧ Q (.int ds.length) H) ∨ ∃ z, d = .str z ∧ z.length ≤ sizeLine ∧ Q (.int z.length) H)) := cr_imp call_len fun xs H Q h => by
  obtain ⟨x, d, rfl, hd, ⟨ds, e, q⟩ | ⟨z, rfl, hz, q⟩⟩ := h
  · have ln : ∀ {vs : List V} {es : List PyData}, DpAll X.K H vs es → vs.length = es.length := by
      intro vs es h
      induction es generalizing vs with
      | nil => cases h; rfl
      | cons a r ih => cases h with | cons _ h2 => simp [ih h2]
    rcases e with rfl | rfl
    · cases hd with
      | lst hs ha => exact ⟨_, ds.length, rfl, .inl ⟨_, hs, (ln ha).symm⟩, q⟩
    · cases hd with
      | tup hs ha => exact ⟨_, ds.length, rfl, .inr ⟨_, hs, (ln ha).symm⟩, q⟩
  · cases hd
    exact ⟨_, z.length, rfl, ⟨hz, rfl⟩, q⟩
/-- t[lo:hi] of a tuple: some tuple of that content -/
def rSlU (K : PySem.W.Frag) : V → Option Int → Option Int → Hp → VK → Prop := fun x lo hi H Q => ∃ a xs, x = .ref a ∧ SqT K H a xs ∧ ∀ q H', Same H H' → SqT K H' q (cutV xs lo hi) → Q (.ref q) H'
theorem sl_tupU : SlR X (rSlU X.K) := by
  intro pins s σ H x v vl vu lo hi sl Q I rx hs pl pu h
  obtain ⟨a, xs, rfl, hx, q⟩ := h
  refine sl_tupA pins s σ H _ v vl vu lo hi sl Q I rx hs pl pu ⟨a, xs, rfl, hx, fun hw => q a H (Same.refl H) ?_, fun hw p hp => q p _ (fun b o e => ?_) (.inl (.inl upd_same))⟩
  · have e : cutV xs lo hi = xs := by
      unfold cutV
      rw [hw.1, hw.2]
      simp
    rw [e]; exact hx
  · rw [upd_ne (ne_of_none e hp)]; exact e
def rCatU (K : PySem.W.Frag) : R2 := fun x y H Q => ∃ a b xs ys, x = .ref a ∧ y = .ref b ∧ SqT K H a xs ∧ SqT K H b ys ∧ xs.length + ys.length ≤ sizeLine ∧ ∀ q H', Same H H' → SqT K H' q (xs ++ ys) → Q (.ref q) H'
theorem op_catU : OpR X (binaryOp .Add) (rCatU X.K) := opr_imp op_catA fun x y H Q h => by
  obtain ⟨a, b, xs, ys, rfl, rfl, ha, hb, hz, q⟩ := h
  refine ⟨a, b, xs, ys, rfl, rfl, ha, hb, hz, fun e => q b H (Same.refl H) ?_, fun _ e => q a H (Same.refl H) ?_, fun _ _ p hp => q p _ (fun c o e => ?_) (.inl (.inl upd_same))⟩
  · subst e; exact hb
  · subst e; rw [List.append_nil]; exact ha
  · rw [upd_ne (ne_of_none e hp)]; exact e
/-- tuple(x) of a list or tuple -/
theorem call_tupleU : CallR X (.type "tuple") (fun xs H Q => ∃ p ys, xs = [.ref p] ∧ (SqL X.K H p ys ∨ SqT X.K H p ys) ∧ ∀ q H', Same H H' → SqT X.K H' q ys → Q (.ref q) H') := cr_imp call_tuple_of fun xs H Q h => by
  obtain ⟨p, ys, rfl, h, q⟩ := h
  refine ⟨p, ys, rfl, ?_⟩
  rcases h with h | h
  · exact .inl ⟨h, fun l hl => q l _ (fun c o e => by rw [upd_ne (ne_of_none e hl)]; exact e) (.inl (.inl upd_same))⟩
  · exact .inr ⟨h, q p H (Same.refl H) h⟩
end
/-! ### calls by keywords alone -/
def tCallZ (m : Nat) (sp : Sp) (gV : List V → List V) (E : XK) (tk : TA) : TE := fun σ H Q => tk σ H fun zs H2 => zs.length = m ∧ sp (gV zs) H2 Q E
section
variable {X : Cx} {CX : CXT} {k : Nat} {f : Addr} {fd : FuncData} {ps ks : List Str} {sp : Sp} {E : XK} {x : Str} {p pos : Pos} {kws : List Keyword} {tk : TA} {g : List Value → List Value} {gV : List V → List V}
/-- f(k = v, ..) -/
theorem pe_callZ (F : FnOk X.prog X.w X.K X.mg X.base CX k f fd ps sp) (hr : Room k X.A) (hg : Gl X x) (hm : X.mg x = some (.ref f)) (hk : PySem.W.keepIn X.K (.ref f) = true) (hb : KBn X.K fd ps 0 ks (fun _ ws => g ws) (fun _ zs => gV zs)) (hx : Passes CX X E)
    (hkw : PK X kws tk) (hall : (backToKw pos (keywordEach kws X.env)).all (·.1.isSome) = true := by rfl) (hks : (backToKw pos (keywordEach kws X.env)).filterMap (·.1) = ks := by rfl)
    (hdb : (x == ("__debug__" : Str)) = false := by decide)
    (hpl : ((backTo pos (starEach [] X.env)).any (·.1) || (backToKw pos (keywordEach kws X.env)).any (·.1.isNone)) = false := by rfl) :
    PE X (.Call (.Name x p) [] kws pos) (tCallZ ks.length sp gV E tk) := by
  refine ⟨fun pins s σ H Q I h => ?_⟩
  refine wpAny_Call_Name_kw (ld_glob I hg hm ?_ hdb)
  refine PySem.W.callWith_KW0 (h₀ := X.base) I.ok.mod.kin hk hall (thn (hkw.run pos pins s σ H _ I h) fun ws s2 ⟨zs, H2, I2, rz, l2, q2⟩ => ⟨I2.kIn, ?_⟩) hpl
  rw [hks]
  exact run_fnN F hr hb hx I2 .nil rz rfl l2 q2
end
theorem kb_of {K : PySem.W.Frag} {x qual : Str} {st : Stmt} {f : Addr} {fd : FuncData} {ps : List Str} (F : Fun K x qual st f fd) {n : Nat} {ks : List Str} (g : {α : Type} → List α → List α → List α)
    (hrel : ∀ {vs zs : List V} {us ws : List Value}, Vals vs us → Vals zs ws → Vals (g vs zs) (g us ws))
    (h : ∀ (kV doc pm : Value) (an : Option Addr) (cdv ct : Value) (us ws : List Value), us.length = n → ws.length = ks.length → bindArgs (PySem.W.fnOf x qual (defArgs st) (defBody st) (defScope st) .none kV doc pm an cdv ct) ⟨us, ks.zip ws⟩ = pure (ps.zip (g us ws))) : KBn K fd ps n ks (fun us ws => g us ws) (fun vs zs => g vs zs) := by
  obtain ⟨oc, od, kV, doc, pm, an, cdv, ct, osl, rfl, lk, hcd⟩ := F.ex
  exact ⟨fun s us ws _ l1 l2 => .of_eq (h kV doc pm an cdv ct us ws l1 l2), hrel⟩
end LK

namespace LK
open PySem PySem.Spec PyProof.Rows L2
/-! ### t[::-1] of a tuple -/
theorem fm_map {α β : Type} {f : α → Option β} {g : α → β} : ∀ {l : List α}, (∀ m ∈ l, f m = some (g m)) → l.filterMap f = l.map g
  | [], _ => rfl
  | a :: l, h => by
    rw [List.filterMap_cons, h a List.mem_cons_self]
    exact congrArg (g a :: ·) (fm_map fun m hm => h m (List.mem_cons_of_mem _ hm))
theorem rev_pick (xs : Array Value) : ((List.range xs.size).filterMap fun (m : Nat) => xs[(((xs.size : Int) - 1) + (m : Int) * (-1)).toNat]?).toArray = xs.toList.reverse.toArray := by
  have e : ((List.range xs.size).filterMap fun (m : Nat) => xs[(((xs.size : Int) - 1) + (m : Int) * (-1)).toNat]?) = xs.toList.reverse := by
    have h : ∀ m ∈ List.range xs.size, (xs[(((xs.size : Int) - 1) + (m : Int) * (-1)).toNat]?) = some (xs.toList.reverse.getD m .none) := by
      intro m hm
      have hm := List.mem_range.mp hm
      have e1 : (((xs.size : Int) - 1) + (m : Int) * (-1)).toNat = xs.size - 1 - m := by omega
      rw [e1, List.getD_eq_getElem?_getD, List.getElem?_reverse (by simpa using hm)]
      rw [Array.getElem?_eq_getElem (by omega), Array.length_toList, List.getElem?_eq_getElem (by rw [Array.length_toList]; omega)]
      rfl
    rw [fm_map h]
    refine List.ext_getElem? fun i => ?_
    rw [List.getElem?_map]
    by_cases hi : i < xs.size
    · rw [List.getElem?_range hi, List.getElem?_eq_getElem (by simpa using hi)]
      simp [List.getElem?_eq_getElem, hi]
    · rw [List.getElem?_eq_none (by simpa using hi), List.getElem?_eq_none (by simpa using hi)]
      rfl
  rw [e]
section
variable {prog : Program} {w : World} {A : Around} {E : Value → Shared → Prop} {s : Shared}
theorem sliceApplied_rev {sl : Addr} {vl vu vs : Value} {n : Nat} {Q : Int × Int × Nat → Shared → Prop} (hs : s.heap.IsSliceOf sl vl vu vs) (pl : IsPart vl none) (pu : IsPart vu none) (ps : IsPart vs (some (-1)))
    (h : Q ((n : Int) - 1, -1, n) s) : wpAny (model prog w) A (Builtin.Slice.sliceApplied (.ref sl) (pure (n : Int))) Q E s := by
  obtain ⟨os, hos, hcs, hds⟩ := id hs
  unfold Builtin.Slice.sliceApplied Builtin.Slice.sliceFields
  refine wpAny_bind (wpAny_bind (wpAny_field hos hds (x := vl) rfl (wpAny_bind (wpAny_field hos hds (x := vu) rfl (wpAny_bind (wpAny_field hos hds (x := vs) rfl (wpAny_pure ?_)))))))
  refine wpAny_bind (HT.slicePart_ ps ?_)
  show wpAny _ _ (if ((-1 : Int) == 0) = true then _ else _) _ _ s
  rw [if_neg (by decide)]
  refine wpAny_bind (HT.slicePart_ pl (wpAny_bind (HT.slicePart_ pu (wpAny_bind (wpAny_pure ?_)))))
  show wpAny _ _ (match Builtin.Slice.sliceAdjust none none (-1) (n : Int) with | (lo, hi) => pure (lo, (-1 : Int), Builtin.Slice.slicePlaces lo hi (-1))) _ _ s
  have e1 : Builtin.Slice.sliceAdjust none none (-1) (n : Int) = ((n : Int) - 1, -1) := rfl
  rw [e1]
  show wpAny _ _ (pure ((n : Int) - 1, (-1 : Int), Builtin.Slice.slicePlaces ((n : Int) - 1) (-1) (-1))) _ _ s
  have e2 : Builtin.Slice.slicePlaces ((n : Int) - 1) (-1) (-1) = n := by
    unfold Builtin.Slice.slicePlaces
    rw [if_neg (by decide)]
    by_cases c : n = 0
    · subst c; rfl
    · rw [if_pos (by omega)]
      show (((n : Int) - 1 - -1 - 1) / 1 + 1).toNat = n
      rw [Int.ediv_one]; omega
  rw [e2]
  exact wpAny_pure h
theorem getItem_tuple_rev {t sl : Addr} {items : Array Value} {vl vu vs : Value} {Q : Value → Shared → Prop} (ht : IsTup s.heap t items) (hs : s.heap.IsSliceOf sl vl vu vs) (pl : IsPart vl none) (pu : IsPart vu none) (ps : IsPart vs (some (-1)))
    (h : Q (.ref s.heap.objs.size) { s with heap := s.heap.push { cls := .type "tuple", data := .seq items.toList.reverse.toArray } })
    (hsz : items.size ≤ sizeLine) : wpAny (model prog w) A (getItem (.ref t) (.ref sl)) Q E s := by
  have htake : sizeOk (.seq items.toList.reverse.toArray) := by
    show items.toList.reverse.toArray.size ≤ sizeLine
    simpa using hsz
  obtain ⟨os, hos, hcs, hds⟩ := id hs
  have hTs : s.TypeIs (.ref sl) "slice" := ⟨os, hos, hcs⟩
  unfold getItem
  try with_reducible refine wpAny_holding ?_
  first | refine wpAny_bind (wpAny_pure ?_) | skip
  refine wpAny_bind (wpAny_sequenceKey ht.typeIs (by decide) ?_)
  refine wpAny_bind (wpAny_callSpecial?_slot (name := Str.ofString "__getitem__") ht.typeIs PyProof.Rows.slot_tuple_getitem
    (wpAny_call_entry PyProof.Rows.slot_tuple_getitem ht.typeIs PyProof.Rows.entry_tuple_getitem ?_ (PyProof.Rows.args_tuple_getitem _ _)))
  show wpAny _ _ (Builtin.Tuple.tupleItemsOf (.ref t) >>= _) _ _ s
  refine wpAny_bind (PyProof.Rows.tupleItemsOf_ ht ?_)
  refine wpAny_bind (wpAny_typeOf hTs ?_)
  rw [if_pos (by decide)]
  refine wpAny_bind (sliceApplied_rev hs pl pu ps ?_)
  have hno : ¬ ((((items.size : Int) - 1) == 0 && (-1 : Int) == 1 && items.size == items.size) = true) := by
    intro q
    rw [Bool.and_eq_true, Bool.and_eq_true] at q
    exact absurd (eq_of_beq q.1.2) (by decide)
  show wpAny _ _ (if (((items.size : Int) - 1) == 0 && (-1 : Int) == 1 && items.size == items.size) = true then _ else _) _ _ s
  rw [if_neg hno, rev_pick]
  first
    | exact wpAny_bind (m := Builtin.Tuple.tupleExact _) (wpAny_newObj_type (wpAny_pure ⟨_, rfl, wpAny_pure h⟩) htake)
    | exact wpAny_bind (m := Builtin.Tuple.tupleExact _) (wpAny_newObj_type (wpAny_bind (wpAny_pure (wpAny_pure ⟨_, rfl, wpAny_pure h⟩))) htake)
    | exact wpAny_bind (wpAny_bind (m := Builtin.Tuple.tupleExact _) (wpAny_newObj_type (wpAny_pure (wpAny_pure ⟨_, rfl, wpAny_pure h⟩)) htake))
    | exact wpAny_bind (wpAny_bind (m := Builtin.Tuple.tupleExact _) (wpAny_newObj_type (wpAny_pure ⟨_, rfl, wpAny_pure h⟩) htake))
end
section
variable {X : Cx}
def tRevT (K : PySem.W.Frag) (te : TE) : TE := fun σ H Q => te σ H fun x H1 => ∃ a xs, x = .ref a ∧ SqT K H1 a xs ∧ ∀ p H2, Same H1 H2 → H1 p = none → H2 p = some (.tup xs.reverse) → Q (.ref p) H2
theorem pe_revT {e : Expr} {te : TE} {k : Nat} {p1 p2 p3 pos : Pos} (he : PE X e te) : PE X (.Subscript e (.Slice none none (some (.UnaryOp .USub (.Constant (.int 1) k p1) p2)) p3) pos) (tRevT X.K te) := by
  refine ⟨fun pins s σ H Q I h => ?_⟩
  refine Subscript_ (thn (he.run pins s σ H _ I h) fun v s1 ⟨x, H1, I1, r1, q1⟩ => ?_)
  obtain ⟨a, xs, ex, hx, q⟩ := q1
  subst ex
  cases r1
  have hst : PO X (some (.UnaryOp .USub (.Constant (.int 1) k p1) p2)) (tPart (tUn (rU fun i => .int (-i)) (tC (.int 1)))) := po_some (pe_un un_neg pe_int)
  refine wpAny_Slice (thn (po_none.run pins s1 σ H1 (fun o H2 => o = none ∧ H2 = H1) I1 ⟨rfl, rfl⟩) fun vl s2 ⟨l, H2, I2, pl, el, e2⟩ => ?_)
  subst el e2
  refine thn (po_none.run pins s2 σ H2 (fun o H3 => o = none ∧ H3 = H2) I2 ⟨rfl, rfl⟩) fun vu s3 ⟨u, H3, I3, pu, eu, e3⟩ => ?_
  subst eu e3
  refine thn (hst.run pins s3 σ H3 (fun o H4 => o = some (-1) ∧ H4 = H3) I3 ⟨1, rfl, -1, rfl, rfl, rfl⟩) fun vs s4 ⟨o, H4, I4, ps, eo, e4⟩ => ?_
  subst eo e4
  have I5 : Inv X pins σ H4 { s4 with heap := s4.heap.push { cls := .type "slice", data := .fields #[vl, vu, vs] } } := I4.kept (t' := s4.toks) fun b ob q => Heap.get?_push_of_some _ q
  obtain ⟨its, r, ht, hz⟩ := I5.tuple hx
  have hlen := r.length
  show wpAny (model X.prog X.w) X.A (subscriptTail e (.Slice none none (some (.UnaryOp .USub (.Constant (.int 1) k p1) p2)) p3) (.ref a) (.ref s4.heap.objs.size)) (EP X pins σ Q) X.xe { s4 with heap := s4.heap.push { cls := .type "slice", data := .fields #[vl, vu, vs] } }
  refine tail_any (ops := [.ref a, .ref s4.heap.objs.size]) ht.typeIs (PyProof.Rows.slot_tuple_getitem.lookup) ?_ (by with_unfolding_all rfl)
  refine getItem_tuple_rev ht (Heap.IsSliceOf.new _ vl vu vs) pl pu ps ?_ (by rw [List.size_toArray]; omega)
  refine ⟨.ref _, _, I5.laid (t' := s4.toks) (o := .tup xs.reverse) (fun b ob q => Heap.get?_push_of_some _ q) (Nat.le_refl _) ?_, rfl, q _ _ (same_upd (I5.hok.fresh (Nat.le_refl _))) (I5.hok.fresh (Nat.le_refl _)) upd_same⟩
  exact ⟨by rw [List.length_reverse]; exact hz, _, r.reverse, IsTup.new _ _⟩
end
end LK
namespace LK
open PySem PySem.Spec PyProof.Rows L2
/-! ### d.get(k) of a written dict with text keys -/
section
variable {X : Cx} {d : Addr} {es : Array DictEntry} {n : Nat} {o e : Expr} {apos cpos : Pos} {td ty : TE}
def tWget (K : PySem.W.Frag) (d : Addr) (td ty : TE) : TE := fun σ H Q => td σ H fun x H1 => x = .ref d ∧ ty σ H1 fun y H2 => ∃ (z : Str) (r : Option Value) (v : V), y = .str z ∧ PySem.W.nsIn K d z = some r ∧ RelV v (r.getD .none) ∧ Q v H2
theorem pe_wget (D : KDict X.K X.w d es n) (ho : PE X o td) (he : PE X e ty) (hbase : attributeBase o "get" X.env (eval o X.env) = eval o X.env := by rfl)
    (hfew : ((backTo cpos (starEach [e] X.env)).all (fun x => !x.1) && (backToKw cpos (keywordEach [] X.env)).all (fun x => x.1.isSome)
    && decide (([e] : List Expr).length + ([] : List Keyword).length + (if ([] : List Keyword).isEmpty then 0 else 1) < 30)) = true := by rfl)
    (hline : (apos.endLine == cpos.line) = true := by rfl) (htr : backTo cpos (starEach [e] X.env) = [(false, eval e X.env)] := by rfl) : PE X (.Call (.Attribute o "get" apos) [e] [] cpos) (tWget X.K d td ty) := by
  refine ⟨fun pins s σ H Q I h => ?_⟩
  refine wpAny_Call_method hbase hfew hline PySem.F.plainAttrs_dict PySem.F.slot_dict_get PySem.F.type_dict_get (thn (ho.run pins s σ H _ I h) fun u s1 ⟨x, H1, I1, rx, ex, q1⟩ => ?_)
  subst ex
  obtain rfl : u = Value.ref d := rx
  have ob := I1.kIn _ _ D.at_
  refine ⟨kd_type D I1, fun b q => ?_, ?_⟩
  · cases q
    exact ⟨_, ob, rfl⟩
  rw [htr]
  refine Calls.callWith_builtin rfl (Calls.evalArgs_plain (Calls.spliced_cons (thn (he.run pins s1 σ H1 _ I1 q1) fun iv s2 ⟨y, H2, I2, ry, z, r, v, ey, hn, rv, q2⟩ => Calls.spliced_nil ?_)))
  subst ey
  obtain ⟨t, rfl⟩ := ry
  refine call_meetsIn PySem.F.slot_dict_get (kd_type D I2) PySem.F.entry_dict_get (PySem.F.args_dict_get_2 _ _) (meets_dict_get (strKind X.prog X.w) d (PySem.strKind_is X.prog X.w z t) D.low)
    ⟨_, PySem.W.mapOf_K (prog := X.prog) I2.kIn D.at_ D.lit, v, H2, I2.tok _, ?_, q2⟩
  rw [PySem.W.find_K D.at_ hn]
  exact rv
end
end LK
namespace LK
open PySem PySem.Spec PyProof.Rows L2
/-! ### comprehensions without tests -/
/-- what is new since H -/
def nw (H H' : Hp) : Hp := fun a => if H a = none then H' a else none
theorem nw_some {H H' : Hp} {a : Addr} {o : HO} (h : nw H H' a = some o) : H a = none ∧ H' a = some o := by
  unfold nw at h
  split at h
  · exact ⟨by assumption, h⟩
  · cases h
theorem nw_of {H H' : Hp} {a : Addr} {o : HO} (h0 : H a = none) (h : H' a = some o) : nw H H' a = some o := by
  unfold nw
  rw [if_pos h0]; exact h
theorem nw_le (H H' : Hp) : Same (nw H H') H' := fun _ _ h => (nw_some h).2
theorem nw_hb {H H' : Hp} {b : Addr} {o : HO} (h : H b = some o) : Same (nw H H') (hb H' b) := fun a u e => by
  obtain ⟨h1, h2⟩ := nw_some e
  have n : a ≠ b := fun q => by rw [q, h] at h1; cases h1
  rw [hb_ne n]; exact h2
/-- new since a later heap is new since an earlier one -/
theorem nw_anti {H0 H H' : Hp} (d : ∀ a, H a = none → H0 a = none) : Same (nw H H') (nw H0 H') := fun a u e => by
  obtain ⟨h1, h2⟩ := nw_some e
  exact nw_of (d a h1) h2
theorem nw_same {H H' H'' : Hp} (s : ∀ a o, H a = none → H' a = some o → H'' a = some o) : Same (nw H H') (nw H H'') := fun a u e => by
  obtain ⟨h1, h2⟩ := nw_some e
  exact nw_of h1 (s _ _ h1 h2)
theorem Kp.dom {b : Addr} {H H' : Hp} {o : HO} (k : Kp b H H') (hb' : H' b = some o) : ∀ a, H' a = none → H a = none := fun a h => by
  cases q : H a with
  | none => rfl
  | some u =>
    by_cases e : a = b
    · subst e; rw [hb'] at h; cases h
    · rw [k.hd q e] at h; cases h
theorem Same.dom {H H' : Hp} (k : Same H H') : ∀ a, H' a = none → H a = none := fun a h => k.free h

/-- a pure one -/
theorem lc_pure {J : It} {n : Nat} {G : Hp → Prop} {Y : Nat → Hp → V → Hp → Prop} (w : Walk J n G Y) {g : TG} {te : TE} {vs : List Nat} {σ : L2.St} {H1 : Hp} {D : Addr} {Qd : Hp → Prop} (hD : H1 D = none) (hn : n ≤ 1000000) (y : Nat → V)
    (hG : ∀ H, Same H1 H → G H)
    (hs : ∀ i x H H', i < n → Same H1 H → Y i H x H' → g x (wipe σ vs) H' fun σ2 H2 => Same H H2 ∧ wipe σ2 vs = wipe σ vs ∧ ∀ Q2 : V → Hp → Prop, (∀ H3, Same H2 H3 → Q2 (y i) H3) → te σ2 H2 Q2)
    (gm : ∀ x σ0 H0 Q0 Q1, (∀ σ2 H2, Q0 σ2 H2 → Q1 σ2 H2) → g x σ0 H0 Q0 → g x σ0 H0 Q1)
    (hq : ∀ H', Same H1 H' → H' D = some (.lst ((List.range n).map y)) → Qd H') :
    ∃ W : Nat → Nat → Hp → Prop, (∃ m, W 0 m (upd H1 D (.lst []))) ∧ ∀ i m H, W i m H →
      (J.stop i H ∧ Qd H) ∨ (J.go i H ∧ ∃ Nx : Hp → Prop, (∀ H', Nx H' → ∃ m', m' < m ∧ W (i + 1) m' H') ∧ ∀ x H', J.yld i H x H' → g x (wipe σ vs) H' fun σ2 H2 => wipe σ2 vs = wipe σ vs ∧ tYes σ2 H2 fun b H3 =>
        if b = true then te σ2 H3 fun y H4 => ∃ acc, H4 D = some (.lst acc) ∧ acc.length < sizeLine ∧ Nx (upd H4 D (.lst (acc ++ [y]))) else Nx H3) := by
  have up : ∀ {H : Hp} {o : HO}, Same H1 H → Same H1 (upd H D o) := fun s a u e => by
    rw [upd_ne (ne_of_none e hD)]; exact s _ _ e
  refine lc_it w (fun i H => Same H1 H ∧ H D = some (.lst ((List.range i).map y))) ⟨up (Same.refl _), upd_same⟩ (fun i H _ h => hG H h.1) (fun i x H H' hi ⟨s1, h1⟩ hY => ?_) (fun H h => hq H h.1 h.2)
  refine gm _ _ _ _ _ (fun σ2 H2 ⟨s2, e2, k⟩ => ⟨e2, ?_⟩) (hs i x H H' hi s1 hY)
  simp only [tYes, eq_self, ite_true]
  refine k _ fun H3 s3 => ⟨_, s3 _ _ (s2 _ _ h1), ?_, up (Same.trans (Same.trans s1 s2) s3), ?_⟩
  · rw [List.length_map, List.length_range]
    exact Nat.lt_of_lt_of_le (Nat.lt_of_lt_of_le hi hn) (by decide)
  · rw [upd_same, List.range_succ, List.map_append]
    rfl
/-- one that draws from a bag -/
theorem lc_bag {J : It} {n k N : Nat} {G : Hp → Prop} {Y : Nat → Hp → V → Hp → Prop} (w : Walk J n G Y) {g : TG} {te : TE} {vs : List Nat} {σ : L2.St} {H1 : Hp} {D b c : Addr} {Qd : Hp → Prop} (hD : H1 D = none) (hB : Bag (N + n * k) H1 b c) (hn : n ≤ 1000000) (Φ : Hp → V → Prop) (mono : ∀ G G' v, Same G G' → Φ G v → Φ G' v)
    (hG : ∀ H, Kp b H1 H → G H)
    (hs : ∀ i x H H' M, i < n → Kp b H1 H → Bag (M + k) H b c → Y i H x H' → g x (wipe σ vs) H' fun σ2 H2 => Same H H2 ∧ wipe σ2 vs = wipe σ vs ∧ ∀ Q2 : V → Hp → Prop, (∀ v H3, Bag M H3 b c → Kp b H2 H3 → Φ (nw H2 H3) v → Q2 v H3) → te σ2 H2 Q2)
    (gm : ∀ x σ0 H0 Q0 Q1, (∀ σ2 H2, Q0 σ2 H2 → Q1 σ2 H2) → g x σ0 H0 Q0 → g x σ0 H0 Q1)
    (hq : ∀ H' ys, Bag N H' b c → Kp b H1 H' → H' D = some (.lst ys) → ys.length = n → (∀ v ∈ ys, Φ (nw (upd H1 D (.lst [])) H') v) → Qd H') :
    ∃ W : Nat → Nat → Hp → Prop, (∃ m, W 0 m (upd H1 D (.lst []))) ∧ ∀ i m H, W i m H →
      (J.stop i H ∧ Qd H) ∨ (J.go i H ∧ ∃ Nx : Hp → Prop, (∀ H', Nx H' → ∃ m', m' < m ∧ W (i + 1) m' H') ∧ ∀ x H', J.yld i H x H' → g x (wipe σ vs) H' fun σ2 H2 => wipe σ2 vs = wipe σ vs ∧ tYes σ2 H2 fun b H3 =>
        if b = true then te σ2 H3 fun y H4 => ∃ acc, H4 D = some (.lst acc) ∧ acc.length < sizeLine ∧ Nx (upd H4 D (.lst (acc ++ [y]))) else Nx H3) := by
  obtain ⟨xb, eb⟩ := hB.at
  obtain ⟨xc, ec⟩ := hB.at2
  have nbD : b ≠ D := fun e => by rw [← e, eb] at hD; cases hD
  have ncD : c ≠ D := fun e => by rw [← e, ec] at hD; cases hD
  have up : ∀ {H : Hp} {o : HO}, Kp b H1 H → Kp b H1 (upd H D o) := fun s a u e => by
    obtain ⟨h1, h2⟩ := hb_some e
    rw [hb_ne h1, upd_ne (ne_of_none h2 hD)]
    exact s.hd h2 h1
  refine lc_it w (fun i H => Kp b H1 H ∧ Bag (N + (n - i) * k) H b c ∧ ∃ ys, H D = some (.lst ys) ∧ ys.length = i ∧ ∀ v ∈ ys, Φ (nw (upd H1 D (.lst [])) H) v) ⟨up (Kp.refl _ _), hB.upd nbD ncD, [], upd_same, rfl, fun v hv => absurd hv (by simp)⟩ (fun i H _ h => hG H h.1) (fun i x H H' hi ⟨s1, B1, ys, h1, hl, hp⟩ hY => ?_) (fun H ⟨s1, B1, ys, h1, hl, hp⟩ => hq H ys (B1.le (Nat.le_add_right _ _)) s1 h1 hl hp)
  refine gm _ _ _ _ _ (fun σ2 H2 ⟨s2, e2, kq⟩ => ⟨e2, ?_⟩) (hs i x H H' (N + (n - (i + 1)) * k) hi s1 (B1.le (by
    have e : n - i = (n - (i + 1)) + 1 := by omega
    rw [e, Nat.add_mul, Nat.one_mul, Nat.add_assoc]; exact Nat.le_refl _)) hY)
  simp only [tYes, eq_self, ite_true]
  have B2 := B1.same s2
  refine kq _ fun v H3 B3 k3 hv => ⟨ys, k3.hd (s2 _ _ h1) nbD.symm, ?_, up (Same.trans (Same.trans s1 (Kp.of s2)) k3), B3.upd nbD ncD, ys ++ [v], upd_same, by rw [List.length_append, hl]; rfl, fun u hu => ?_⟩
  · rw [hl]
    exact Nat.lt_of_lt_of_le (Nat.lt_of_lt_of_le hi hn) (by decide)
  · have kk : ∀ a o, upd H1 D (.lst []) a = none → H3 a = some o → upd H3 D (.lst (ys ++ [v])) a = some o := fun a o q e => by
      have n : a ≠ D := fun z => by rw [z, upd_same] at q; cases q
      rw [upd_ne n]; exact e
    rcases List.mem_append.mp hu with hu | hu
    · refine mono _ _ _ (fun a o e => ?_) (hp u hu)
      obtain ⟨q1, q2⟩ := nw_some e
      have n : a ≠ b := fun z => by rw [z, upd_ne nbD, eb] at q1; cases q1
      exact nw_of q1 (kk _ _ q1 (k3.hd (s2 _ _ q2) n))
    · obtain rfl : u = v := by simpa using hu
      refine mono _ _ _ (fun a o e => ?_) hv
      obtain ⟨q1, q2⟩ := nw_some e
      have d1 : upd H1 D (.lst []) a = none := by
        by_cases n : a = D
        · rw [n, s2 _ _ h1] at q1; cases q1
        · rw [upd_ne n]
          exact Kp.dom (Same.trans s1 (Kp.of s2)) (B2.at.choose_spec) a q1
      exact nw_of d1 (kk _ _ d1 q2)
end LK
namespace LK
open PySem PySem.Spec PyProof.Rows L2
theorem cutV_take (xs : List V) (k : Nat) : cutV xs none (some (k : Int)) = xs.take k := by
  unfold cutV HT.sIx
  simp only [List.drop_zero, Nat.sub_zero]
  by_cases h : (k : Int) < 0
  · omega
  · rw [if_neg h]
    have e : ((k : Int)).toNat = k := Int.toNat_natCast k
    by_cases c : k ≤ xs.length
    · congr 1
      omega
    · rw [List.take_of_length_le (by omega), List.take_of_length_le (by omega)]
theorem cutV_drop (xs : List V) (k : Nat) : cutV xs (some (k : Int)) none = xs.drop k := by
  unfold cutV
  rw [HT.sIx_nat, HT.sIx_none]
  by_cases c : k ≤ xs.length
  · rw [Nat.min_eq_left c, List.take_of_length_le (by simp)]
  · rw [Nat.min_eq_right (by omega), List.drop_eq_nil_of_le (by omega), List.drop_eq_nil_of_le (by omega)]
    simp
end LK
namespace LK
open PySem PySem.Spec PyProof.Rows L2
/-! ### new objects, the heap behind them by a name -/
section
variable {X : Cx} {es : List Expr} {t : TA} {pos : Pos}
def tTupU (t : TA) : TE := fun σ H Q => t σ H fun xs H1 => xs.length ≤ sizeLine ∧ ∀ p H2, Same H1 H2 → H1 p = none → H2 p = some (.tup xs) → Q (.ref p) H2
def tLstU (t : TA) : TE := fun σ H Q => t σ H fun xs H1 => xs.length ≤ sizeLine ∧ ∀ p H2, Same H1 H2 → H1 p = none → H2 p = some (.lst xs) → Q (.ref p) H2
theorem pe_tupU {x1} (h : PA X es t) : PE X (.Tuple es x1 pos) (tTupU t) := by
  refine ⟨fun pins s σ H Q I hq => ?_⟩
  refine wpAny_Tuple_spliced (thn (h.run pos pins s σ H _ I hq) fun us s1 ⟨xs, H1, I1, r, z, q⟩ => ⟨by rw [← r.length]; exact z, ?_⟩)
  have hf : H1 s1.heap.objs.size = none := I1.hok.fresh (Nat.le_refl _)
  refine ⟨.ref s1.heap.objs.size, L2.upd H1 s1.heap.objs.size (.tup xs), I1.laid (t' := s1.toks) (fun b u e => Heap.get?_push_of_some _ e) (Nat.le_refl _) ?_, rfl, q _ _ (same_upd hf) hf upd_same⟩
  exact ⟨z, us, r, ⟨_, Heap.get?_push_size _ rfl, rfl, _, rfl⟩⟩
theorem pe_lstU (h : PA X es t) : PE X (.List es pos) (tLstU t) := by
  refine ⟨fun pins s σ H Q I hq => ?_⟩
  refine wpAny_List_spliced (thn (h.run pos pins s σ H _ I hq) fun us s1 ⟨xs, H1, I1, r, z, q⟩ => ⟨by rw [← r.length]; exact z, ?_⟩)
  have hf : H1 s1.heap.objs.size = none := I1.hok.fresh (Nat.le_refl _)
  refine ⟨.ref s1.heap.objs.size, L2.upd H1 s1.heap.objs.size (.lst xs), I1.laid (t' := s1.toks) (fun b u e => Heap.get?_push_of_some _ e) (Nat.le_refl _) ?_, rfl, q _ _ (same_upd hf) hf upd_same⟩
  exact ⟨z, us, 0, r, Heap.get?_push_size _ rfl⟩
def rSlLU (K : PySem.W.Frag) : V → Option Int → Option Int → Hp → VK → Prop := fun x lo hi H Q => ∃ a xs, x = .ref a ∧ SqL K H a xs ∧ ∀ p H2, Same H H2 → H p = none → H2 p = some (.lst (cutV xs lo hi)) → Q (.ref p) H2
theorem sl_listU : SlR X (rSlLU X.K) := by
  intro pins s σ H x v vl vu lo hi sl Q I rx hs pl pu h
  obtain ⟨a, xs, rfl, hx, q⟩ := h
  exact sl_list pins s σ H _ v vl vu lo hi sl Q I rx hs pl pu ⟨a, xs, rfl, hx, fun p hp => q p _ (same_upd hp) hp upd_same⟩
theorem call_listU : CallR X (.type "list") (fun xs H Q => ∃ p ys, xs = [.ref p] ∧ (SqL X.K H p ys ∨ SqT X.K H p ys) ∧ ∀ l H2, Same H H2 → H l = none → H2 l = some (.lst ys) → Q (.ref l) H2) := cr_imp call_list_of fun xs H Q h => by
  obtain ⟨p, ys, rfl, h, q⟩ := h
  exact ⟨p, ys, rfl, h, fun l hl => q l _ (same_upd hl) hl upd_same⟩
def rCatL : R2 := fun x y H Q => ∃ l b xs zs, x = .ref l ∧ y = .ref b ∧ H l = some (.lst xs) ∧ H b = some (.lst zs) ∧ xs.length + zs.length ≤ sizeLine ∧ ∀ p H2, Same H H2 → H p = none → H2 p = some (.lst (xs ++ zs)) → Q (.ref p) H2
theorem op_catL : OpR X (binaryOp .Add) rCatL := opr_imp op_cat fun x y H Q h => by
  obtain ⟨l, b, xs, zs, rfl, rfl, h1, h2, hz, q⟩ := h
  exact ⟨l, b, xs, zs, rfl, rfl, h1, h2, hz, fun p hp => q p _ (same_upd hp) hp upd_same⟩
def rRepL : R2 := fun x y H Q => ∃ l k xs, x = .ref l ∧ y = .int k ∧ H l = some (.lst xs) ∧ -(2 ^ 63) ≤ k ∧ k < 2 ^ 63 ∧ xs.length * k.toNat ≤ sizeLine ∧ ∀ p H2, Same H H2 → H p = none → H2 p = some (.lst (List.replicate k.toNat xs).flatten) → Q (.ref p) H2
theorem op_repL : OpR X (binaryOp .Mult) rRepL := opr_imp op_rep fun x y H Q h => by
  obtain ⟨l, k, xs, rfl, rfl, h1, h2, h3, hz, q⟩ := h
  exact ⟨l, k, xs, rfl, rfl, h1, h2, h3, hz, fun p hp => q p _ (same_upd hp) hp upd_same⟩
end
end LK
namespace LK
open PySem PySem.Spec PyProof.Rows L2
/-- [f(x) for x in ..], the items known -/
theorem lc_map {J : It} {n : Nat} {G : Hp → Prop} {Y : Nat → Hp → V → Hp → Prop} (w : Walk J n G Y) {te : TE} {i : Nat} {σ : L2.St} {H1 : Hp} {D : Addr} {Qd : Hp → Prop} (xs : List V) (f : V → V) (hD : H1 D = none) (hn : n ≤ 1000000) (hx : xs.length = n)
    (hY : ∀ k H x H', k < n → Y k H x H' → H' = H ∧ xs[k]? = some x) (hG : ∀ H, Same H1 H → G H)
    (hs : ∀ x H, x ∈ xs → Same H1 H → ∀ Q2 : V → Hp → Prop, (∀ H3, Same H H3 → Q2 (f x) H3) → te ((wipe σ [i]).set i (some x)) H Q2)
    (hq : ∀ H', Same H1 H' → H' D = some (.lst (xs.map f)) → Qd H') :
    ∃ W : Nat → Nat → Hp → Prop, (∃ m, W 0 m (L2.upd H1 D (.lst []))) ∧ ∀ i' m H, W i' m H →
      (J.stop i' H ∧ Qd H) ∨ (J.go i' H ∧ ∃ Nx : Hp → Prop, (∀ H', Nx H' → ∃ m', m' < m ∧ W (i' + 1) m' H') ∧ ∀ x H', J.yld i' H x H' → gName i x (wipe σ [i]) H' fun σ2 H2 => wipe σ2 [i] = wipe σ [i] ∧ tYes σ2 H2 fun b H3 =>
        if b = true then te σ2 H3 fun y H4 => ∃ acc, H4 D = some (.lst acc) ∧ acc.length < sizeLine ∧ Nx (L2.upd H4 D (.lst (acc ++ [y]))) else Nx H3) := by
  have e : (List.range n).map (fun k => f (xs.getD k .non)) = xs.map f := by
    refine List.ext_getElem? fun k => ?_
    rw [List.getElem?_map, List.getElem?_map]
    by_cases hk : k < n
    · rw [List.getElem?_range hk, List.getElem?_eq_getElem (by omega)]
      simp [List.getD_eq_getElem?_getD, List.getElem?_eq_getElem (show k < xs.length by omega)]
    · rw [List.getElem?_eq_none (by simpa using hk), List.getElem?_eq_none (by omega)]
      rfl
  refine lc_pure w hD hn (fun k => f (xs.getD k .non)) hG (fun k x H H' hk s1 y => ?_) (fun x σ0 H0 Q0 Q1 h q => h _ _ q) (fun H' s h => hq H' s (by rw [← e]; exact h))
  obtain ⟨rfl, hx2⟩ := hY _ _ _ _ hk y
  refine ⟨Same.refl _, ?_, fun Q2 h2 => hs x H' (List.mem_of_getElem? hx2) s1 Q2 fun H3 s3 => ?_⟩
  · show ((σ.set i none).set i (some x)).set i none = σ.set i none
    rw [List.set_set, List.set_set]
  · have e2 : xs.getD k .non = x := by rw [List.getD_eq_getElem?_getD, hx2]; rfl
    have := h2 H3 s3
    rw [e2] at this
    exact this
/-- the same, drawing from a bag -/
theorem lc_draw {J : It} {n k N : Nat} {G : Hp → Prop} {Y : Nat → Hp → V → Hp → Prop} (w : Walk J n G Y) {te : TE} {i : Nat} {σ : L2.St} {H1 : Hp} {D b c : Addr} {Qd : Hp → Prop} (Φ : Hp → V → Prop) (mono : ∀ G G' v, Same G G' → Φ G v → Φ G' v) (hD : H1 D = none) (hB : Bag (N + n * k) H1 b c) (hn : n ≤ 1000000)
    (hY : ∀ k H x H', Y k H x H' → H' = H) (hG : ∀ H, Kp b H1 H → G H)
    (hs : ∀ x H M, Kp b H1 H → Bag (M + k) H b c → ∀ Q2 : V → Hp → Prop, (∀ v H3, Bag M H3 b c → Kp b H H3 → Φ (nw H H3) v → Q2 v H3) → te ((wipe σ [i]).set i (some x)) H Q2)
    (hq : ∀ H' ys, Bag N H' b c → Kp b H1 H' → H' D = some (.lst ys) → ys.length = n → (∀ v ∈ ys, Φ (nw (L2.upd H1 D (.lst [])) H') v) → Qd H') :
    ∃ W : Nat → Nat → Hp → Prop, (∃ m, W 0 m (L2.upd H1 D (.lst []))) ∧ ∀ i' m H, W i' m H →
      (J.stop i' H ∧ Qd H) ∨ (J.go i' H ∧ ∃ Nx : Hp → Prop, (∀ H', Nx H' → ∃ m', m' < m ∧ W (i' + 1) m' H') ∧ ∀ x H', J.yld i' H x H' → gName i x (wipe σ [i]) H' fun σ2 H2 => wipe σ2 [i] = wipe σ [i] ∧ tYes σ2 H2 fun b H3 =>
        if b = true then te σ2 H3 fun y H4 => ∃ acc, H4 D = some (.lst acc) ∧ acc.length < sizeLine ∧ Nx (L2.upd H4 D (.lst (acc ++ [y]))) else Nx H3) := by
  refine lc_bag w hD hB hn Φ mono hG (fun j x H H' M hk s1 B1 y => ?_) (fun x σ0 H0 Q0 Q1 h q => h _ _ q) hq
  have e := hY _ _ _ _ y
  subst e
  refine ⟨Same.refl _, ?_, fun Q2 h2 => hs x H' M s1 B1 Q2 h2⟩
  show ((σ.set i none).set i (some x)).set i none = σ.set i none
  rw [List.set_set, List.set_set]
def signsV (z : Str) : List V := z.cps.toList.map fun c => V.str ⟨#[c]⟩
theorem signsV_at {z : Str} : ∀ (k : Nat) (H : Hp) (x : V) (H' : Hp), (H' = H ∧ ∃ c, z.cps[k]? = some c ∧ x = V.str ⟨#[c]⟩) → H' = H ∧ (signsV z)[k]? = some x := by
  rintro k H x H' ⟨rfl, c, h, rfl⟩
  refine ⟨rfl, ?_⟩
  unfold signsV
  rw [List.getElem?_map, Array.getElem?_toList, h]
  rfl
theorem signsV_length (z : Str) : (signsV z).length = z.cps.size := by simp [signsV]
theorem all_map_id {α : Type} (p : α → Bool) (l : List α) : (l.map p).all id = l.all p := by
  rw [List.all_map]; rfl
end LK
namespace LK
open PySem PySem.Spec PyProof.Rows L2
/-- [p(c) for c in z], z a text -/
theorem lc_signs {z : Str} {te : TE} {i : Nat} {σ : L2.St} {H1 : Hp} {D : Addr} {Qd : Hp → Prop} (p : Nat → Bool) (hD : H1 D = none) (hz : z.length ≤ 1000000)
    (hs : ∀ c H, c ∈ z.cps.toList → Same H1 H → ∀ Q2 : V → Hp → Prop, (∀ H3, Same H H3 → Q2 (.bl (p c)) H3) → te ((wipe σ [i]).set i (some (.str ⟨#[c]⟩))) H Q2)
    (hq : ∀ H', Same H1 H' → H' D = some (.lst ((z.cps.toList.map p).map V.bl)) → Qd H') :
    ∃ W : Nat → Nat → Hp → Prop, (∃ m, W 0 m (L2.upd H1 D (.lst []))) ∧ ∀ i' m H, W i' m H →
      ((Its z).stop i' H ∧ Qd H) ∨ ((Its z).go i' H ∧ ∃ Nx : Hp → Prop, (∀ H', Nx H' → ∃ m', m' < m ∧ W (i' + 1) m' H') ∧ ∀ x H', (Its z).yld i' H x H' → gName i x (wipe σ [i]) H' fun σ2 H2 => wipe σ2 [i] = wipe σ [i] ∧ tYes σ2 H2 fun b H3 =>
        if b = true then te σ2 H3 fun y H4 => ∃ acc, H4 D = some (.lst acc) ∧ acc.length < sizeLine ∧ Nx (L2.upd H4 D (.lst (acc ++ [y]))) else Nx H3) := by
  refine lc_map walk_str (signsV z) (fun v => match v with | .str y => .bl (p (y.cps.toList.headD 0)) | _ => .non) hD hz (signsV_length z) (fun k H x H' _ y => signsV_at k H x H' y) (fun _ _ => trivial) (fun x H hx s1 Q2 h2 => ?_) (fun H' s h => hq H' s ?_)
  · obtain ⟨c, hc, rfl⟩ := List.mem_map.mp hx
    exact hs c H hc s1 Q2 h2
  · rw [h]
    unfold signsV
    rw [List.map_map, List.map_map]
    rfl
theorem starts_minus {z : Str} (h : Txt.startswith z "-" = true) : ∃ r, z.cps.toList = 45 :: r := by
  have h2 : PySem.StrLaws.At z "-" z.length 0 := by
    unfold Txt.startswith at h
    rw [Bool.and_eq_true] at h
    exact ⟨of_decide_eq_true h.1, h.2⟩
  have e : TL.tl "-" = [45] := by decide +kernel
  have q := (TL.at_iff (by rw [e]; simp) 0).mp h2
  rw [e, List.drop_zero] at q
  unfold TL.pre at q
  have q2 : z.cps.toList.take 1 = [45] := eq_of_beq q
  cases hz : z.cps.toList with
  | nil => rw [hz] at q2; simp at q2
  | cons c r => rw [hz] at q2; simp at q2; rw [q2]; exact ⟨r, rfl⟩
theorem cutS_tail (z : Str) : (cutS z (some 1) none).cps.toList = z.cps.toList.drop 1 := by
  unfold cutS
  have e1 := HT.sIx_nat z.length 0 1
  have l : z.length = z.cps.toList.length := by rw [Array.length_toList]; rfl
  show ((z.cps.toList.drop (HT.sIx z.length 0 (some ((1 : Nat) : Int)))).take (HT.sIx z.length z.length none - HT.sIx z.length 0 (some ((1 : Nat) : Int)))) = _
  rw [e1, HT.sIx_none]
  by_cases c : 1 ≤ z.length
  · rw [Nat.min_eq_left c, List.take_of_length_le (by rw [List.length_drop]; omega)]
  · rw [List.drop_eq_nil_of_le (by omega), List.drop_eq_nil_of_le (by omega)]
    simp
theorem len_cps (z : Str) : z.cps.toList.length = z.length := by rw [Array.length_toList]; rfl
end LK
namespace LK
theorem iteTT {c A B : Prop} [Decidable c] (hc : c) (h : A) : if c then A else B := by rw [if_pos hc]; exact h
theorem iteFF {c A B : Prop} [Decidable c] (hc : ¬ c) (h : B) : if c then A else B := by rw [if_neg hc]; exact h
end LK
namespace LK
open PySem PySem.Spec PyProof.Rows L2
theorem str_append (a b : Str) : (a ++ b).cps.toList = a.cps.toList ++ b.cps.toList := by
  show (a.cps ++ b.cps).toList = _
  exact Array.toList_append
theorem str_append_len (a b : Str) : (a ++ b).length = a.length + b.length := by
  rw [← len_cps, str_append, List.length_append, len_cps, len_cps]
theorem cutS_tail_len (z : Str) : (cutS z (some 1) none).length = z.length - 1 := by
  rw [← len_cps, cutS_tail, List.length_drop, len_cps]
theorem cutS_len (z : Str) (lo hi : Option Int) : (cutS z lo hi).length ≤ z.length := by
  rw [← len_cps, ← len_cps z]
  unfold cutS
  show (List.take _ (List.drop _ _)).length ≤ _
  rw [List.length_take, List.length_drop]
  omega
end LK
namespace LK
open PySem PySem.Spec PyProof.Rows L2
/-- [f(k) for k in range(n)] -/
theorem lc_rng {lo : Int} {n : Nat} {te : TE} {i : Nat} {σ : L2.St} {H1 : Hp} {D : Addr} {Qd : Hp → Prop} (f : Int → V) (hD : H1 D = none) (hn : n ≤ 1000000)
    (hs : ∀ (k : Nat) H, k < n → Same H1 H → ∀ Q2 : V → Hp → Prop, (∀ H3, Same H H3 → Q2 (f (lo + (k : Int))) H3) → te ((wipe σ [i]).set i (some (.int (lo + (k : Int))))) H Q2)
    (hq : ∀ H', Same H1 H' → H' D = some (.lst ((List.range n).map fun (k : Nat) => f (lo + (k : Int)))) → Qd H') :
    ∃ W : Nat → Nat → Hp → Prop, (∃ m, W 0 m (L2.upd H1 D (.lst []))) ∧ ∀ i' m H, W i' m H →
      ((Itr lo n).stop i' H ∧ Qd H) ∨ ((Itr lo n).go i' H ∧ ∃ Nx : Hp → Prop, (∀ H', Nx H' → ∃ m', m' < m ∧ W (i' + 1) m' H') ∧ ∀ x H', (Itr lo n).yld i' H x H' → gName i x (wipe σ [i]) H' fun σ2 H2 => wipe σ2 [i] = wipe σ [i] ∧ tYes σ2 H2 fun b H3 =>
        if b = true then te σ2 H3 fun y H4 => ∃ acc, H4 D = some (.lst acc) ∧ acc.length < sizeLine ∧ Nx (L2.upd H4 D (.lst (acc ++ [y]))) else Nx H3) := by
  refine lc_map walk_range ((List.range n).map fun (k : Nat) => V.int (lo + (k : Int))) (fun v => match v with | .int j => f j | _ => .non) hD hn (by rw [List.length_map, List.length_range]) (fun k H x H' hk y => ?_) (fun _ _ => trivial) (fun x H hx s1 Q2 h2 => ?_) (fun H' s h => hq H' s ?_)
  · refine ⟨y.1, ?_⟩
    rw [List.getElem?_map, List.getElem?_range hk, y.2]
    rfl
  · obtain ⟨k, hk, rfl⟩ := List.mem_map.mp hx
    exact hs k H (List.mem_range.mp hk) s1 Q2 h2
  · rw [h, List.map_map]
    rfl
end LK
namespace LK
open PySem PySem.Spec PyProof.Rows L2
section
variable {X : Cx} {K : PySem.W.Frag}
theorem call_isiDK (hK : X.K = K) : CallR X (.builtin "isinstance") (fun xs H Q => ∃ x T d, xs = [x, .ty T] ∧ Dp K H x d ∧ T ∈ ["str", "int", "bool", "list", "tuple"] ∧ Q (.bl (isTy T d)) H) := by
  subst hK
  exact call_isiD
end
end LK
namespace LK
open PySem PySem.Spec PyProof.Rows L2
section
variable {X : Cx}
/-- tuple(x) of a list: a new tuple -/
theorem call_tupleN : CallR X (.type "tuple") (fun xs H Q => ∃ p ys, xs = [.ref p] ∧ SqL X.K H p ys ∧ ∀ q H', Same H H' → H q = none → H' q = some (.tup ys) → Q (.ref q) H') := cr_imp call_tuple_of fun xs H Q h => by
  obtain ⟨p, ys, rfl, h, q⟩ := h
  exact ⟨p, ys, rfl, .inl ⟨h, fun l hl => q l _ (same_upd hl) hl upd_same⟩⟩
end
theorem strs_of {m : Nat} : ∀ {l : List V}, (∀ v ∈ l, ∃ z, v = V.str z ∧ z.length ≤ m) → ∃ zs : List Str, l = zs.map V.str ∧ ∀ z ∈ zs, z.length ≤ m
  | [], _ => ⟨[], rfl, fun z h => absurd h (by simp)⟩
  | v :: l, h => by
    obtain ⟨z, rfl, hz⟩ := h v List.mem_cons_self
    obtain ⟨zs, rfl, hzs⟩ := strs_of (l := l) fun v hv => h v (List.mem_cons_of_mem _ hv)
    refine ⟨z :: zs, rfl, fun y hy => ?_⟩
    rcases List.mem_cons.mp hy with rfl | hy
    · exact hz
    · exact hzs y hy
theorem sum_le {m : Nat} : ∀ {zs : List Str}, (∀ z ∈ zs, z.length ≤ m) → (zs.map (·.length)).sum ≤ zs.length * m
  | [], _ => by simp
  | z :: zs, h => by
    rw [List.map_cons, List.sum_cons, List.length_cons, Nat.succ_mul]
    have h1 := h z List.mem_cons_self
    have h2 := sum_le (zs := zs) fun y hy => h y (List.mem_cons_of_mem _ hy)
    omega
end LK
namespace LK
open PySem PySem.Spec PyProof.Rows L2
theorem joinL_len (S : List Nat) : ∀ ps : List (List Nat), (TL.joinL S ps).length ≤ (ps.map List.length).sum + ps.length * S.length
  | [] => by simp [TL.joinL]
  | [p] => by simp [TL.joinL]
  | p :: q :: r => by
    have ih := joinL_len S (q :: r)
    show (p ++ (S ++ TL.joinL S (q :: r))).length ≤ _
    rw [List.length_append, List.length_append, List.map_cons, List.sum_cons, List.length_cons, Nat.succ_mul]
    omega
theorem join_len (y : Str) (zs : List Str) : (Txt.join y zs).length ≤ (zs.map (·.length)).sum + zs.length * y.length := by
  rw [TL.join_eq, ← len_cps]
  have e := TL.tl_join y zs
  show (TL.tl (Str.join y zs)).length ≤ _
  rw [e]
  refine Nat.le_trans (joinL_len _ _) ?_
  rw [List.map_map, List.length_map]
  have e1 : ((zs.map (List.length ∘ TL.tl))) = zs.map (·.length) := List.map_congr_left fun z _ => len_cps z
  rw [e1]
  show _ + zs.length * (y.cps.toList).length ≤ _
  rw [len_cps]
  exact Nat.le_refl _
/-- the list that lc_draw has made, as texts -/
theorem kp_new {N : Nat} {b c : Addr} {H H1 : Hp} (B : Bag N H b c) (s : Same H H1) : Kp b H H1 ∧ Bag N H1 b c := ⟨Kp.of s, B.same s⟩
theorem hb_new {N : Nat} {b c p : Addr} {H H1 : Hp} {o : HO} (B : Bag N H b c) (h0 : H p = none) (h1 : H1 p = some o) : hb H1 b p = some o := by
  have n : p ≠ b := fun e => by
    obtain ⟨xs, q⟩ := B.at
    rw [e, q] at h0; cases h0
  rw [hb_ne n]; exact h1
end LK
namespace LK
open PySem PySem.Spec PyProof.Rows L2
def isIntV : V → Bool
  | .int _ => true
  | _ => false
theorem ints_of {l : List V} (h : l.all isIntV = true) : ∀ y ∈ l, ∃ i, y = V.int i := fun y hy => by
  have q := List.all_eq_true.mp h y hy
  cases y <;> first | exact ⟨_, rfl⟩ | simp [isIntV] at q
end LK
namespace LK
open PySem PySem.Spec PyProof.Rows L2
theorem nx_op {t : TS} {D : Ends} {σ : L2.St} {H : Hp} (h : ∀ N : L2.St → Hp → Prop, (∀ σ' H', D.nx σ' H' → N σ' H') → t { D with nx := N } σ H) : t D σ H := h D.nx fun _ _ z => z
/-- a test that changes nothing and whose answer does not matter -/
theorem if_any {c : TT} {t u : TS} {D : Ends} {σ : L2.St} {H : Hp} (hc : ∀ K : Bool → Hp → Prop, (∀ b, K b H) → c σ H K) (hA : t D σ H) (hB : u D σ H) : tIfS c t u D σ H := hc _ fun b => by
  cases b
  · exact iteFF (by decide) hB
  · exact iteTT rfl hA
end LK
namespace LK
open PySem PySem.Spec PyProof.Rows L2
theorem if_anyS {c : TT} {t u : TS} {D : Ends} {σ : L2.St} {H : Hp} (hc : ∀ K : Bool → Hp → Prop, (∀ b H1, Same H H1 → K b H1) → c σ H K) (hA : ∀ H1, Same H H1 → t D σ H1) (hB : ∀ H1, Same H H1 → u D σ H1) : tIfS c t u D σ H := hc _ fun b H1 s => by
  cases b
  · exact iteFF (by decide) (hB H1 s)
  · exact iteTT rfl (hA H1 s)
end LK
namespace LK
open PySem PySem.Spec PyProof.Rows L2
theorem if_of {c : TT} {t u : TS} {D : Ends} {σ : L2.St} {H : Hp} (R : Bool → Prop) (hc : ∀ K : Bool → Hp → Prop, (∀ b H1, R b → Same H H1 → K b H1) → c σ H K) (hA : ∀ H1, R true → Same H H1 → t D σ H1) (hB : ∀ H1, R false → Same H H1 → u D σ H1) : tIfS c t u D σ H := hc _ fun b H1 r s => by
  cases b
  · exact iteFF (by decide) (hB H1 r s)
  · exact iteTT rfl (hA H1 r s)
end LK

set_option Elab.async false
set_option linter.all false
set_option maxRecDepth 100000
namespace PySem
open Sem (wp)
open AutoSeq1 (wpAny_loadPart')
/-! ### enumerate of a tuple -/
theorem meets_enumerate_newT (l : Addr) (items : Array Value) (n : Nat) (dct : Option Addr) (sl : Array (Option Value)) :
    Meets (Builtin.«enumerate.__new__» ⟨[.type "enumerate", .ref l], []⟩) (fun _ R s => s.heap.get? l = some { cls := .type "tuple", dict := dct, data := .seq items n, slots := sl } ∧
      R (.ok (.ret (.ref (s.heap.push { cls := .type "tuple_iterator", data := .fields #[.ref l, .int 0 0] }).objs.size)))
        { s with heap := (s.heap.push { cls := .type "tuple_iterator", data := .fields #[.ref l, .int 0 0] }).push { cls := .type "enumerate", data := .fields #[.none, .bool false, .ref s.heap.objs.size, rawInt 0, .none, .none] } }) :=
  .of_wp fun prog w A R s h => by
    obtain ⟨hp, g, d, tk, os⟩ := s; obtain ⟨hl, h⟩ := h
    have hsub := sub_enumerate
    have hL : Heap.IsTuple (Shared.heap ⟨hp, g, d, tk, os⟩) l items := ⟨_, hl, rfl, n, rfl⟩
    wp_walk using wpAny_loadPart' hl
    refine wpAny_stack_any fun st => wpAny_pure ?_
    split
    · rename_i c _ _ _ _ _
      cases (c == Value.type "enumerate")
      · wp_walk using wpAny_loadPart' hl, wpAny_pyIter_tuple hL
        exact ⟨_, rfl, h⟩
      · wp_walk using wpAny_loadPart' hl, wpAny_pyIter_tuple hL
        exact ⟨_, rfl, h⟩
    · wp_walk using wpAny_loadPart' hl, wpAny_pyIter_tuple hL
      exact ⟨_, rfl, h⟩
theorem call_enumerate_tuple {prog : Program} {w : World} {A : Around} {E : Value → Shared → Prop} {s : Shared} {l : Addr} {items : Array Value} {Q : Value → Shared → Prop} (hL : s.heap.IsTuple l items)
    (h : ∀ h', IsEnum h' (s.heap.objs.size + 1) s.heap.objs.size 0 .none → h'.IsTupleIter s.heap.objs.size l 0 → h'.objs.size = s.heap.objs.size + 2 →
      (∀ b o, s.heap.get? b = some o → h'.get? b = some o) → Q (.ref (s.heap.objs.size + 1)) { s with heap := h' }) :
    wpAny (model prog w) A (call (.type "enumerate") [.ref l]) Q E s := by
  obtain ⟨⟨c, dct, dt, sl⟩, hl, hc, n, hd⟩ := hL
  replace hc : c = .type "tuple" := hc
  replace hd : dt = .seq items n := hd
  subst hc hd
  refine callType_new F.called_enumerate (by decide) (F.typeCall_enumerate_1 _) (F.newCall_enumerate_1 _) (fun obj => F.args_object_init_2 obj _) F.entry_enumerate_new
    (meets_enumerate_newT l items n dct sl) ⟨hl, ?_⟩
  have hz : (s.heap.push { cls := .type "tuple_iterator", data := .fields #[.ref l, .int 0 0] }).objs.size = s.heap.objs.size + 1 := Heap.size_push ..
  show _ ∧ _
  rw [hz]
  have he : IsEnum ((s.heap.push { cls := .type "tuple_iterator", data := .fields #[.ref l, .int 0 0] }).push
      { cls := .type "enumerate", data := .fields #[.none, .bool false, .ref s.heap.objs.size, rawInt 0, .none, .none] }) (s.heap.objs.size + 1) s.heap.objs.size 0 .none := by
    have := Heap.get?_push_size (s.heap.push { cls := .type "tuple_iterator", data := .fields #[.ref l, .int 0 0] })
      (o := { cls := .type "enumerate", data := .fields #[.none, .bool false, .ref s.heap.objs.size, rawInt 0, .none, .none] }) rfl
    rw [hz] at this; exact this
  refine ⟨⟨_, he, rfl⟩, h _ he ⟨_, Heap.get?_push_of_some _ (Heap.get?_push_size _ rfl), rfl, rfl⟩ (by rw [Heap.size_push, hz]) fun b o x => Heap.get?_push_of_some _ (Heap.get?_push_of_some _ x)⟩
end PySem
namespace LK
open PySem PySem.Spec PyProof.Rows L2
def Itet (K : PySem.W.Frag) (a : Addr) : It :=
  ⟨fun i H => ∃ (xs : List V) (x : V), SqT K H a xs ∧ xs[i]? = some x, fun i H v H' => ∃ T x, v = .ref T ∧ H T = none ∧ H' = L2.upd H T (.tup [.int (i : Nat), x]) ∧ ∀ xs, SqT K H a xs → xs[i]? = some x, fun i H => ∃ xs : List V, SqT K H a xs ∧ xs.length ≤ i⟩
theorem turn_enumT {P : Program} {w : World} {K : PySem.W.Frag} {elts : List Expr} {kk : Nat} {tpos : Pos} (a e it : Addr) :
    Turn P w K (.Tuple elts kk tpos) (Itet K a) [e, it] e (fun i h => (∃ old, IsEnum h e it ((i : Nat) : Int) old) ∧ h.IsTupleIter it a i ∧ e ≠ it ∧ a ≠ it ∧ a ≠ e) where
  mem := by simp
  obj := fun i h st b hb => by
    obtain ⟨⟨old, he⟩, ⟨o, ho, hc, hd⟩, _⟩ := st
    have e' : b = e ∨ b = it := by simpa using hb
    rcases e' with z | z
    · rw [z]; exact ⟨_, he, fun v q => nomatch q⟩
    · rw [z]; exact ⟨o, ho, fun v q => by rw [hd] at q; cases q⟩
  keep := fun i h h' st k => let ⟨⟨old, he⟩, hi, hne⟩ := st; ⟨⟨old, k e (by simp) _ he⟩, hi.at fun o q => k it (by simp) o q, hne⟩
  item := by
    intro X hP hw hK hc i pins s σ H E I hf st hg
    subst hP hw hK
    obtain ⟨⟨old, he⟩, hit, hne, hai, hae⟩ := st
    obtain ⟨xs, x, hq, hx⟩ := hg
    obtain ⟨its, rv, p, hz⟩ := I.tuple hq
    obtain ⟨u, hu, ru⟩ := rv.get hx
    have hel : e < s.heap.objs.size := Heap.lt_size he
    have hil : it < s.heap.objs.size := by obtain ⟨_, q, _⟩ := hit; exact Heap.lt_size q
    have hil2 : i < its.toArray.size := by
      have := (List.getElem?_eq_some_iff.mp hu).1
      simpa using this
    refine wpAny_pyNext_enum_itemD (Draws.tuple (A := X.A.in1) (I.ok.hd hc) it a hai its.toArray) he ⟨hit, p⟩ hil2 hne (by simp [hne, hae.symm]) fun y h' tk hy ho hit' hT hsz hk => ?_
    have hy : its.toArray[i]? = some y := hy
    rw [show its.toArray[i]? = some u by simpa using hu] at hy
    cases hy
    obtain ⟨hit1, _⟩ := hit'
    refine ⟨_, rfl, wpAny_letOwnedTupleGo_enum (s := { s with heap := h', toks := tk + 1 }) ho fun h'' he' sb => ?_⟩
    have hT2 : h''.get? s.heap.objs.size = some { cls := .type "tuple", data := .seq #[.int i tk, u] } := (sb.2 _ (Nat.ne_of_gt hel)).trans hT
    have new : ObjOk X.prog X.w (L2.upd H s.heap.objs.size (.tup [.int (i : Nat), x])) h'' s.heap.objs.size (.tup [.int (i : Nat), x]) :=
      ⟨by show 2 ≤ sizeLine; decide, [.int i tk, u], .cons ⟨_, rfl⟩ (.cons ru .nil), ⟨_, hT2, rfl, _, rfl⟩⟩
    have I1 : Inv X pins σ (L2.upd H s.heap.objs.size (.tup [.int (i : Nat), x])) { s with heap := h'', toks := tk + 1 } :=
      I.turnedNew (ch := [e, it]) (fun b ob hb q => (sb.2 b (fun z => hb (by simp [z]))).trans (hk b ob (fun z => hb (by simp [z])) (fun z => hb (by simp [z])) q)) hf (Nat.le_refl _) new
    refine ⟨.ref s.heap.objs.size, _, I1, rfl, ⟨_, x, rfl, I.hok.fresh (Nat.le_refl _), rfl, fun ys hy => by rw [I.tuple_inj hy hq]; exact hx⟩, ⟨⟨u, ?_⟩, hit1.at fun o q => (sb.2 it (Ne.symm hne)).trans q, hne, hai, hae⟩, fun b hb => ?_⟩
    · have e1 : ((i + 1 : Nat) : Int) = (i : Int) + 1 := by omega
      rw [e1]; exact he'
    · have hb' : b < s.heap.objs.size := by
        have e' : b = e ∨ b = it := by simpa using hb
        rcases e' with z | z
        · rw [z]; exact hel
        · rw [z]; exact hil
      rw [upd_ne (Nat.ne_of_lt hb')]
      exact (hf b hb).1
  done := by
    intro X hP hw hK hc i pins s σ H E I hf st hg
    subst hP hw hK
    obtain ⟨⟨old, he⟩, hit, hne, hai, hae⟩ := st
    obtain ⟨xs, hq, hx⟩ := hg
    obtain ⟨its, rv, p, hz⟩ := I.tuple hq
    obtain ⟨f0, f1, f2, f3, f4, f5⟩ := hf it (by simp)
    have hl := rv.length
    have hn : its.toArray[i]? = none := by simp; omega
    have hT : s.TypeIs (.ref e) "enumerate" := ⟨_, he, rfl⟩
    unfold pyNext
    refine wpAny_bind (wpAny_attempt (wpAny_callSpecial?_slot (name := Str.ofString "__next__") hT PySem.F.slot_enumerate_next
      (wpAny_call_entry PySem.F.slot_enumerate_next hT PySem.F.entry_enumerate_next ?_ (PySem.F.args_enumerate_next_1 _))))
    show wpAny _ _ (field (.ref e) 2 >>= _) _ _ _
    refine wpAny_bind (wpAny_field he rfl (x := .ref it) rfl ?_)
    refine wpAny_bind (RZ.nextOf_tuple_end (I.ok.hd hc) hit p hn fun h' x eb hx' => ?_)
    obtain ⟨o, ho, hc'⟩ := hx'
    refine wpAny_bind (wpAny_isInstance (T := "StopIteration") (b := true) ⟨o, ho, hc'⟩ isSubtype_stop ?_)
    exact wpAny_pure ⟨rfl, I.turned (t' := s.toks) (fun b o hb q => eb b o hb q) f0 f1 f3 f4 f5⟩
  self := fun A i s Q E st h => let ⟨⟨_, he⟩, _⟩ := st; wpAny_pyIter_enum he h
def iEnumT (K : PySem.W.Frag) (ta : TA) : TI := fun σ H R => ta σ H fun vs H1 => ∃ a xs, vs = [.ref a] ∧ SqT K H1 a xs ∧ R (Itet K a) H1
theorem pi_enumT {X : Cx} {e : Expr} {ta : TA} {p pos tpos : Pos} {elts : List Expr} {kk : Nat} (hg : Gl X "enumerate") (hm : X.mg "enumerate" = none) (ha : PA X [e] ta) (hs : starEach [e] X.env = [(false, eval e X.env)] := by rfl) :
    PI X (.Tuple elts kk tpos) (.Call (.Name "enumerate" p) [e] [] pos) (iEnumT X.K ta) := by
  refine ⟨fun pins s σ H R I h => ?_⟩
  refine Call_ (ld_blt I hg hm boot_enumerate (PyProof.Rows.callWith_type1 (thn (ha.run pos pins s σ H _ I h) fun us s1 ⟨vs, H1, I1, r1, q1⟩ => ?_) hs rfl))
  obtain ⟨a, xs, ex, hq, q⟩ := q1
  subst ex
  cases r1 with
  | cons r rr =>
    cases rr
    cases r
    obtain ⟨its, rv, p', hz⟩ := I1.tuple hq
    have al : a < s1.heap.objs.size := by obtain ⟨_, q, _⟩ := id p'; exact Heap.lt_size q
    refine call_enumerate_tuple p' fun h' he hit hsz hk => wpAny_pyIter_enum he ?_
    have I2 : Inv X pins σ H1 { s1 with heap := h' } := I1.kept (t' := s1.toks) hk
    refine ⟨s1.heap.objs.size + 1, [s1.heap.objs.size + 1, s1.heap.objs.size], _, _, H1, rfl, I2, turn_enumT a (s1.heap.objs.size + 1) s1.heap.objs.size, ⟨⟨.none, he⟩, hit, Nat.succ_ne_self _, Nat.ne_of_lt al, Nat.ne_of_lt (Nat.lt_succ_of_lt al)⟩, fun b hb => ?_, q⟩
    have e' : b = s1.heap.objs.size + 1 ∨ b = s1.heap.objs.size := by simpa using hb
    have hle : s1.heap.objs.size ≤ b := by
      rcases e' with z | z
      · rw [z]; exact Nat.le_add_right _ _
      · rw [z]; exact Nat.le_refl _
    exact I1.fpOk hle (I1.hok.fresh hle)
/-- of a list or a tuple -/
def iEnumLT (K : PySem.W.Frag) (ta : TA) : TI := fun σ H R => iEnum K ta σ H R ∨ iEnumT K ta σ H R
theorem pi_enumLT {X : Cx} {e : Expr} {ta : TA} {p pos tpos : Pos} {elts : List Expr} {kk : Nat} (hg : Gl X "enumerate") (hm : X.mg "enumerate" = none) (ha : PA X [e] ta) (hs : starEach [e] X.env = [(false, eval e X.env)] := by rfl) :
    PI X (.Tuple elts kk tpos) (.Call (.Name "enumerate" p) [e] [] pos) (iEnumLT X.K ta) :=
  ⟨fun pins s σ H R I h => h.elim ((pi_enum hg hm ha hs).run pins s σ H R I) ((pi_enumT hg hm ha hs).run pins s σ H R I)⟩
theorem pi_enumK {X : Cx} {K : PySem.W.Frag} (hK : X.K = K) {e : Expr} {ta : TA} {p pos tpos : Pos} {elts : List Expr} {kk : Nat} (hg : Gl X "enumerate") (hm : X.mg "enumerate" = none) (ha : PA X [e] ta) (hs : starEach [e] X.env = [(false, eval e X.env)] := by rfl) :
    PI X (.Tuple elts kk tpos) (.Call (.Name "enumerate" p) [e] [] pos) (iEnum K ta) := by subst hK; exact pi_enum hg hm ha hs
theorem walk_enumT {K : PySem.W.Frag} {a : Addr} {xs : List V} : Walk (Itet K a) xs.length (fun H => SqT K H a xs) (YPair (fun i => some (.int (i : Nat))) (fun i => xs[i]?)) := by
  refine ⟨fun i _ hi q => ⟨xs, xs[i], q, by simp [hi]⟩, fun _ q => ⟨xs, q, Nat.le_refl _⟩, fun i H v H' _ q y => ?_⟩
  obtain ⟨T, x, h1, h2, h3, h4⟩ := y
  exact ⟨T, _, x, h1, h2, h3, rfl, h4 xs q⟩
end LK

set_option Elab.async false
set_option linter.all false
set_option maxRecDepth 100000
namespace LK
open PySem PySem.Spec PyProof.Rows L2
/-! ### zip of a tuple and a list: two sources of any kind -/
structure Src (p : Program) (w : World) (it l : Addr) (It : Nat → Heap → Prop) (Con : Array Value → Heap → Prop) : Prop where
  mvI : ∀ {i : Nat} {h g : Heap}, It i h → (∀ o, h.get? it = some o → g.get? it = some o) → It i g
  mvC : ∀ {xs : Array Value} {h g : Heap}, Con xs h → (∀ o, h.get? l = some o → g.get? l = some o) → Con xs g
  fld : ∀ {i : Nat} {h : Heap}, It i h → ∃ o fs, h.get? it = some o ∧ o.data = .fields fs
  more : ∀ {A : Around} {E : Value → Shared → Prop} {s : Shared} {i : Nat} {xs : Array Value} {x : Value} {Q : Value → Shared → Prop}, It i s.heap → Con xs s.heap → xs[i]? = some x →
    (∀ g, It (i + 1) g → Heap.SameBut it s.heap g → Q x { s with heap := g }) → wpAny (model p w) A (Builtin.SmallTypes.nextOf (.ref it)) Q E s
  over : ∀ {A : Around} {E : Value → Shared → Prop} {s : Shared} {i : Nat} {xs : Array Value} {Q : Value → Shared → Prop}, A.handled = none → It i s.heap → Con xs s.heap → xs[i]? = none →
    (∀ g e, Heap.ExtBut it s.heap g → (∃ o, g.get? e = some o ∧ o.cls = .type "StopIteration") → E (.ref e) { s with heap := g }) → wpAny (model p w) A (Builtin.SmallTypes.nextOf (.ref it)) Q E s
theorem src_tup (p : Program) (w : World) (it l : Addr) : Src p w it l (fun i h => h.IsTupleIter it l i) (fun xs h => h.IsTuple l xs) where
  mvI := fun a b => a.at b
  mvC := fun a b => a.at b
  fld := fun ⟨o, e, _, d⟩ => ⟨o, _, e, d⟩
  more := fun a b c k => RZ.nextOf_tuple_item a b c k
  over := fun a b c d k => RZ.nextOf_tuple_end a b c d k
theorem src_lst (p : Program) (w : World) (it l : Addr) : Src p w it l (fun i h => h.IsListIter it l i) (fun xs h => h.IsList l xs) where
  mvI := fun a b => a.at b
  mvC := fun a b => a.at b
  fld := fun ⟨o, e, _, d⟩ => ⟨o, _, e, d⟩
  more := fun a b c k => wpAny_nextOf_list_item a b c k
  over := fun a b c d k => wpAny_nextOf_list_end a b c d k
/-- all that a zip holds, at one point of time -/
structure ZS (z TI TO i1 i2 : Addr) (I1 I2 : Nat → Heap → Prop) (C1 C2 : Array Value → Heap → Prop) (xs ys : Array Value) (h : Heap) (f a b : Value) (k1 k2 : Nat) : Prop where
  oz : IsZip h z TI TO f
  ti : IsPair h TI (.ref i1) (.ref i2)
  tt : IsPair h TO a b
  j1 : I1 k1 h
  j2 : I2 k2 h
  c1 : C1 xs h
  c2 : C2 ys h
section
variable {prog : Program} {w : World} {A : Around} {E : Value → Shared → Prop} {s : Shared} {z TI TO i1 i2 l1 l2 : Addr} {I1 I2 : Nat → Heap → Prop} {C1 C2 : Array Value → Heap → Prop} {xs ys : Array Value} {f a b : Value} {k1 k2 : Nat} {h g : Heap}
theorem ZS.atZ (D : ZipApart z TI TO i1 i2 l1 l2) (S1 : Src prog w i1 l1 I1 C1) (S2 : Src prog w i2 l2 I2 C2) (q : ZS z TI TO i1 i2 I1 I2 C1 C2 xs ys h f a b k1 k2) (e : Heap.ExtBut z h g) {f' : Value} (n : IsZip g z TI TO f') : ZS z TI TO i1 i2 I1 I2 C1 C2 xs ys g f' a b k1 k2 :=
  ⟨n, e _ _ D.TIz q.ti, e _ _ D.TOz q.tt, S1.mvI q.j1 fun o => e _ o D.i1z, S2.mvI q.j2 fun o => e _ o D.i2z, S1.mvC q.c1 fun o => e _ o D.l1z, S2.mvC q.c2 fun o => e _ o D.l2z⟩
theorem ZS.atO (D : ZipApart z TI TO i1 i2 l1 l2) (S1 : Src prog w i1 l1 I1 C1) (S2 : Src prog w i2 l2 I2 C2) (q : ZS z TI TO i1 i2 I1 I2 C1 C2 xs ys h f a b k1 k2) (e : Heap.ExtBut TO h g) {a' b' : Value} (n : IsPair g TO a' b') : ZS z TI TO i1 i2 I1 I2 C1 C2 xs ys g f a' b' k1 k2 :=
  ⟨e _ _ D.TOz.symm q.oz, e _ _ D.TITO q.ti, n, S1.mvI q.j1 fun o => e _ o D.TOi1.symm, S2.mvI q.j2 fun o => e _ o D.TOi2.symm, S1.mvC q.c1 fun o => e _ o D.l1TO, S2.mvC q.c2 fun o => e _ o D.l2TO⟩
theorem ZS.at1 (D : ZipApart z TI TO i1 i2 l1 l2) (S1 : Src prog w i1 l1 I1 C1) (S2 : Src prog w i2 l2 I2 C2) (q : ZS z TI TO i1 i2 I1 I2 C1 C2 xs ys h f a b k1 k2) (e : Heap.ExtBut i1 h g) {k : Nat} (n : I1 k g) : ZS z TI TO i1 i2 I1 I2 C1 C2 xs ys g f a b k k2 :=
  ⟨e _ _ D.i1z.symm q.oz, e _ _ D.TIi1 q.ti, e _ _ D.TOi1 q.tt, n, S2.mvI q.j2 fun o => e _ o D.i12.symm, S1.mvC q.c1 fun o => e _ o D.l1i1, S2.mvC q.c2 fun o => e _ o D.l2i1⟩
theorem ZS.at2 (D : ZipApart z TI TO i1 i2 l1 l2) (S1 : Src prog w i1 l1 I1 C1) (S2 : Src prog w i2 l2 I2 C2) (q : ZS z TI TO i1 i2 I1 I2 C1 C2 xs ys h f a b k1 k2) (e : Heap.ExtBut i2 h g) {k : Nat} (n : I2 k g) : ZS z TI TO i1 i2 I1 I2 C1 C2 xs ys g f a b k1 k :=
  ⟨e _ _ D.i2z.symm q.oz, e _ _ D.TIi2 q.ti, e _ _ D.TOi2 q.tt, S1.mvI q.j1 fun o => e _ o D.i12, n, S1.mvC q.c1 fun o => e _ o D.l1i2, S2.mvC q.c2 fun o => e _ o D.l2i2⟩
/-- what lies beside the zip stays -/
def Stay (z TO i1 i2 : Addr) (h g : Heap) : Prop := ∀ c o, c ≠ z → c ≠ TO → c ≠ i1 → c ≠ i2 → h.get? c = some o → g.get? c = some o
theorem Stay.tr {h1 h2 h3 : Heap} (p : Stay z TO i1 i2 h1 h2) (q : Stay z TO i1 i2 h2 h3) : Stay z TO i1 i2 h1 h3 := fun c o n1 n2 n3 n4 e => q c o n1 n2 n3 n4 (p c o n1 n2 n3 n4 e)
theorem Stay.zz (e : Heap.ExtBut z h g) : Stay z TO i1 i2 h g := fun c o n1 _ _ _ => e c o n1
theorem Stay.o (e : Heap.ExtBut TO h g) : Stay z TO i1 i2 h g := fun c o _ n2 _ _ => e c o n2
theorem Stay.i (e : Heap.ExtBut i1 h g) : Stay z TO i1 i2 h g := fun c o _ _ n3 _ => e c o n3
theorem Stay.j (e : Heap.ExtBut i2 h g) : Stay z TO i1 i2 h g := fun c o _ _ _ n4 => e c o n4
theorem zm_item {x y : Value} {Q : Value → Shared → Prop} (D : ZipApart z TI TO i1 i2 l1 l2) (S1 : Src prog w i1 l1 I1 C1) (S2 : Src prog w i2 l2 I2 C2) (q0 : ZS z TI TO i1 i2 I1 I2 C1 C2 xs ys s.heap .none a b k1 k2) (hx : xs[k1]? = some x) (hy : ys[k2]? = some y)
    (k : ∀ g, ZS z TI TO i1 i2 I1 I2 C1 C2 xs ys g (rawInt s.heap.objs.size) x y (k1 + 1) (k2 + 1) → IsPair g s.heap.objs.size x y → g.objs.size = s.heap.objs.size + 1 → Stay z TO i1 i2 s.heap g → Q (.ref s.heap.objs.size) { s with heap := g }) :
    wpAny (model prog w) A (Builtin.«zip.__next__» ⟨[.ref z], []⟩) (fun r s' => ∃ v, r = .done (.ret v) ∧ Q v s') E s := by
  have oz := q0.oz
  show wpAny (model prog w) _ (field (.ref z) 2 >>= _) _ E _
  refine wpAny_bind (wpAny_field oz rfl (x := .bool false) rfl ?_)
  show wpAny (model prog w) _ (field (.ref z) 3 >>= _) _ E _
  refine wpAny_bind (wpAny_field oz rfl (x := .ref TI) rfl (wpAny_bind (wpAny_seqItems q0.ti rfl ?_)))
  show wpAny (model prog w) _ (Builtin.SmallTypes.ownedTupleIsFree (.ref z) >>= _) _ E _; unfold Builtin.SmallTypes.ownedTupleIsFree
  refine wpAny_bind (wpAny_bind (wpAny_field oz rfl (x := .none) rfl (wpAny_pure ?_)))
  simp only [if_true]
  refine wpAny_bind (wpAny_rule (wpAny_bind (wpAny_field oz rfl (x := .ref TO) rfl (wpAny_bind (wpAny_setField_rec oz (by simp) fun g1 z1 e1 => ?_)))))
  have q1 := q0.atZ D S1 S2 e1.extBut (f' := .ellipsis) z1
  have t1 : Stay z TO i1 i2 s.heap g1 := .zz e1.extBut
  simp only [List.forIn_cons, List.forIn_nil, List.zipIdx_cons, List.zipIdx_nil]
  refine wpAny_bind (wpAny_bind (wpAny_bind (wpAny_onRaise ?_)))
  show wpAny (model prog w) _ (Builtin.SmallTypes.nextOf (.ref i1) >>= _) _ _ _
  refine wpAny_bind (S1.more q1.j1 q1.c1 hx fun g2 n2 e2 => wpAny_pure ?_)
  have q2 := q1.at1 D S1 S2 e2.extBut n2
  have t2 := t1.tr (.i e2.extBut)
  refine wpAny_bind (wpAny_seqItems q2.tt rfl (wpAny_bind (wpAny_updateSeq_pair q2.tt fun g3 n3 e3 => ?_)))
  have q3 := q2.atO D S1 S2 e3.extBut (a' := x) (b' := b) n3
  have t3 := t2.tr (.o e3.extBut)
  refine wpAny_bind (wpAny_letGo (wpAny_pure (wpAny_bind (wpAny_bind (wpAny_onRaise ?_)))))
  show wpAny (model prog w) _ (Builtin.SmallTypes.nextOf (.ref i2) >>= _) _ _ _
  refine wpAny_bind (S2.more q3.j2 q3.c2 hy fun g4 n4 e4 => wpAny_pure ?_)
  have q4 := q3.at2 D S1 S2 e4.extBut n4
  have t4 := t3.tr (.j e4.extBut)
  refine wpAny_bind (wpAny_seqItems q4.tt rfl (wpAny_bind (wpAny_updateSeq_pair q4.tt fun g5 n5 e5 => ?_)))
  have q5 := q4.atO D S1 S2 e5.extBut (a' := x) (b' := y) n5
  have t5 := t4.tr (.o e5.extBut)
  have sz : g5.objs.size = s.heap.objs.size := by rw [e5.1, e4.1, e3.1, e2.1, e1.1]
  refine wpAny_bind (wpAny_letGo (wpAny_pure (wpAny_pure (wpAny_bind (wpAny_seqItems q5.tt rfl (wpAny_bind (wpAny_newTuple ?_)))))))
  show wpAny (model prog w) _ (Builtin.SmallTypes.ownedTupleHandOut (.ref z) (.ref g5.objs.size) >>= _) _ E _; unfold Builtin.SmallTypes.ownedTupleHandOut
  have pz : IsZip (g5.push { cls := .type "tuple", data := .seq #[x, y] }) z TI TO .ellipsis := Heap.get?_push_of_some _ q5.oz
  refine wpAny_bind (wpAny_bind (wpAny_setField_rec pz (by simp) fun g7 z7 e7 => ?_))
  have z7' : IsZip g7 z TI TO (rawInt g5.objs.size) := z7
  refine wpAny_setField_rec z7' (by simp) fun g8 z8 e8 => ?_
  have z8' : IsZip g8 z TI TO (rawInt g5.objs.size) := z8
  have e58 : Heap.ExtBut z g5 g8 := fun c o n e => e8.extBut _ _ n (e7.extBut _ _ n (Heap.get?_push_of_some _ e))
  have q8 := q5.atZ D S1 S2 e58 z8'
  have nz : g5.objs.size ≠ z := Nat.ne_of_gt (Heap.lt_size q5.oz)
  have p8 : IsPair g8 g5.objs.size x y := e8.extBut _ _ nz (e7.extBut _ _ nz (Heap.get?_push_size _ rfl))
  have s8 : g8.objs.size = g5.objs.size + 1 := by rw [e8.1, e7.1, Heap.size_push]
  refine wpAny_pure ⟨.ref g5.objs.size, rfl, ?_⟩
  rw [sz] at q8 p8 s8 ⊢
  exact k g8 q8 p8 s8 (t5.tr (.zz e58))
/-- the last turn: one of the two has no more -/
theorem zm_end {Q : Fin → Shared → Prop} (hh : A.handled = none) (D : ZipApart z TI TO i1 i2 l1 l2) (S1 : Src prog w i1 l1 I1 C1) (S2 : Src prog w i2 l2 I2 C2) (q0 : ZS z TI TO i1 i2 I1 I2 C1 C2 xs ys s.heap .none a b k1 k2) (he : xs[k1]? = none ∨ ys[k2]? = none)
    (k : ∀ g e, Stay z TO i1 i2 s.heap g → (∃ o, g.get? e = some o ∧ o.cls = .type "StopIteration") → E (.ref e) { s with heap := g }) : wpAny (model prog w) A (Builtin.«zip.__next__» ⟨[.ref z], []⟩) Q E s := by
  have oz := q0.oz
  show wpAny (model prog w) _ (field (.ref z) 2 >>= _) _ E _
  refine wpAny_bind (wpAny_field oz rfl (x := .bool false) rfl ?_)
  show wpAny (model prog w) _ (field (.ref z) 3 >>= _) _ E _
  refine wpAny_bind (wpAny_field oz rfl (x := .ref TI) rfl (wpAny_bind (wpAny_seqItems q0.ti rfl ?_)))
  show wpAny (model prog w) _ (Builtin.SmallTypes.ownedTupleIsFree (.ref z) >>= _) _ E _; unfold Builtin.SmallTypes.ownedTupleIsFree
  refine wpAny_bind (wpAny_bind (wpAny_field oz rfl (x := .none) rfl (wpAny_pure ?_)))
  simp only [if_true]
  refine wpAny_bind (wpAny_rule (wpAny_bind (wpAny_field oz rfl (x := .ref TO) rfl (wpAny_bind (wpAny_setField_rec oz (by simp) fun g1 z1 e1 => ?_)))))
  have q1 := q0.atZ D S1 S2 e1.extBut (f' := .ellipsis) z1
  have t1 : Stay z TO i1 i2 s.heap g1 := .zz e1.extBut
  have fin : ∀ {g2 : Heap} {e : Addr}, IsZip g2 z TI TO .ellipsis → Stay z TO i1 i2 s.heap g2 → (∃ o, g2.get? e = some o ∧ o.cls = .type "StopIteration") → ∀ g3, Heap.SameBut z g2 g3 → E (.ref e) { s with heap := g3 } := fun z2 t2 ⟨o, h1, h2⟩ g3 e3 =>
    k _ _ (t2.tr (.zz e3.extBut)) ⟨o, e3.extBut _ _ (fun n => by subst n; rw [z2] at h1; cases h1; simp at h2) h1, h2⟩
  simp only [List.forIn_cons, List.forIn_nil, List.zipIdx_cons, List.zipIdx_nil]
  refine wpAny_bind (wpAny_bind (wpAny_bind (wpAny_onRaise ?_)))
  show wpAny (model prog w) _ (Builtin.SmallTypes.nextOf (.ref i1) >>= _) _ _ _
  by_cases hx : xs[k1]? = none
  · refine wpAny_bind (S1.over hh q1.j1 q1.c1 hx fun g2 e e2 so => ?_)
    have z2 := e2 _ _ D.i1z.symm q1.oz
    exact wpAny_setField_rec z2 (by simp) fun g3 _ e3 => fin z2 (t1.tr (.i e2)) so g3 e3
  · obtain ⟨x, hx1⟩ := Option.ne_none_iff_exists'.mp hx
    have hy := he.resolve_left hx
    refine wpAny_bind (S1.more q1.j1 q1.c1 hx1 fun g2 n2 e2 => wpAny_pure ?_)
    have q2 := q1.at1 D S1 S2 e2.extBut n2
    refine wpAny_bind (wpAny_seqItems q2.tt rfl (wpAny_bind (wpAny_updateSeq_pair q2.tt fun g3 n3 e3 => ?_)))
    have q3 := q2.atO D S1 S2 e3.extBut (a' := x) (b' := b) n3
    refine wpAny_bind (wpAny_letGo (wpAny_pure (wpAny_bind (wpAny_bind (wpAny_onRaise ?_)))))
    show wpAny (model prog w) _ (Builtin.SmallTypes.nextOf (.ref i2) >>= _) _ _ _
    refine wpAny_bind (S2.over hh q3.j2 q3.c2 hy fun g4 e e4 so => ?_)
    have z4 := e4 _ _ D.i2z.symm q3.oz
    exact wpAny_setField_rec z4 (by simp) fun g5 _ e5 => fin z4 (((t1.tr (.i e2.extBut)).tr (.o e3.extBut)).tr (.j e4)) so g5 e5
theorem zm_next {x y : Value} {Q : Option Value → Shared → Prop} (D : ZipApart z TI TO i1 i2 l1 l2) (S1 : Src prog w i1 l1 I1 C1) (S2 : Src prog w i2 l2 I2 C2) (q0 : ZS z TI TO i1 i2 I1 I2 C1 C2 xs ys s.heap .none a b k1 k2) (hx : xs[k1]? = some x) (hy : ys[k2]? = some y)
    (k : ∀ g, ZS z TI TO i1 i2 I1 I2 C1 C2 xs ys g (rawInt s.heap.objs.size) x y (k1 + 1) (k2 + 1) → IsPair g s.heap.objs.size x y → g.objs.size = s.heap.objs.size + 1 → Stay z TO i1 i2 s.heap g → Q (some (.ref s.heap.objs.size)) { s with heap := g }) : wpAny (model prog w) A (pyNext (.ref z)) Q E s := by
  have ty : s.TypeIs (.ref z) "zip" := ⟨_, q0.oz, rfl⟩
  unfold pyNext
  exact wpAny_bind (wpAny_attempt (wpAny_callSpecial?_slot (name := Str.ofString "__next__") ty F.slot_zip_next (wpAny_call_entry F.slot_zip_next ty F.entry_zip_next (zm_item D S1 S2 q0 hx hy fun g p1 p2 p3 p4 => wpAny_pure (k g p1 p2 p3 p4)) (F.args_zip_next_1 _))))
theorem zm_stop {Q : Option Value → Shared → Prop} (hh : A.handled = none) (D : ZipApart z TI TO i1 i2 l1 l2) (S1 : Src prog w i1 l1 I1 C1) (S2 : Src prog w i2 l2 I2 C2) (q0 : ZS z TI TO i1 i2 I1 I2 C1 C2 xs ys s.heap .none a b k1 k2) (he : xs[k1]? = none ∨ ys[k2]? = none)
    (k : ∀ g, Stay z TO i1 i2 s.heap g → Q none { s with heap := g }) : wpAny (model prog w) A (pyNext (.ref z)) Q E s := by
  have ty : s.TypeIs (.ref z) "zip" := ⟨_, q0.oz, rfl⟩
  unfold pyNext
  refine wpAny_bind (wpAny_attempt (wpAny_callSpecial?_slot (name := Str.ofString "__next__") ty F.slot_zip_next (wpAny_call_entry F.slot_zip_next ty F.entry_zip_next (zm_end hh D S1 S2 q0 he fun g e st so => ?_) (F.args_zip_next_1 _))))
  obtain ⟨o, h1, h2⟩ := so
  exact wpAny_bind (wpAny_isInstance (T := "StopIteration") (b := true) ⟨o, h1, h2⟩ isSubtype_stop (wpAny_pure (k _ st)))
end
/-- the five new objects of zip(tuple, list) -/
def zp1 (h : Heap) (l1 : Addr) : Heap := h.push { cls := .type "tuple_iterator", data := .fields #[.ref l1, .int 0 0] }
def zp2 (h : Heap) (l1 l2 : Addr) : Heap := (zp1 h l1).push { cls := .type "list_iterator", data := .fields #[.ref l2, .int 0 0] }
def zp3 (h : Heap) (l1 l2 : Addr) : Heap := (zp2 h l1 l2).push { cls := .type "tuple", data := .seq #[.ref h.objs.size, .ref (zp1 h l1).objs.size] }
def zp4 (h : Heap) (l1 l2 : Addr) : Heap := (zp3 h l1 l2).push { cls := .type "tuple", data := .seq #[.none, .none] }
def zp5 (h : Heap) (l1 l2 : Addr) : Heap := (zp4 h l1 l2).push { cls := .type "zip", data := .fields #[.none, .bool false, .bool false, .ref (zp2 h l1 l2).objs.size, .ref (zp3 h l1 l2).objs.size] }
theorem zp_new (l1 l2 : Addr) (xs ys : Array Value) : Meets (Builtin.«zip.__new__» ⟨[.type "zip", .ref l1, .ref l2], []⟩) fun _ R s => s.heap.IsTuple l1 xs ∧ s.heap.IsList l2 ys ∧ R (.ok (.ret (.ref (zp4 s.heap l1 l2).objs.size))) { s with heap := zp5 s.heap l1 l2 } :=
  .of_wp fun pr wd ar R s h => by
    obtain ⟨hp, gl, dd, tk, os⟩ := s
    obtain ⟨h1, h2, h⟩ := h
    have hsub := sub_zip
    have t1 : Heap.IsTuple (Shared.heap ⟨hp, gl, dd, tk, os⟩) l1 xs := h1
    have t2 : Heap.IsList (Shared.heap ⟨hp.push { cls := .type "tuple_iterator", data := .fields #[.ref l1, .int 0 0] }, gl, dd, tk, os⟩) l2 ys := Heap.IsList.push h2 _
    wp_walk using wpAny_pyIter_tuple t1, wpAny_pyIter_list t2
    exact ⟨_, rfl, h⟩
section
variable {prog : Program} {w : World} {s : Shared} {A : Around} {E : Value → Shared → Prop}
theorem call_zipM {l1 l2 : Addr} {xs ys : Array Value} {Q : Value → Shared → Prop} (h1 : s.heap.IsTuple l1 xs) (h2 : s.heap.IsList l2 ys)
    (k : ∀ g, IsZip g (s.heap.objs.size + 4) (s.heap.objs.size + 2) (s.heap.objs.size + 3) .none → IsPair g (s.heap.objs.size + 2) (.ref s.heap.objs.size) (.ref (s.heap.objs.size + 1)) → IsPair g (s.heap.objs.size + 3) .none .none →
      g.IsTupleIter s.heap.objs.size l1 0 → g.IsListIter (s.heap.objs.size + 1) l2 0 → (∀ c o, s.heap.get? c = some o → g.get? c = some o) → Q (.ref (s.heap.objs.size + 4)) { s with heap := g }) : wpAny (model prog w) A (call (.type "zip") [.ref l1, .ref l2]) Q E s := by
  refine callType_new F.called_zip (by decide) (F.typeCall_zip_2 _ _) (F.newCall_zip_2 _ _) (fun obj => F.args_object_init_3 obj _ _) F.entry_zip_new (zp_new l1 l2 xs ys) ⟨h1, h2, ?_⟩
  have n1 : (zp1 s.heap l1).objs.size = s.heap.objs.size + 1 := Heap.size_push _ _
  have n2 : (zp2 s.heap l1 l2).objs.size = s.heap.objs.size + 2 := (Heap.size_push _ _).trans (by rw [n1])
  have n3 : (zp3 s.heap l1 l2).objs.size = s.heap.objs.size + 3 := (Heap.size_push _ _).trans (by rw [n2])
  have n4 : (zp4 s.heap l1 l2).objs.size = s.heap.objs.size + 4 := (Heap.size_push _ _).trans (by rw [n3])
  have m5 : IsZip (zp5 s.heap l1 l2) (zp4 s.heap l1 l2).objs.size (zp2 s.heap l1 l2).objs.size (zp3 s.heap l1 l2).objs.size .none := Heap.get?_push_size _ rfl
  have m4 : IsPair (zp5 s.heap l1 l2) (zp3 s.heap l1 l2).objs.size .none .none := Heap.get?_push_of_some _ (Heap.get?_push_size _ rfl)
  have m3 : IsPair (zp5 s.heap l1 l2) (zp2 s.heap l1 l2).objs.size (.ref s.heap.objs.size) (.ref (zp1 s.heap l1).objs.size) := Heap.get?_push_of_some _ (Heap.get?_push_of_some _ (Heap.get?_push_size _ rfl))
  have m2 : (zp5 s.heap l1 l2).IsListIter (zp1 s.heap l1).objs.size l2 0 := ⟨_, Heap.get?_push_of_some _ (Heap.get?_push_of_some _ (Heap.get?_push_of_some _ (Heap.get?_push_size _ rfl))), rfl, rfl⟩
  have m1 : (zp5 s.heap l1 l2).IsTupleIter s.heap.objs.size l1 0 := ⟨_, Heap.get?_push_of_some _ (Heap.get?_push_of_some _ (Heap.get?_push_of_some _ (Heap.get?_push_of_some _ (Heap.get?_push_size _ rfl)))), rfl, rfl⟩
  have m0 : ∀ c o, s.heap.get? c = some o → (zp5 s.heap l1 l2).get? c = some o := fun c o e => Heap.get?_push_of_some _ (Heap.get?_push_of_some _ (Heap.get?_push_of_some _ (Heap.get?_push_of_some _ (Heap.get?_push_of_some _ e))))
  rw [n2, n3, n4] at m5
  rw [n3] at m4
  rw [n2, n1] at m3
  rw [n1] at m2
  show _ ∧ _
  rw [n4]
  exact ⟨⟨_, m5, rfl⟩, k _ m5 m3 m4 m1 m2 m0⟩
end
def ItzM (K : PySem.W.Frag) (a b : Addr) : It where
  go := fun i H => ∃ (xs ys : List V) (x y : V), SqT K H a xs ∧ SqL K H b ys ∧ xs[i]? = some x ∧ ys[i]? = some y
  yld := fun i H v H' => ∃ T x y, v = .ref T ∧ H T = none ∧ H' = L2.upd H T (.tup [x, y]) ∧ (∀ xs, SqT K H a xs → xs[i]? = some x) ∧ ∀ ys, SqL K H b ys → ys[i]? = some y
  stop := fun i H => ∃ xs ys : List V, SqT K H a xs ∧ SqL K H b ys ∧ (xs.length ≤ i ∨ ys.length ≤ i)
def tnM (z TI TO i1 i2 a b : Addr) (i : Nat) (h : Heap) : Prop := ∃ x y, IsZip h z TI TO .none ∧ IsPair h TI (.ref i1) (.ref i2) ∧ IsPair h TO x y ∧ h.IsTupleIter i1 a i ∧ h.IsListIter i2 b i
theorem turn_zipM {P : Program} {w : World} {K : PySem.W.Frag} {elts : List Expr} {kk : Nat} {tpos : Pos} {a b z TI TO i1 i2 : Addr} (D : ZipApart z TI TO i1 i2 a b) : Turn P w K (.Tuple elts kk tpos) (ItzM K a b) [z, TI, TO, i1, i2] z (tnM z TI TO i1 i2 a b) where
  mem := List.mem_cons_self
  obj := fun i h ⟨x, y, h1, h2, h3, h4, h5⟩ c hc => by
    obtain ⟨o4, f4, e4, d4⟩ := (src_tup P w i1 a).fld h4
    obtain ⟨o5, f5, e5, d5⟩ := (src_lst P w i2 b).fld h5
    simp only [List.mem_cons, List.not_mem_nil, or_false] at hc
    rcases hc with rfl | rfl | rfl | rfl | rfl
    · exact ⟨_, h1, fun v q => nomatch q⟩
    · exact ⟨_, h2, fun v q => nomatch q⟩
    · exact ⟨_, h3, fun v q => nomatch q⟩
    · exact ⟨o4, e4, fun v q => by rw [d4] at q; cases q⟩
    · exact ⟨o5, e5, fun v q => by rw [d5] at q; cases q⟩
  keep := fun i h g ⟨x, y, h1, h2, h3, h4, h5⟩ k => ⟨x, y, k z (by simp) _ h1, k TI (by simp) _ h2, k TO (by simp) _ h3, (src_tup P w i1 a).mvI h4 fun o => k i1 (by simp) o, (src_lst P w i2 b).mvI h5 fun o => k i2 (by simp) o⟩
  item := by
    rintro X rfl rfl rfl hc i pins s σ H E I hf ⟨x0, y0, h1, h2, h3, h4, h5⟩ ⟨xs, ys, x, y, qx, qy, ex, ey⟩
    obtain ⟨its, rv, p, _⟩ := I.tuple qx
    obtain ⟨jts, rw', p', _⟩ := I.list qy
    obtain ⟨u, eu, ru⟩ := rv.get ex
    obtain ⟨v, ev, rvv⟩ := rw'.get ey
    refine zm_next D (src_tup X.prog X.w i1 a) (src_lst X.prog X.w i2 b) ⟨h1, h2, h3, h4, h5, (show s.heap.IsTuple a its.toArray from p), p'.isList⟩ (x := u) (y := v) (by simpa using eu) (by simpa using ev) fun g q pp sz st => ⟨_, rfl, wpAny_letOwnedTupleGo_zip (s := { s with heap := g }) q.oz fun g2 z2 e2 => ?_⟩
    have q2 := q.atZ D (src_tup X.prog X.w i1 a) (src_lst X.prog X.w i2 b) e2.extBut z2
    have nz : s.heap.objs.size ≠ z := Nat.ne_of_gt (Heap.lt_size h1)
    have pp2 : IsPair g2 s.heap.objs.size u v := e2.extBut _ _ nz pp
    have ok : ObjOk X.prog X.w (L2.upd H s.heap.objs.size (.tup [x, y])) g2 s.heap.objs.size (.tup [x, y]) := ⟨by show 2 ≤ sizeLine; decide, [u, v], .cons ru (.cons rvv .nil), ⟨_, pp2, rfl, _, rfl⟩⟩
    have st2 : Stay z TO i1 i2 s.heap g2 := st.tr (.zz e2.extBut)
    have I2 : Inv X pins σ (L2.upd H s.heap.objs.size (.tup [x, y])) { s with heap := g2 } := I.turnedNew (t' := s.toks) (ch := [z, TI, TO, i1, i2]) (fun c o hb e => st2 c o (fun n => hb (by simp [n])) (fun n => hb (by simp [n])) (fun n => hb (by simp [n])) (fun n => hb (by simp [n])) e) hf (Nat.le_refl _) ok
    refine ⟨.ref s.heap.objs.size, _, I2, rfl, ⟨_, x, y, rfl, I.hok.fresh (Nat.le_refl _), rfl, fun l hl => by rw [I.tuple_inj hl qx]; exact ex, fun l hl => by rw [I.list_inj hl qy]; exact ey⟩, ⟨u, v, q2.oz, q2.ti, q2.tt, q2.j1, q2.j2⟩, fun c hcm => ?_⟩
    have lt : c < s.heap.objs.size := by
      obtain ⟨o4, _, e4, _⟩ := (src_tup X.prog X.w i1 a).fld h4
      obtain ⟨o5, _, e5, _⟩ := (src_lst X.prog X.w i2 b).fld h5
      have m := hcm
      simp only [List.mem_cons, List.not_mem_nil, or_false] at m
      rcases m with rfl | rfl | rfl | rfl | rfl
      · exact Heap.lt_size h1
      · exact Heap.lt_size h2
      · exact Heap.lt_size h3
      · exact Heap.lt_size e4
      · exact Heap.lt_size e5
    rw [upd_ne (Nat.ne_of_lt lt)]
    exact (hf c hcm).1
  done := by
    rintro X rfl rfl rfl hc i pins s σ H E I hf ⟨x0, y0, h1, h2, h3, h4, h5⟩ ⟨xs, ys, qx, qy, he⟩
    obtain ⟨its, rv, p, _⟩ := I.tuple qx
    obtain ⟨jts, rw', p', _⟩ := I.list qy
    have l1 := rv.length
    have l2 := rw'.length
    refine zm_stop (I.ok.hd hc) D (src_tup X.prog X.w i1 a) (src_lst X.prog X.w i2 b) ⟨h1, h2, h3, h4, h5, (show s.heap.IsTuple a its.toArray from p), p'.isList⟩ (he.imp (fun l => by simp; omega) fun l => by simp; omega) fun g st => ⟨rfl, I.turnedL (t' := s.toks) (ch := [z, TI, TO, i1, i2]) (fun c o hb e => st c o (fun n => hb (by simp [n])) (fun n => hb (by simp [n])) (fun n => hb (by simp [n])) (fun n => hb (by simp [n])) e) hf⟩
  self := fun A i s Q E ⟨_, _, h1, _⟩ k => wpAny_pyIter_zip h1 k
def iZipM (K : PySem.W.Frag) (ta : TA) : TI := fun σ H R => ta σ H fun vs H1 => ∃ a b xs ys, vs = [.ref a, .ref b] ∧ SqT K H1 a xs ∧ SqL K H1 b ys ∧ R (ItzM K a b) H1
theorem pi_zipM {X : Cx} {e e2 : Expr} {ta : TA} {p pos tpos : Pos} {elts : List Expr} {kk : Nat} (hg : Gl X "zip") (hm : X.mg "zip" = none) (ha : PA X [e, e2] ta) (hs : starEach [e, e2] X.env = (false, eval e X.env) :: starEach [e2] X.env := by rfl) (hpl : (backTo pos (starEach [e2] X.env)).any (·.1) = false := by rfl) :
    PI X (.Tuple elts kk tpos) (.Call (.Name "zip" p) [e, e2] [] pos) (iZipM X.K ta) := by
  refine ⟨fun pins s σ H R I h => Call_ (ld_blt I hg hm PyProof.Rows.boot_zip (PyProof.Rows.callWith_type1 (thn (ha.run pos pins s σ H _ I h) fun us s1 ⟨vs, H1, I1, r1, a, b, xs, ys, ex, qx, qy, q⟩ => ?_) hs hpl))⟩
  subst ex
  obtain _ | ⟨r, r'⟩ := r1
  obtain _ | ⟨r2, r''⟩ := r'
  cases r''
  cases r
  cases r2
  obtain ⟨its, rv, p1, _⟩ := I1.tuple qx
  obtain ⟨jts, rw', p2, _⟩ := I1.list qy
  obtain ⟨o1, ho1, _⟩ := id p1
  refine call_zipM (show s1.heap.IsTuple a its.toArray from p1) p2.isList fun g z1 z2 z3 z4 z5 k => wpAny_pyIter_zip z1 ?_
  have I2 : Inv X pins σ H1 { s1 with heap := g } := I1.kept (t' := s1.toks) k
  refine ⟨s1.heap.objs.size + 4, [s1.heap.objs.size + 4, s1.heap.objs.size + 2, s1.heap.objs.size + 3, s1.heap.objs.size, s1.heap.objs.size + 1], _, _, H1, rfl, I2, turn_zipM (PySem.W.ktu_apart s1.heap.objs.size a b (Heap.lt_size ho1) p2.lt), ⟨_, _, z1, z2, z3, z4, z5⟩, fun c hc => ?_, q⟩
  have le : s1.heap.objs.size ≤ c := by
    simp only [List.mem_cons, List.not_mem_nil, or_false] at hc
    rcases hc with rfl | rfl | rfl | rfl | rfl
    · exact Nat.le_add_right _ _
    · exact Nat.le_add_right _ _
    · exact Nat.le_add_right _ _
    · exact Nat.le_refl _
    · exact Nat.le_add_right _ _
  exact I1.fpOk le (I1.hok.fresh le)
theorem walk_zipM {K : PySem.W.Frag} {a b : Addr} {xs ys : List V} {n : Nat} (hx : xs.length = n) (hy : ys.length = n) : Walk (ItzM K a b) n (fun H => SqT K H a xs ∧ SqL K H b ys) (YPair (fun i => xs[i]?) fun i => ys[i]?) where
  goes := fun i _ hi q => ⟨xs, ys, xs[i]'(by omega), ys[i]'(by omega), q.1, q.2, List.getElem?_eq_getElem _, List.getElem?_eq_getElem _⟩
  stops := fun _ q => ⟨xs, ys, q.1, q.2, .inl (by omega)⟩
  yields := fun i H v H' _ q ⟨T, x, y, h1, h2, h3, h4, h5⟩ => ⟨T, x, y, h1, h2, h3, h4 xs q.1, h5 ys q.2⟩
end LK

set_option Elab.async false
set_option linter.all false
set_option maxRecDepth 100000
namespace LK
open PySem PySem.Spec PyProof.Rows L2
/-! ### rules with K in the place of X.K -/
section
variable {X : Cx} {K : PySem.W.Frag}
/-- of a list or a tuple -/
def rIxLT (K : PySem.W.Frag) : R2 := fun x y H Q => ∃ p xs i z, x = .ref p ∧ y = .int i ∧ (SqL K H p xs ∨ SqT K H p xs) ∧ atI xs i = some z ∧ Q z H
theorem ix_lt : IxR X (rIxLT X.K) := by
  intro value slice pins s σ H x y v u Q I rx ry h hs
  obtain ⟨p, xs, i, z, e1, e2, hq | hq, he, q⟩ := h
  · exact ix_list value slice pins s σ H x y v u Q I rx ry ⟨p, xs, i, z, e1, e2, hq, he, q⟩ hs
  · exact ix_tup value slice pins s σ H x y v u Q I rx ry ⟨p, xs, i, z, e1, e2, hq, he, q⟩ hs
theorem ix_ltK (hK : X.K = K) : IxR X (rIxLT K) := by subst hK; exact ix_lt
theorem ix_listK (hK : X.K = K) : IxR X (rIxL K) := by subst hK; exact ix_list
theorem ix_tupK (hK : X.K = K) : IxR X (rIxT K) := by subst hK; exact ix_tup
theorem sl_tupUK (hK : X.K = K) : SlR X (rSlU K) := by subst hK; exact sl_tupU
theorem sl_listUK (hK : X.K = K) : SlR X (rSlLU K) := by subst hK; exact sl_listU
theorem op_catUK (hK : X.K = K) : OpR X (binaryOp .Add) (rCatU K) := by subst hK; exact op_catU
theorem op_eqDK (hK : X.K = K) (hu : X.A.units + 64 < cLine) : OpR X (compareOp .Eq) (rEqD K) := by subst hK; exact op_eqD hu
theorem op_neDK (hK : X.K = K) (hu : X.A.units + 64 < cLine) : OpR X (compareOp .NotEq) (rNeD K) := by subst hK; exact op_neD hu
theorem call_tupleNK (hK : X.K = K) : CallR X (.type "tuple") (fun xs H Q => ∃ p ys, xs = [.ref p] ∧ SqL K H p ys ∧ ∀ q H', Same H H' → H q = none → H' q = some (.tup ys) → Q (.ref q) H') := by subst hK; exact call_tupleN
theorem call_tupleUK (hK : X.K = K) : CallR X (.type "tuple") (fun xs H Q => ∃ p ys, xs = [.ref p] ∧ (SqL K H p ys ∨ SqT K H p ys) ∧ ∀ q H', Same H H' → SqT K H' q ys → Q (.ref q) H') := by subst hK; exact call_tupleU
theorem call_listUK (hK : X.K = K) : CallR X (.type "list") (fun xs H Q => ∃ p ys, xs = [.ref p] ∧ (SqL K H p ys ∨ SqT K H p ys) ∧ ∀ l H2, Same H H2 → H l = none → H2 l = some (.lst ys) → Q (.ref l) H2) := by subst hK; exact call_listU
theorem call_len_seqK (hK : X.K = K) : CallR X (.builtin "len") (fun xs H Q => ∃ p ys, xs = [.ref p] ∧ (SqL K H p ys ∨ SqT K H p ys) ∧ Q (.int ys.length) H) := by subst hK; exact call_len_seq
theorem cr_sumK (hK : X.K = K) (hc : X.calm = true) : CallR X (.builtin "sum") (rSum K) := by subst hK; exact cr_sum hc
theorem cr_maxK (hK : X.K = K) (hc : X.calm = true) : CallR X (.builtin "max") (rMax K) := by subst hK; exact cr_max hc
theorem cr_allK (hK : X.K = K) (hc : X.calm = true) : CallR X (.builtin "all") (rAll K) := by subst hK; exact cr_all hc
theorem pi_listK (hK : X.K = K) {tg l : Expr} {tl : TE} (hl : PE X l tl) : PI X tg l (iList K tl) := by subst hK; exact pi_list hl
theorem pi_tupK (hK : X.K = K) {tg l : Expr} {tl : TE} (hl : PE X l tl) : PI X tg l (iTup K tl) := by subst hK; exact pi_tup hl
def iLT (K : PySem.W.Frag) (tl : TE) : TI := fun σ H R => iList K tl σ H R ∨ iTup K tl σ H R
theorem pi_lt {tg l : Expr} {tl : TE} (hl : PE X l tl) : PI X tg l (iLT X.K tl) :=
  ⟨fun pins s σ H R I h => h.elim ((pi_list hl).run pins s σ H R I) ((pi_tup hl).run pins s σ H R I)⟩
theorem pi_ltK (hK : X.K = K) {tg l : Expr} {tl : TE} (hl : PE X l tl) : PI X tg l (iLT K tl) := by subst hK; exact pi_lt hl
end
end LK

set_option Elab.async false
set_option linter.all false
set_option maxRecDepth 100000
namespace LK
open PySem PySem.Spec PyProof.Rows L2
/-! ### sorted(d) of a dict whose keys are tuples of whole numbers -/
theorem perm_lift {α β : Type} {f : α → β} {l m : List β} (h : l.Perm m) : ∀ {L : List α}, m = L.map f → ∃ L' : List α, l = L'.map f ∧ L'.Perm L := by
  induction h with
  | nil =>
    intro L e
    cases L with
    | nil => exact ⟨[], rfl, .nil⟩
    | cons _ _ => cases e
  | cons x _ ih =>
    intro L e
    cases L with
    | nil => cases e
    | cons a L =>
      injection e with e1 e2
      obtain ⟨L', h1, h2⟩ := ih e2
      exact ⟨a :: L', by rw [List.map_cons, ← e1, ← h1], .cons a h2⟩
  | swap x y l =>
    intro L e
    cases L with
    | nil => cases e
    | cons a L =>
      cases L with
      | nil => cases e
      | cons b L =>
        injection e with e1 e2
        injection e2 with e2 e3
        exact ⟨b :: a :: L, by rw [List.map_cons, List.map_cons, ← e1, ← e2, ← e3], .swap a b L⟩
  | trans _ _ ih1 ih2 =>
    intro L e
    obtain ⟨L1, h1, h2⟩ := ih2 e
    obtain ⟨L2, h3, h4⟩ := ih1 h1
    exact ⟨L2, h3, h4.trans h2⟩
section
variable {X : Cx}
theorem call_sortedDT (hcalm : X.calm = true) : CallR X (.builtin "sorted") (fun xs H Q => ∃ (a : Addr) (kvs : List (List L2.Key × V)) (ks : List (List Int)) (d : Nat) (B : Int), xs = [.ref a] ∧ Rd H a (.dT kvs) ∧ kvs.map (·.1) = ks.map (fun k => k.map Sum.inl) ∧ ks.length < 64 ∧ 1 ≤ d ∧ (∀ k ∈ ks, k.length = d ∧ TS.Bd B k) ∧
    ∀ (L' : List (Addr × List Int)) (p : Addr), (L'.map (·.2)).Perm ks → (∀ q ∈ L', H q.1 = some (.tup (q.2.map V.int))) → L'.Pairwise (fun q r => TS.code B q.2 ≤ TS.code B r.2) → H p = none → Q (.ref p) (upd H p (.lst (L'.map fun q => V.ref q.1)))) := by
  intro pins s σ H xs us Q I r q
  obtain ⟨a, kvs, ks, d, B, ex, hd, hks, h64, hd1, hB, q⟩ := q
  subst ex
  obtain ⟨u, eu, rx⟩ := vals1 r
  subst eu
  cases rx
  obtain ⟨z, hs, ts, pr, o, es, ep, ho, hx, hdt, he, hn⟩ := (show ObjOk X.prog X.w H s.heap a (.dT kvs) from hd.ok I.hok)
  have l1 : es.size = ts.length := size_of_entries he
  have l2 : kvs.length = ts.length := Paired.length pr
  have l3 : kvs.length = ks.length := by
    have e := congrArg List.length hks
    rw [List.length_map, List.length_map] at e
    exact e
  -- the keys with their addresses
  have keys : ∀ {kvs : List (List L2.Key × V)} {ts : List (List L2.Key × Addr × Value)} {ks : List (List Int)}, KT H kvs ts → kvs.map (·.1) = ks.map (fun k => k.map Sum.inl) →
      ∃ L : List (Addr × List Int), (ts.map fun x => x.2.1) = L.map (·.1) ∧ L.map (·.2) = ks ∧ ∀ q ∈ L, H q.1 = some (.tup (q.2.map V.int)) := by
    intro kvs ts ks pr
    induction pr generalizing ks with
    | nil =>
      intro e
      cases ks with
      | nil => exact ⟨[], rfl, rfl, fun q hq => nomatch hq⟩
      | cons _ _ => cases e
    | @cons p x ps xs hp _ ih =>
      intro e
      cases ks with
      | nil => cases e
      | cons k ks =>
        injection e with e1 e2
        obtain ⟨L, h1, h2, h3⟩ := ih e2
        refine ⟨(x.2.1, k) :: L, by rw [List.map_cons, List.map_cons, h1], by rw [List.map_cons, h2], fun q hq => ?_⟩
        rcases List.mem_cons.mp hq with rfl | hq
        · have := hp.2.1
          rw [show p.1 = k.map Sum.inl from e1, List.map_map] at this
          exact this
        · exact h3 q hq
  obtain ⟨L, hL1, hL2, hL3⟩ := keys pr hks
  have lL : L.length = ks.length := by rw [← hL2, List.length_map]
  have h16 : es.size ≤ sizeLine := by rw [l1, ← l2, l3, sizeLine_eq]; omega
  refine Calls.call_function_entry PyProof.Rows.kind_sorted PyProof.Rows.plain_sorted PyProof.Rows.entry_sorted (PyProof.Rows.args_sorted1 _) ?_
  unfold Builtin.«sorted»
  refine wpAny_bind (m := checkCount "sorted" 1 1 _) (wpAny_pure ?_)
  refine wpAny_bind (PySem.W.kdu_collect (A := X.A.in1) (kdl_raw hs hx hdt) (I.ok.hd hcalm) ho h16 fun h' tk acc hk it => ?_)
  have ea : acc.toList = L.map fun q => Value.ref q.1 := by
    have e0 : (L.map fun q => Value.ref q.1) = ts.map fun x => Value.ref x.2.1 := by
      have : (L.map fun q => Value.ref q.1) = (L.map (·.1)).map Value.ref := by rw [List.map_map]; rfl
      rw [this, ← hL1, List.map_map]; rfl
    rw [e0]
    have hl : acc.toList.length = ts.length := by rw [Array.length_toList, it.1]; exact l1
    apply List.ext_getElem?
    intro j
    rw [List.getElem?_map]
    cases hj : acc.toList[j]? with
    | none =>
      have h1 := List.getElem?_eq_none_iff.mp hj
      rw [List.getElem?_eq_none (by omega)]
      rfl
    | some v =>
      obtain ⟨en, hen, hv⟩ := it.2 j v (by rw [← Array.getElem?_toList]; exact hj)
      have qe := entry_at he j
      rw [hen] at qe
      cases hb : ts[j]? with
      | none =>
        rw [hb] at qe
        exact nomatch (show some en = none from qe)
      | some b =>
        rw [hb] at qe
        have e2 : en = entryOfKey (tupleKind (mixKind X.prog X.w)) b := Option.some.inj qe
        rw [hv, e2]
        rfl
  have hal : acc.toList.length = ks.length := by rw [ea, List.length_map, lL]
  have I1 : Inv X pins σ H { s with heap := h', toks := tk } := I.kept hk
  refine wpAny_bind (wpAny_newList ?_ (by rw [hal, sizeLine_eq]; omega))
  have hoL : (h'.push (seqObj "list" acc.toList.toArray 0)).get? h'.objs.size = some (seqObj "list" acc.toList.toArray 0) := Heap.get?_push_size _ rfl
  show wpAny _ _ _ _ _ { s with heap := h'.push (seqObj "list" acc.toList.toArray 0), toks := tk }
  have tk2 : ∀ q ∈ L, TS.TupInts (h'.push (seqObj "list" acc.toList.toArray 0)) (.ref q.1) q.2 := fun q hq => tupInts_of (P := X.prog) (w := X.w) (isT_keep (I.isT (.inl (.inl (hL3 q hq)))) fun b u e => Heap.get?_push_of_some _ (hk b u e))
  have x : TS.TupsOk (h'.push (seqObj "list" acc.toList.toArray 0)) d B acc.toList := fun v hv => by
    rw [ea] at hv
    obtain ⟨q, hq, e⟩ := List.mem_map.mp hv
    rw [← e]
    have := hB q.2 (by rw [← hL2]; exact List.mem_map_of_mem hq)
    exact ⟨q.2, tk2 q hq, this.1, this.2⟩
  refine wpAny_bind (wpAny_holding (TS.call_sort_tups (s := { s with heap := h'.push (seqObj "list" acc.toList.toArray 0), toks := tk }) hoL (by rw [hal]; exact h64) hd1 x fun out a1 a2 => ?_))
  obtain ⟨e', he'⟩ := PyProof.Rows.sortedHeap_at (vs := acc.toList) (out := out) hoL
  obtain ⟨L', hL', pm⟩ := perm_lift a1 ea
  have pw : L'.Pairwise (fun q r => TS.code B q.2 ≤ TS.code B r.2) := by
    rw [hL'] at a2
    refine List.Pairwise.imp_of_mem (fun {q r} hq hr hle => ?_) (List.pairwise_map.mp a2)
    have f1 : TS.intsOf (h'.push (seqObj "list" acc.toList.toArray 0)) (.ref q.1) = q.2 := (tk2 q (pm.mem_iff.mp hq)).ints
    have f2 : TS.intsOf (h'.push (seqObj "list" acc.toList.toArray 0)) (.ref r.1) = r.2 := (tk2 r (pm.mem_iff.mp hr)).ints
    rw [← f1, ← f2]
    exact hle
  have hlen : (L'.map fun q => V.ref q.1).length ≤ sizeLine := by
    rw [List.length_map, pm.length_eq, lL, sizeLine_eq]; omega
  refine wpAny_pure ⟨_, rfl, .ref h'.objs.size, upd H h'.objs.size (.lst (L'.map fun q => V.ref q.1)), I1.laid (t' := tk) (fun b u e => ?_) (Nat.le_refl _)
    (show ObjOk X.prog X.w _ _ _ (.lst (L'.map fun q => V.ref q.1)) from ⟨hlen, out.toList, e', by rw [hL']; exact vals_of_refs L', by rw [Array.toArray_toList]; exact he'⟩), rfl, q L' _ (by rw [← hL2]; exact pm.map _) (fun q hq => hL3 q (pm.mem_iff.mp hq)) pw (I1.hok.fresh (Nat.le_refl _))⟩
  have hb : b < h'.objs.size := Heap.lt_size e
  rw [PyProof.Rows.sortedHeap_old (Nat.ne_of_lt hb) (by rw [size_push']; exact Nat.lt_succ_of_lt hb)]
  exact Heap.get?_push_of_some _ e
end
end LK

set_option Elab.async false
set_option linter.all false
set_option maxRecDepth 100000
namespace LK
open PySem PySem.Spec PyProof.Rows L2
/-! ### set(xs) of a long list of tuples, of which few are distinct -/
theorem pigeon {α : Type} [DecidableEq α] : ∀ {l S : List α}, l.Nodup → (∀ x ∈ l, x ∈ S) → l.length ≤ S.length
  | [], _, _, _ => Nat.zero_le _
  | a :: l, S, h, hs => by
    rw [List.nodup_cons] at h
    have ha := hs a List.mem_cons_self
    have := pigeon (l := l) (S := S.erase a) h.2 fun x hx => by
      have ne : x ≠ a := fun e => h.1 (e ▸ hx)
      exact (List.mem_erase_of_ne ne).mpr (hs x (List.mem_cons_of_mem _ hx))
    rw [List.length_erase_of_mem ha] at this
    have p : 0 < S.length := List.length_pos_of_mem ha
    rw [List.length_cons]
    omega
def Stays (h h' : Heap) : Prop := ∀ b o, h.get? b = some o → h'.get? b = some o
abbrev noSet (w : World) : Obj := { cls := .type "set", dict := none, data := .set #[] 0 (.fresh 0 0 (!w.params.followText "set-order")) }
section
variable {P : Program} {w : World} {A : Around} {E : Value → Shared → Prop} {s : Shared}
def InSet (P : Program) (w : World) (h : Heap) (S : Addr) (ks : List (Addr × List Int)) (i : Nat) : Prop := ∃ L es ep t, SetTR P w h S L es ep t ∧ Got ks i L
section
variable {I S : Addr} {fp wr : List Addr} {G : Array GenState → Array GenState → Prop} {Pv : Nat → Value → Prop} {St : Nat → Shared → Prop} {R : Result → Shared → Prop} {ks : List (Addr × List Int)} {D : List (List Int)} {h0 : Heap}
theorem rounds (W : WalksS P w A.in1 I fp wr G ks.length Pv St) (nS : S ∉ fp) (few : D.length ≤ 62) (mem : ∀ p ∈ ks, p.2 ∈ D) (val : ∀ i v, Pv i v → ∃ p, ks[i]? = some p ∧ v = .ref p.1)
    (tup : ∀ p ∈ ks, IsT P w h0 p.2 p.1) (newS : h0.get? S = none) (newW : ∀ b ∈ wr, h0.get? b = none) (un : A.in1.units < cLine) : ∀ (left i : Nat) (s : Shared), i + left = ks.length → St i s → Stays h0 s.heap → InSet P w s.heap S ks i →
    (∀ s', Moved (S :: wr) G s s' → InSet P w s'.heap S ks ks.length → Stays h0 s'.heap → R (.ok (.ret .none)) s') → codeAny (model P w) A (.builtin "set.update.loop" ⟨[.ref S, .ref I], []⟩) R s := by
  have out : S ∉ wr := fun h => nS (W.sub _ h)
  have wide : ∀ b ∈ wr, b ∈ S :: wr := fun b hb => List.mem_cons_of_mem _ hb
  have hold : ∀ {s s' : Shared}, Moved wr G s s' → Stays h0 s.heap → Stays h0 s'.heap := fun m k b o e => m.heap b o (fun hb => nomatch (newW b hb).symm.trans e) (k b o e)
  have take : ∀ {s s' : Shared} {i : Nat} {L : List (Addr × List Int)} {es : Array (Int × Value)} {ep : Nat} {t : SetTable}, Moved wr G s s' → Stays h0 s.heap → SetTR P w s.heap S L es ep t → Got ks i L → SetTR P w s'.heap S L es ep t := fun m k R g =>
    R.keep (fun o e => m.heap S o out e) fun q hq => isT_keep (tup q (List.mem_of_mem_take (g.sub q hq))) (hold m k)
  intro left
  induction left with
  | zero =>
    intro i s hi st kp inn fin
    obtain rfl : i = ks.length := hi
    obtain ⟨L, es, ep, t, R0, g⟩ := inn
    refine codeAny_builtin F.entry_set_update_loop ?_
    rw [Around.under_plainId F.plain_set_update_loop _]
    change wpAny _ A.in1 (pyNext (.ref I) >>= _) _ _ s
    refine wpAny_bind (W.done s _ _ st fun s' m => ?_)
    change wpAny _ A.in1 (ret Value.none) _ _ s'
    exact wpAny_pure (fin s' (m.mono wide) ⟨L, es, ep, t, take m kp R0 g, g⟩ (hold m kp))
  | succ left ih =>
    intro i s hi st kp inn fin
    obtain ⟨L, es, ep, t, R0, g⟩ := inn
    refine codeAny_builtin F.entry_set_update_loop ?_
    rw [Around.under_plainId F.plain_set_update_loop _]
    change wpAny _ A.in1 (pyNext (.ref I) >>= _) _ _ s
    refine wpAny_bind (W.item i s _ _ (by omega) st fun v s1 pv st1 m => ?_)
    obtain ⟨q, hq, rfl⟩ := val i v pv
    have kp1 := hold m kp
    have R1 := take m kp R0 g
    have isq : IsT P w s1.heap q.2 q.1 := isT_keep (tup q (List.mem_of_getElem? hq)) kp1
    have small : L.length ≤ 62 := by
      have := pigeon R1.nd fun x hx => by
        obtain ⟨y, hy, rfl⟩ := List.mem_map.mp hx
        exact mem y (List.mem_of_mem_take (g.sub y hy))
      rw [List.length_map] at this
      exact Nat.le_trans this few
    change wpAny _ A.in1 (holding [Value.ref q.1] (setAdd S (.ref q.1)) >>= _) _ _ s1
    refine wpAny_bind (wpAny_holding ?_)
    unfold setAdd
    refine wpAny_holding ?_
    refine wpAny_bind (wpAny_pyHash_tuple un isq ?_)
    refine add_at (s := { s1 with toks := s1.toks + (q.2.length + 1) }) R1 isq un (by omega) fun b h2 L2 es2 ep2 t2 same R2 c1 c2 => ?_
    have g2 : Got ks (i + 1) L2 := (Classical.em (q.2 ∈ L.map (·.2))).elim (fun c => by rw [c1 c]; exact g.same hq c) fun c => g.more hq (c2 c)
    have kp2 : Stays h0 h2 := fun b o e => (same.2 b fun z => by subst z; exact nomatch newS.symm.trans e).trans (kp1 b o e)
    refine wpAny_pure ⟨plainId_quiet F.plain_set_update_loop _, ih (i + 1) _ (by omega) (W.frame _ s1 _ _ st1 (Nat.le_add_right _ _) fun b hb o e => ?_) kp2 ⟨L2, es2, ep2, t2, R2, g2⟩ fun s3 m3 in3 kp3 => ?_⟩
    · exact (same.2 b (fun z : b = S => nS (z ▸ hb))).trans e
    · refine fin s3 (Moved.trans W.gtrans ((m.mono wide).then_heap (Nat.le_add_right _ _) fun b o nb e => ?_) m3) in3 kp3
      exact (same.2 b (fun z : b = S => nb (by rw [z]; exact List.mem_cons_self))).trans e
end
set_option maxHeartbeats 3200000 in
theorem call_setW {l : Addr} {items : Array Value} {ks : List (Addr × List Int)} {D : List (List Int)} {Q : Value → Shared → Prop} (hh : A.handled = none) (hl : s.heap.IsList l items) (hit : items.toList = ks.map fun q => Value.ref q.1)
    (tup : ∀ q ∈ ks, IsT P w s.heap q.2 q.1) (few : D.length ≤ 62) (mem : ∀ q ∈ ks, q.2 ∈ D) (un : A.units + 3 < cLine)
    (fin : ∀ (h' : Heap) (tk : Nat), InSet P w h' s.heap.objs.size ks ks.length → Stays s.heap h' → Q (.ref s.heap.objs.size) { s with heap := h', toks := tk }) : wpAny (model P w) A (call (.type "set") [.ref l]) Q E s := by
  have size : items.size = ks.length := by rw [← Array.length_toList, hit, List.length_map]
  obtain ⟨c, tl, hmro⟩ := F.called_set.mro
  have fact1 := F.called_set.made
  have fact2 := F.called_set.sub
  refine wpAny_call (codeAny_of_tree ?_)
  change wpAny _ _ (callAny (.type "set") _) _ _ _
  refine wpAny_pure ⟨Code.quiet_builtin _ (by decide +kernel), codeAny_builtin F.entry_type_call ?_⟩
  rw [Around.under_plain (weight_type_call_type "set" [.ref l] []) rfl]
  have fact3 := F.called_set.notType
  have fact4 := F.called_set.canCreate
  have fact5 := F.typeCall_set_1 (.ref l)
  repeat (any_goals (first | assumption | wp_step))

  refine codeAny_mono (code_set_led1 (.ref l) (E := E) (Q₁ := fun obj s1 => obj = .ref s.heap.objs.size ∧ s1 = { s with heap := s.heap.push (noSet w) }) ⟨rfl, rfl⟩) fun r s1 hr => ?_
  rcases r with e | fl
  · exact hr
  · cases fl with
    | ret obj =>
      obtain ⟨rfl, rfl⟩ := hr
      have atS : (s.heap.push (noSet w)).get? s.heap.objs.size = some (noSet w) := Heap.get?_push_size _ rfl
      have hT : Shared.TypeIs { s with heap := s.heap.push (noSet w) } (.ref s.heap.objs.size) "set" := ⟨_, atS, rfl⟩
      have fact6 := F.called_set.init.lookup
      have fact7 := F.called_set.init.bind (.ref s.heap.objs.size)
      repeat (any_goals (first | assumption | wp_step))

      refine codeAny_mono (codeAny_call_builtin (R := wants (fun r s2 => r = .none ∧ ∃ h' tk, s2 = { s with heap := h', toks := tk } ∧ InSet P w h' s.heap.objs.size ks ks.length ∧ Stays s.heap h') E) F.called_set.init.plain F.entry_set_init (check_set_init_1 hT ?_)) fun r2 s2 hr2 => ?_
      · obtain ⟨⟨_, _, _, _⟩, hol, hcl, nl, hdl⟩ := hl
        simp only at hcl hdl
        subst hcl hdl
        have before : l < s.heap.objs.size := Heap.lt_size hol
        have hol1 := Heap.get?_push_of_some (noSet w) hol
        have fact8 := F.sub_list_set
        have fact9 := F.sub_list_frozenset
        have factA : (Value.type "list" == Value.type "dict") = false := by decide
        have hl1 : (s.heap.push (noSet w)).IsList l items := ⟨_, hol1, rfl, nl, rfl⟩
        unfold Builtin.«set.__init__» noKeywords Builtin.Frozenset.updateFrom
        generalize hPI : pyIter = PI
        wp_walk
        subst hPI

        refine wpAny_pyIter_list hl1 (wpAny_bind (wpAny_runValue ?_))
        have hd3 : A.in1.in1.in1.handled = none := by simp [hh]
        have sz : (s.heap.push (noSet w)).objs.size = s.heap.objs.size + 1 := Heap.size_push ..
        have ne1 : l ≠ (s.heap.push (noSet w)).objs.size := Nat.ne_of_lt (Nat.lt_of_lt_of_eq (Nat.lt_succ_of_lt before) sz.symm)
        have free : ∀ b, s.heap.objs.size ≤ b → s.heap.get? b = none := fun b hb => by
          rcases q : s.heap.get? b with _ | o
          · rfl
          · exact (Nat.lt_irrefl _ (Nat.lt_of_le_of_lt hb (Heap.lt_size q))).elim
        have W0 := (Walks.list (prog := P) (w := w) hd3 _ l ne1 items).toS
        rw [size] at W0
        refine rounds (P := P) (w := w) (h0 := s.heap) (S := s.heap.objs.size) W0 (fun z => by
          rcases List.mem_cons.mp z with z | z
          · exact Nat.ne_of_lt (Nat.lt_of_lt_of_eq (Nat.lt_succ_self _) sz.symm) z
          · exact Nat.ne_of_gt before (List.mem_singleton.mp z)) few mem (fun i v hv => ?_) tup (free _ (Nat.le_refl _)) (fun b hb => free b (by rw [List.mem_singleton.mp hb, sz]; exact Nat.le_succ _)) un ks.length 0 _ (Nat.zero_add _) ⟨⟨_, Heap.get?_push_size _ rfl, rfl, rfl⟩, hl1.push _⟩ (fun b o e => Heap.get?_push_of_some _ (Heap.get?_push_of_some _ e)) ⟨[], #[], 0, _, setTR_fresh (Heap.get?_push_of_some _ atS), Got.zero ks⟩ ?_
        · have q : items.toList[i]? = some v := by rw [Array.getElem?_toList]; exact hv
          rw [hit, List.getElem?_map] at q
          obtain ⟨p, hp, e⟩ := Option.map_eq_some_iff.mp q
          exact ⟨p, hp, e.symm⟩
        · rintro ⟨h', g2, d2, tk, os2⟩ m inn kp
          obtain rfl : g2 = s.gens := m.gens
          obtain rfl : d2 = s.drawn := m.drawn
          obtain rfl : os2 = s.os := m.os
          change wpAny _ _ _ _ _ _
          refine wpAny_pure ?_
          change wpAny _ _ (ret Value.none) _ _ _
          exact wpAny_pure ⟨rfl, h', tk, rfl, inn, kp⟩
      · rcases r2 with e | fl2
        · exact hr2
        · cases fl2 with
          | ret r =>
            obtain ⟨rfl, h', tk, rfl, inn, kp⟩ := hr2
            repeat (any_goals (first | assumption | wp_step))
            exact fin h' tk inn kp
          | _ => exact hr2.elim
    | _ => exact hr.elim
end
section
variable {X : Cx}
def rSetW (K : PySem.W.Frag) (P : Program) (w : World) : List V → Hp → VK → Prop := fun xs H Q => ∃ (l : Addr) (ks : List (Addr × List Int)), xs = [V.ref l] ∧ SqL K H l (ks.map fun q => V.ref q.1) ∧ (∀ q ∈ ks, SqT K H q.1 (q.2.map V.int)) ∧ (∃ D : List (List Int), D.length ≤ 62 ∧ ∀ q ∈ ks, q.2 ∈ D) ∧
  ∀ sa L, H sa = none → (∀ q ∈ L, q ∈ ks) → (∀ q ∈ ks, q.2 ∈ L.map (·.2)) → Q (.ref sa) (upd H sa (SetTO P w sa L))
theorem cr_setW (hc : X.calm = true) (hu : X.A.units + 64 < cLine) : CallR X (.type "set") (rSetW X.K X.prog X.w) := by
  intro pins s σ H xs us Q I r h
  obtain ⟨l, ks, rfl, hl, hk, ⟨D, hD, mD⟩, q⟩ := h
  obtain ⟨its, rv, pl, _⟩ := I.list hl
  rw [Vals.ref1 r]
  refine call_setW (P := X.prog) (w := X.w) (ks := ks) (I.ok.hd hc) pl.isList (by simpa using refs_of_vals rv) (fun q hq => I.isT (hk q hq)) hD mD (by omega) fun h' tk inn kp => ?_
  obtain ⟨L, es, ep, t, R, g⟩ := inn
  refine ⟨.ref s.heap.objs.size, upd H s.heap.objs.size (SetTO X.prog X.w s.heap.objs.size L), I.laid (t' := tk) kp (Nat.le_refl _) (setTO_new R.t0), rfl, q _ L (I.hok.fresh (Nat.le_refl _)) (fun p hp => List.mem_of_mem_take (g.sub p hp)) fun p hp => ?_⟩
  exact g.all p (by rw [List.take_length]; exact hp)
end
end LK

set_option Elab.async false
set_option linter.all false
set_option maxRecDepth 100000
namespace LK
open PySem PySem.Spec PyProof.Rows L2
/-! ### zip of a tuple and two lists -/
abbrev Is3 (h : Heap) (T : Addr) (a b c : Value) : Prop := h.get? T = some { cls := .type "tuple", data := .seq #[a, b, c] }
theorem upd3 {prog : Program} {w : World} {A : Around} {E : Value → Shared → Prop} {s : Shared} {T : Addr} {a b c x : Value} {k : Nat} {Q : Unit → Shared → Prop} (hT : Is3 s.heap T a b c)
    (h : ∀ g, g.get? T = some { cls := .type "tuple", data := .seq ((#[a, b, c] : Array Value).setIfInBounds k x) } → Heap.SameBut T s.heap g → Q () { s with heap := g }) : wpAny (model prog w) A (updateSeq T (·.setIfInBounds k x)) Q E s :=
  wpAny_updateSeq hT rfl (h _ (by rw [Heap.get?_update_self _ hT rfl]; simp [Obj.mapSeq]) (Heap.SameBut.update ..))
structure Far3 (z TI TO i1 i2 i3 l1 l2 l3 : Addr) : Prop where
  fz : ∀ c ∈ [TI, TO, i1, i2, i3, l1, l2, l3], c ≠ z
  fo : ∀ c ∈ [z, TI, i1, i2, i3, l1, l2, l3], c ≠ TO
  f1 : ∀ c ∈ [z, TI, TO, i2, i3, l1, l2, l3], c ≠ i1
  f2 : ∀ c ∈ [z, TI, TO, i1, i3, l1, l2, l3], c ≠ i2
  f3 : ∀ c ∈ [z, TI, TO, i1, i2, l1, l2, l3], c ≠ i3
structure Z3 (z TI TO i1 i2 i3 : Addr) (I1 I2 I3 : Nat → Heap → Prop) (C1 C2 C3 : Array Value → Heap → Prop) (xs ys zs : Array Value) (h : Heap) (f a b c : Value) (k1 k2 k3 : Nat) : Prop where
  oz : IsZip h z TI TO f
  ti : Is3 h TI (.ref i1) (.ref i2) (.ref i3)
  tt : Is3 h TO a b c
  j1 : I1 k1 h
  j2 : I2 k2 h
  j3 : I3 k3 h
  c1 : C1 xs h
  c2 : C2 ys h
  c3 : C3 zs h
section
variable {prog : Program} {w : World} {A : Around} {E : Value → Shared → Prop} {s : Shared} {z TI TO i1 i2 i3 l1 l2 l3 : Addr} {I1 I2 I3 : Nat → Heap → Prop} {C1 C2 C3 : Array Value → Heap → Prop} {xs ys zs : Array Value} {f a b c : Value} {k1 k2 k3 : Nat} {h g : Heap}
theorem Z3.onZ (D : Far3 z TI TO i1 i2 i3 l1 l2 l3) (S1 : Src prog w i1 l1 I1 C1) (S2 : Src prog w i2 l2 I2 C2) (S3 : Src prog w i3 l3 I3 C3) (q : Z3 z TI TO i1 i2 i3 I1 I2 I3 C1 C2 C3 xs ys zs h f a b c k1 k2 k3) (e : Heap.ExtBut z h g) {f' : Value} (n : IsZip g z TI TO f') : Z3 z TI TO i1 i2 i3 I1 I2 I3 C1 C2 C3 xs ys zs g f' a b c k1 k2 k3 :=
  ⟨n, e _ _ (D.fz _ (by simp)) q.ti, e _ _ (D.fz _ (by simp)) q.tt, S1.mvI q.j1 fun o => e _ o (D.fz _ (by simp)), S2.mvI q.j2 fun o => e _ o (D.fz _ (by simp)), S3.mvI q.j3 fun o => e _ o (D.fz _ (by simp)), S1.mvC q.c1 fun o => e _ o (D.fz _ (by simp)), S2.mvC q.c2 fun o => e _ o (D.fz _ (by simp)), S3.mvC q.c3 fun o => e _ o (D.fz _ (by simp))⟩
theorem Z3.onO (D : Far3 z TI TO i1 i2 i3 l1 l2 l3) (S1 : Src prog w i1 l1 I1 C1) (S2 : Src prog w i2 l2 I2 C2) (S3 : Src prog w i3 l3 I3 C3) (q : Z3 z TI TO i1 i2 i3 I1 I2 I3 C1 C2 C3 xs ys zs h f a b c k1 k2 k3) (e : Heap.ExtBut TO h g) {a' b' c' : Value} (n : Is3 g TO a' b' c') : Z3 z TI TO i1 i2 i3 I1 I2 I3 C1 C2 C3 xs ys zs g f a' b' c' k1 k2 k3 :=
  ⟨e _ _ (D.fo _ (by simp)) q.oz, e _ _ (D.fo _ (by simp)) q.ti, n, S1.mvI q.j1 fun o => e _ o (D.fo _ (by simp)), S2.mvI q.j2 fun o => e _ o (D.fo _ (by simp)), S3.mvI q.j3 fun o => e _ o (D.fo _ (by simp)), S1.mvC q.c1 fun o => e _ o (D.fo _ (by simp)), S2.mvC q.c2 fun o => e _ o (D.fo _ (by simp)), S3.mvC q.c3 fun o => e _ o (D.fo _ (by simp))⟩
theorem Z3.on1 (D : Far3 z TI TO i1 i2 i3 l1 l2 l3) (S1 : Src prog w i1 l1 I1 C1) (S2 : Src prog w i2 l2 I2 C2) (S3 : Src prog w i3 l3 I3 C3) (q : Z3 z TI TO i1 i2 i3 I1 I2 I3 C1 C2 C3 xs ys zs h f a b c k1 k2 k3) (e : Heap.ExtBut i1 h g) {k : Nat} (n : I1 k g) : Z3 z TI TO i1 i2 i3 I1 I2 I3 C1 C2 C3 xs ys zs g f a b c k k2 k3 :=
  ⟨e _ _ (D.f1 _ (by simp)) q.oz, e _ _ (D.f1 _ (by simp)) q.ti, e _ _ (D.f1 _ (by simp)) q.tt, n, S2.mvI q.j2 fun o => e _ o (D.f1 _ (by simp)), S3.mvI q.j3 fun o => e _ o (D.f1 _ (by simp)), S1.mvC q.c1 fun o => e _ o (D.f1 _ (by simp)), S2.mvC q.c2 fun o => e _ o (D.f1 _ (by simp)), S3.mvC q.c3 fun o => e _ o (D.f1 _ (by simp))⟩
theorem Z3.on2 (D : Far3 z TI TO i1 i2 i3 l1 l2 l3) (S1 : Src prog w i1 l1 I1 C1) (S2 : Src prog w i2 l2 I2 C2) (S3 : Src prog w i3 l3 I3 C3) (q : Z3 z TI TO i1 i2 i3 I1 I2 I3 C1 C2 C3 xs ys zs h f a b c k1 k2 k3) (e : Heap.ExtBut i2 h g) {k : Nat} (n : I2 k g) : Z3 z TI TO i1 i2 i3 I1 I2 I3 C1 C2 C3 xs ys zs g f a b c k1 k k3 :=
  ⟨e _ _ (D.f2 _ (by simp)) q.oz, e _ _ (D.f2 _ (by simp)) q.ti, e _ _ (D.f2 _ (by simp)) q.tt, S1.mvI q.j1 fun o => e _ o (D.f2 _ (by simp)), n, S3.mvI q.j3 fun o => e _ o (D.f2 _ (by simp)), S1.mvC q.c1 fun o => e _ o (D.f2 _ (by simp)), S2.mvC q.c2 fun o => e _ o (D.f2 _ (by simp)), S3.mvC q.c3 fun o => e _ o (D.f2 _ (by simp))⟩
theorem Z3.on3 (D : Far3 z TI TO i1 i2 i3 l1 l2 l3) (S1 : Src prog w i1 l1 I1 C1) (S2 : Src prog w i2 l2 I2 C2) (S3 : Src prog w i3 l3 I3 C3) (q : Z3 z TI TO i1 i2 i3 I1 I2 I3 C1 C2 C3 xs ys zs h f a b c k1 k2 k3) (e : Heap.ExtBut i3 h g) {k : Nat} (n : I3 k g) : Z3 z TI TO i1 i2 i3 I1 I2 I3 C1 C2 C3 xs ys zs g f a b c k1 k2 k :=
  ⟨e _ _ (D.f3 _ (by simp)) q.oz, e _ _ (D.f3 _ (by simp)) q.ti, e _ _ (D.f3 _ (by simp)) q.tt, S1.mvI q.j1 fun o => e _ o (D.f3 _ (by simp)), S2.mvI q.j2 fun o => e _ o (D.f3 _ (by simp)), n, S1.mvC q.c1 fun o => e _ o (D.f3 _ (by simp)), S2.mvC q.c2 fun o => e _ o (D.f3 _ (by simp)), S3.mvC q.c3 fun o => e _ o (D.f3 _ (by simp))⟩
def Beside (L : List Addr) (h g : Heap) : Prop := ∀ c o, c ∉ L → h.get? c = some o → g.get? c = some o
theorem Beside.tr {L : List Addr} {h1 h2 h3 : Heap} (p : Beside L h1 h2) (q : Beside L h2 h3) : Beside L h1 h3 := fun c o n e => q c o n (p c o n e)
theorem Beside.of {L : List Addr} {m : Addr} (hm : m ∈ L) (e : Heap.ExtBut m h g) : Beside L h g := fun c o n => e c o fun z => n (z ▸ hm)
theorem z3_item {x y v : Value} {Q : Value → Shared → Prop} (D : Far3 z TI TO i1 i2 i3 l1 l2 l3) (S1 : Src prog w i1 l1 I1 C1) (S2 : Src prog w i2 l2 I2 C2) (S3 : Src prog w i3 l3 I3 C3) (q0 : Z3 z TI TO i1 i2 i3 I1 I2 I3 C1 C2 C3 xs ys zs s.heap .none a b c k1 k2 k3) (hx : xs[k1]? = some x) (hy : ys[k2]? = some y) (hv : zs[k3]? = some v)
    (k : ∀ g, Z3 z TI TO i1 i2 i3 I1 I2 I3 C1 C2 C3 xs ys zs g (rawInt s.heap.objs.size) x y v (k1 + 1) (k2 + 1) (k3 + 1) → Is3 g s.heap.objs.size x y v → g.objs.size = s.heap.objs.size + 1 → Beside [z, TO, i1, i2, i3] s.heap g → Q (.ref s.heap.objs.size) { s with heap := g }) :
    wpAny (model prog w) A (Builtin.«zip.__next__» ⟨[.ref z], []⟩) (fun r s' => ∃ v, r = .done (.ret v) ∧ Q v s') E s := by
  have oz := q0.oz
  change wpAny (model prog w) _ (field (.ref z) 2 >>= _) _ E _
  refine wpAny_bind (wpAny_field oz rfl (x := .bool false) rfl ?_)
  change wpAny (model prog w) _ (field (.ref z) 3 >>= _) _ E _
  refine wpAny_bind (wpAny_field oz rfl (x := .ref TI) rfl (wpAny_bind (wpAny_seqItems q0.ti rfl ?_)))
  change wpAny (model prog w) _ (Builtin.SmallTypes.ownedTupleIsFree (.ref z) >>= _) _ E _
  unfold Builtin.SmallTypes.ownedTupleIsFree
  refine wpAny_bind (wpAny_bind (wpAny_field oz rfl (x := .none) rfl (wpAny_pure ?_)))
  simp only [if_true]
  refine wpAny_bind (wpAny_rule (wpAny_bind (wpAny_field oz rfl (x := .ref TO) rfl (wpAny_bind (wpAny_setField_rec oz (by simp) fun g1 z1 e1 => ?_)))))
  have q1 := q0.onZ D S1 S2 S3 e1.extBut (f' := .ellipsis) z1
  have t1 : Beside [z, TO, i1, i2, i3] s.heap g1 := .of (by simp) e1.extBut
  simp only [List.forIn_cons, List.forIn_nil, List.zipIdx_cons, List.zipIdx_nil]
  refine wpAny_bind (wpAny_bind (wpAny_bind (wpAny_onRaise ?_)))
  change wpAny (model prog w) _ (Builtin.SmallTypes.nextOf (.ref i1) >>= _) _ _ _
  refine wpAny_bind (S1.more q1.j1 q1.c1 hx fun g2 n2 e2 => wpAny_pure ?_)
  have q2 := q1.on1 D S1 S2 S3 e2.extBut n2
  have t2 := t1.tr (.of (by simp) e2.extBut)
  refine wpAny_bind (wpAny_seqItems q2.tt rfl (wpAny_bind (upd3 q2.tt fun g3 n3 e3 => ?_)))
  have q3 := q2.onO D S1 S2 S3 e3.extBut (a' := x) (b' := b) (c' := c) n3
  have t3 := t2.tr (.of (by simp) e3.extBut)
  refine wpAny_bind (wpAny_letGo (wpAny_pure (wpAny_bind (wpAny_bind (wpAny_onRaise ?_)))))
  change wpAny (model prog w) _ (Builtin.SmallTypes.nextOf (.ref i2) >>= _) _ _ _
  refine wpAny_bind (S2.more q3.j2 q3.c2 hy fun g4 n4 e4 => wpAny_pure ?_)
  have q4 := q3.on2 D S1 S2 S3 e4.extBut n4
  have t4 := t3.tr (.of (by simp) e4.extBut)
  refine wpAny_bind (wpAny_seqItems q4.tt rfl (wpAny_bind (upd3 q4.tt fun g5 n5 e5 => ?_)))
  have q5 := q4.onO D S1 S2 S3 e5.extBut (a' := x) (b' := y) (c' := c) n5
  have t5 := t4.tr (.of (by simp) e5.extBut)
  refine wpAny_bind (wpAny_letGo (wpAny_pure (wpAny_bind (wpAny_bind (wpAny_onRaise ?_)))))
  change wpAny (model prog w) _ (Builtin.SmallTypes.nextOf (.ref i3) >>= _) _ _ _
  refine wpAny_bind (S3.more q5.j3 q5.c3 hv fun g6 n6 e6 => wpAny_pure ?_)
  have q6 := q5.on3 D S1 S2 S3 e6.extBut n6
  have t6 := t5.tr (.of (by simp) e6.extBut)
  refine wpAny_bind (wpAny_seqItems q6.tt rfl (wpAny_bind (upd3 q6.tt fun g7 n7 e7 => ?_)))
  have q7 := q6.onO D S1 S2 S3 e7.extBut (a' := x) (b' := y) (c' := v) n7
  have t7 := t6.tr (.of (by simp) e7.extBut)
  have sz : g7.objs.size = s.heap.objs.size := by rw [e7.1, e6.1, e5.1, e4.1, e3.1, e2.1, e1.1]
  refine wpAny_bind (wpAny_letGo (wpAny_pure (wpAny_pure (wpAny_bind (wpAny_seqItems q7.tt rfl (wpAny_bind (wpAny_newTuple ?_)))))))
  change wpAny (model prog w) _ (Builtin.SmallTypes.ownedTupleHandOut (.ref z) (.ref g7.objs.size) >>= _) _ E _
  unfold Builtin.SmallTypes.ownedTupleHandOut
  have pz : IsZip (g7.push { cls := .type "tuple", data := .seq #[x, y, v] }) z TI TO .ellipsis := Heap.get?_push_of_some _ q7.oz
  refine wpAny_bind (wpAny_bind (wpAny_setField_rec pz (by simp) fun g8 z8 e8 => ?_))
  have z8' : IsZip g8 z TI TO (rawInt g7.objs.size) := z8
  refine wpAny_setField_rec z8' (by simp) fun g9 z9 e9 => ?_
  have z9' : IsZip g9 z TI TO (rawInt g7.objs.size) := z9
  have e79 : Heap.ExtBut z g7 g9 := fun c o n e => e9.extBut _ _ n (e8.extBut _ _ n (Heap.get?_push_of_some _ e))
  have q9 := q7.onZ D S1 S2 S3 e79 z9'
  have nz : g7.objs.size ≠ z := Nat.ne_of_gt (Heap.lt_size q7.oz)
  have p9 : Is3 g9 g7.objs.size x y v := e9.extBut _ _ nz (e8.extBut _ _ nz (Heap.get?_push_size _ rfl))
  have s9 : g9.objs.size = g7.objs.size + 1 := by rw [e9.1, e8.1, Heap.size_push]
  refine wpAny_pure ⟨.ref g7.objs.size, rfl, ?_⟩
  rw [sz] at q9 p9 s9 ⊢
  exact k g9 q9 p9 s9 (t7.tr (.of (by simp) e79))
/-- the last turn: the first of the three has no more -/
theorem z3_end {Q : Fin → Shared → Prop} (hh : A.handled = none) (D : Far3 z TI TO i1 i2 i3 l1 l2 l3) (S1 : Src prog w i1 l1 I1 C1) (S2 : Src prog w i2 l2 I2 C2) (S3 : Src prog w i3 l3 I3 C3) (q0 : Z3 z TI TO i1 i2 i3 I1 I2 I3 C1 C2 C3 xs ys zs s.heap .none a b c k1 k2 k3) (hx : xs[k1]? = none)
    (k : ∀ g e, Beside [z, TO, i1, i2, i3] s.heap g → (∃ o, g.get? e = some o ∧ o.cls = .type "StopIteration") → E (.ref e) { s with heap := g }) : wpAny (model prog w) A (Builtin.«zip.__next__» ⟨[.ref z], []⟩) Q E s := by
  have oz := q0.oz
  change wpAny (model prog w) _ (field (.ref z) 2 >>= _) _ E _
  refine wpAny_bind (wpAny_field oz rfl (x := .bool false) rfl ?_)
  change wpAny (model prog w) _ (field (.ref z) 3 >>= _) _ E _
  refine wpAny_bind (wpAny_field oz rfl (x := .ref TI) rfl (wpAny_bind (wpAny_seqItems q0.ti rfl ?_)))
  change wpAny (model prog w) _ (Builtin.SmallTypes.ownedTupleIsFree (.ref z) >>= _) _ E _
  unfold Builtin.SmallTypes.ownedTupleIsFree
  refine wpAny_bind (wpAny_bind (wpAny_field oz rfl (x := .none) rfl (wpAny_pure ?_)))
  simp only [if_true]
  refine wpAny_bind (wpAny_rule (wpAny_bind (wpAny_field oz rfl (x := .ref TO) rfl (wpAny_bind (wpAny_setField_rec oz (by simp) fun g1 z1 e1 => ?_)))))
  have q1 := q0.onZ D S1 S2 S3 e1.extBut (f' := .ellipsis) z1
  have t1 : Beside [z, TO, i1, i2, i3] s.heap g1 := .of (by simp) e1.extBut
  simp only [List.forIn_cons, List.forIn_nil, List.zipIdx_cons, List.zipIdx_nil]
  refine wpAny_bind (wpAny_bind (wpAny_bind (wpAny_onRaise ?_)))
  change wpAny (model prog w) _ (Builtin.SmallTypes.nextOf (.ref i1) >>= _) _ _ _
  refine wpAny_bind (S1.over hh q1.j1 q1.c1 hx fun g2 e e2 so => ?_)
  have z2 := e2 _ _ (D.f1 z (by simp)) q1.oz
  refine wpAny_setField_rec z2 (by simp) fun g3 _ e3 => ?_
  obtain ⟨o, h1, h2⟩ := so
  exact k _ _ ((t1.tr (.of (by simp) e2)).tr (.of (by simp) e3.extBut)) ⟨o, e3.extBut _ _ (fun n => by subst n; rw [z2] at h1; cases h1; simp at h2) h1, h2⟩
theorem z3_next {x y v : Value} {Q : Option Value → Shared → Prop} (D : Far3 z TI TO i1 i2 i3 l1 l2 l3) (S1 : Src prog w i1 l1 I1 C1) (S2 : Src prog w i2 l2 I2 C2) (S3 : Src prog w i3 l3 I3 C3) (q0 : Z3 z TI TO i1 i2 i3 I1 I2 I3 C1 C2 C3 xs ys zs s.heap .none a b c k1 k2 k3) (hx : xs[k1]? = some x) (hy : ys[k2]? = some y) (hv : zs[k3]? = some v)
    (k : ∀ g, Z3 z TI TO i1 i2 i3 I1 I2 I3 C1 C2 C3 xs ys zs g (rawInt s.heap.objs.size) x y v (k1 + 1) (k2 + 1) (k3 + 1) → Is3 g s.heap.objs.size x y v → g.objs.size = s.heap.objs.size + 1 → Beside [z, TO, i1, i2, i3] s.heap g → Q (some (.ref s.heap.objs.size)) { s with heap := g }) : wpAny (model prog w) A (pyNext (.ref z)) Q E s := by
  have ty : s.TypeIs (.ref z) "zip" := ⟨_, q0.oz, rfl⟩
  unfold pyNext
  exact wpAny_bind (wpAny_attempt (wpAny_callSpecial?_slot (name := Str.ofString "__next__") ty F.slot_zip_next (wpAny_call_entry F.slot_zip_next ty F.entry_zip_next (z3_item D S1 S2 S3 q0 hx hy hv fun g p1 p2 p3 p4 => wpAny_pure (k g p1 p2 p3 p4)) (F.args_zip_next_1 _))))
theorem z3_stop {Q : Option Value → Shared → Prop} (hh : A.handled = none) (D : Far3 z TI TO i1 i2 i3 l1 l2 l3) (S1 : Src prog w i1 l1 I1 C1) (S2 : Src prog w i2 l2 I2 C2) (S3 : Src prog w i3 l3 I3 C3) (q0 : Z3 z TI TO i1 i2 i3 I1 I2 I3 C1 C2 C3 xs ys zs s.heap .none a b c k1 k2 k3) (hx : xs[k1]? = none)
    (k : ∀ g, Beside [z, TO, i1, i2, i3] s.heap g → Q none { s with heap := g }) : wpAny (model prog w) A (pyNext (.ref z)) Q E s := by
  have ty : s.TypeIs (.ref z) "zip" := ⟨_, q0.oz, rfl⟩
  unfold pyNext
  refine wpAny_bind (wpAny_attempt (wpAny_callSpecial?_slot (name := Str.ofString "__next__") ty F.slot_zip_next (wpAny_call_entry F.slot_zip_next ty F.entry_zip_next (z3_end hh D S1 S2 S3 q0 hx fun g e st so => ?_) (F.args_zip_next_1 _))))
  obtain ⟨o, h1, h2⟩ := so
  exact wpAny_bind (wpAny_isInstance (T := "StopIteration") (b := true) ⟨o, h1, h2⟩ isSubtype_stop (wpAny_pure (k _ st)))
end
def Itz3 (K : PySem.W.Frag) (a b c : Addr) : It where
  go := fun i H => ∃ (xs ys zs : List V) (x y z : V), SqT K H a xs ∧ SqL K H b ys ∧ SqL K H c zs ∧ xs[i]? = some x ∧ ys[i]? = some y ∧ zs[i]? = some z
  yld := fun i H v H' => ∃ T x y z, v = .ref T ∧ H T = none ∧ H' = L2.upd H T (.tup [x, y, z]) ∧ (∀ xs, SqT K H a xs → xs[i]? = some x) ∧ (∀ ys, SqL K H b ys → ys[i]? = some y) ∧ ∀ zs, SqL K H c zs → zs[i]? = some z
  stop := fun i H => ∃ xs ys zs : List V, SqT K H a xs ∧ SqL K H b ys ∧ SqL K H c zs ∧ xs.length ≤ i
def tn3 (z TI TO i1 i2 i3 a b c : Addr) (i : Nat) (h : Heap) : Prop := ∃ x y v, IsZip h z TI TO .none ∧ Is3 h TI (.ref i1) (.ref i2) (.ref i3) ∧ Is3 h TO x y v ∧ h.IsTupleIter i1 a i ∧ h.IsListIter i2 b i ∧ h.IsListIter i3 c i
theorem far3 {I l1 l2 l3 : Nat} (h1 : l1 < I) (h2 : l2 < I) (h3 : l3 < I) : Far3 (I + 5) (I + 3) (I + 4) I (I + 1) (I + 2) l1 l2 l3 := by
  have key : ∀ {L : List Nat} {m : Nat}, (L.all fun c => decide (c ≠ m)) = true → ∀ c ∈ L, c ≠ m := fun h c hc => of_decide_eq_true (List.all_eq_true.mp h c hc)
  constructor <;> (refine key ?_; simp only [List.all_cons, List.all_nil, Bool.and_true, Bool.and_eq_true, decide_eq_true_eq]; omega)
theorem turn_zip3 {P : Program} {w : World} {K : PySem.W.Frag} {elts : List Expr} {kk : Nat} {tpos : Pos} {a b c z TI TO i1 i2 i3 : Addr} (D : Far3 z TI TO i1 i2 i3 a b c) : Turn P w K (.Tuple elts kk tpos) (Itz3 K a b c) [z, TI, TO, i1, i2, i3] z (tn3 z TI TO i1 i2 i3 a b c) where
  mem := List.mem_cons_self
  obj := fun i h ⟨x, y, v, h1, h2, h3, h4, h5, h6⟩ m hm => by
    obtain ⟨o4, f4, e4, d4⟩ := (src_tup P w i1 a).fld h4
    obtain ⟨o5, f5, e5, d5⟩ := (src_lst P w i2 b).fld h5
    obtain ⟨o6, f6, e6, d6⟩ := (src_lst P w i3 c).fld h6
    simp only [List.mem_cons, List.not_mem_nil, or_false] at hm
    rcases hm with rfl | rfl | rfl | rfl | rfl | rfl
    · exact ⟨_, h1, fun v q => nomatch q⟩
    · exact ⟨_, h2, fun v q => nomatch q⟩
    · exact ⟨_, h3, fun v q => nomatch q⟩
    · exact ⟨o4, e4, fun v q => by rw [d4] at q; cases q⟩
    · exact ⟨o5, e5, fun v q => by rw [d5] at q; cases q⟩
    · exact ⟨o6, e6, fun v q => by rw [d6] at q; cases q⟩
  keep := fun i h g ⟨x, y, v, h1, h2, h3, h4, h5, h6⟩ k => ⟨x, y, v, k z (by simp) _ h1, k TI (by simp) _ h2, k TO (by simp) _ h3, (src_tup P w i1 a).mvI h4 fun o => k i1 (by simp) o, (src_lst P w i2 b).mvI h5 fun o => k i2 (by simp) o, (src_lst P w i3 c).mvI h6 fun o => k i3 (by simp) o⟩
  item := by
    rintro X rfl rfl rfl hc i pins s σ H E I hf ⟨x0, y0, v0, h1, h2, h3, h4, h5, h6⟩ ⟨xs, ys, zs, x, y, v, qx, qy, qv, ex, ey, ev⟩
    obtain ⟨its, rx, p, _⟩ := I.tuple qx
    obtain ⟨jts, ry, p', _⟩ := I.list qy
    obtain ⟨kts, rv, p'', _⟩ := I.list qv
    obtain ⟨x1, ex1, rx1⟩ := rx.get ex
    obtain ⟨y1, ey1, ry1⟩ := ry.get ey
    obtain ⟨v1, ev1, rv1⟩ := rv.get ev
    refine z3_next D (src_tup X.prog X.w i1 a) (src_lst X.prog X.w i2 b) (src_lst X.prog X.w i3 c) ⟨h1, h2, h3, h4, h5, h6, (show s.heap.IsTuple a its.toArray from p), p'.isList, p''.isList⟩ (x := x1) (y := y1) (v := v1) (by simpa using ex1) (by simpa using ey1) (by simpa using ev1) fun g q pp sz st => ⟨_, rfl, wpAny_letOwnedTupleGo_zip (s := { s with heap := g }) q.oz fun g2 z2 e2 => ?_⟩
    have q2 := q.onZ D (src_tup X.prog X.w i1 a) (src_lst X.prog X.w i2 b) (src_lst X.prog X.w i3 c) e2.extBut z2
    have nz : s.heap.objs.size ≠ z := Nat.ne_of_gt (Heap.lt_size h1)
    have pp2 : Is3 g2 s.heap.objs.size x1 y1 v1 := e2.extBut _ _ nz pp
    have ok : ObjOk X.prog X.w (L2.upd H s.heap.objs.size (.tup [x, y, v])) g2 s.heap.objs.size (.tup [x, y, v]) := ⟨by show 3 ≤ sizeLine; decide, [x1, y1, v1], .cons rx1 (.cons ry1 (.cons rv1 .nil)), ⟨_, pp2, rfl, _, rfl⟩⟩
    have st2 : Beside [z, TO, i1, i2, i3] s.heap g2 := st.tr (.of (by simp) e2.extBut)
    have I2 : Inv X pins σ (L2.upd H s.heap.objs.size (.tup [x, y, v])) { s with heap := g2 } := I.turnedNew (t' := s.toks) (ch := [z, TI, TO, i1, i2, i3]) (fun m o hb e => st2 m o (fun n => hb (by simp only [List.mem_cons, List.not_mem_nil, or_false] at n ⊢; rcases n with n | n | n | n | n <;> simp [n])) e) hf (Nat.le_refl _) ok
    refine ⟨.ref s.heap.objs.size, _, I2, rfl, ⟨_, x, y, v, rfl, I.hok.fresh (Nat.le_refl _), rfl, fun l hl => by rw [I.tuple_inj hl qx]; exact ex, fun l hl => by rw [I.list_inj hl qy]; exact ey, fun l hl => by rw [I.list_inj hl qv]; exact ev⟩, ⟨x1, y1, v1, q2.oz, q2.ti, q2.tt, q2.j1, q2.j2, q2.j3⟩, fun m hm => ?_⟩
    have lt : m < s.heap.objs.size := by
      obtain ⟨o4, _, e4, _⟩ := (src_tup X.prog X.w i1 a).fld h4
      obtain ⟨o5, _, e5, _⟩ := (src_lst X.prog X.w i2 b).fld h5
      obtain ⟨o6, _, e6, _⟩ := (src_lst X.prog X.w i3 c).fld h6
      have hm := hm
      simp only [List.mem_cons, List.not_mem_nil, or_false] at hm
      rcases hm with rfl | rfl | rfl | rfl | rfl | rfl
      · exact Heap.lt_size h1
      · exact Heap.lt_size h2
      · exact Heap.lt_size h3
      · exact Heap.lt_size e4
      · exact Heap.lt_size e5
      · exact Heap.lt_size e6
    rw [upd_ne (Nat.ne_of_lt lt)]
    exact (hf m hm).1
  done := by
    rintro X rfl rfl rfl hc i pins s σ H E I hf ⟨x0, y0, v0, h1, h2, h3, h4, h5, h6⟩ ⟨xs, ys, zs, qx, qy, qv, he⟩
    obtain ⟨its, rx, p, _⟩ := I.tuple qx
    obtain ⟨jts, ry, p', _⟩ := I.list qy
    obtain ⟨kts, rv, p'', _⟩ := I.list qv
    have l1 := rx.length
    refine z3_stop (I.ok.hd hc) D (src_tup X.prog X.w i1 a) (src_lst X.prog X.w i2 b) (src_lst X.prog X.w i3 c) ⟨h1, h2, h3, h4, h5, h6, (show s.heap.IsTuple a its.toArray from p), p'.isList, p''.isList⟩ (by simp; omega) fun g st => ⟨rfl, I.turnedL (t' := s.toks) (ch := [z, TI, TO, i1, i2, i3]) (fun m o hb e => st m o (fun n => hb (by simp only [List.mem_cons, List.not_mem_nil, or_false] at n ⊢; rcases n with n | n | n | n | n <;> simp [n])) e) hf⟩
  self := fun A i s Q E ⟨_, _, _, h1, _⟩ k => wpAny_pyIter_zip h1 k
def iZip3 (K : PySem.W.Frag) (ta : TA) : TI := fun σ H R => ta σ H fun vs H1 => ∃ a b c xs ys zs, vs = [.ref a, .ref b, .ref c] ∧ SqT K H1 a xs ∧ SqL K H1 b ys ∧ SqL K H1 c zs ∧ R (Itz3 K a b c) H1
theorem pi_zip3 {X : Cx} {e e2 e3 : Expr} {ta : TA} {p pos tpos : Pos} {elts : List Expr} {kk : Nat} (hg : Gl X "zip") (hm : X.mg "zip" = none) (ha : PA X [e, e2, e3] ta) (hs : starEach [e, e2, e3] X.env = (false, eval e X.env) :: starEach [e2, e3] X.env := by rfl) (hpl : (backTo pos (starEach [e2, e3] X.env)).any (·.1) = false := by rfl) :
    PI X (.Tuple elts kk tpos) (.Call (.Name "zip" p) [e, e2, e3] [] pos) (iZip3 X.K ta) := by
  refine ⟨fun pins s σ H R I h => Call_ (ld_blt I hg hm PyProof.Rows.boot_zip (PyProof.Rows.callWith_type1 (thn (ha.run pos pins s σ H _ I h) fun us s1 ⟨vs, H1, I1, r1, a, b, c, xs, ys, zs, ex, qx, qy, qz, q⟩ => ?_) hs hpl))⟩
  subst ex
  obtain _ | ⟨r, r'⟩ := r1
  obtain _ | ⟨r2, r''⟩ := r'
  obtain _ | ⟨r3, r4⟩ := r''
  cases r4
  cases r
  cases r2
  cases r3
  obtain ⟨its, rx, p1, _⟩ := I1.tuple qx
  obtain ⟨jts, ry, p2, _⟩ := I1.list qy
  obtain ⟨kts, rz, p3, _⟩ := I1.list qz
  obtain ⟨o1, ho1, _⟩ := id p1
  have B1 := begins_tuple a its.toArray
  have B2 := begins_list b jts.toArray
  have B3 := begins_list c kts.toArray
  refine zip_begins3 B1 B2 B3 (show s1.heap.IsTuple a its.toArray from p1) p2.isList p3.isList fun g z1 z2 z3 z4 z5 z6 _ k => wpAny_pyIter_zip z1 ?_
  have I2 : Inv X pins σ H1 { s1 with heap := g } := I1.kept (t' := s1.toks) k
  refine ⟨s1.heap.objs.size + 5, [s1.heap.objs.size + 5, s1.heap.objs.size + 3, s1.heap.objs.size + 4, s1.heap.objs.size, s1.heap.objs.size + 1, s1.heap.objs.size + 2], _, _, H1, rfl, I2, turn_zip3 (far3 (Heap.lt_size ho1) p2.lt p3.lt), ⟨_, _, _, z1, z2, z3, ⟨_, z4, rfl, rfl⟩, ⟨_, z5, rfl, rfl⟩, ⟨_, z6, rfl, rfl⟩⟩, fun m hm => ?_, q⟩
  have le : s1.heap.objs.size ≤ m := by
    simp only [List.mem_cons, List.not_mem_nil, or_false] at hm
    rcases hm with rfl | rfl | rfl | rfl | rfl | rfl
    all_goals first
      | exact Nat.le_refl _
      | exact Nat.le_add_right _ _
  exact I1.fpOk le (I1.hok.fresh le)
def Y3 (f1 f2 f3 : Nat → Option V) (i : Nat) (H : Hp) (v : V) (H' : Hp) : Prop := ∃ T x y z, v = .ref T ∧ H T = none ∧ H' = L2.upd H T (.tup [x, y, z]) ∧ f1 i = some x ∧ f2 i = some y ∧ f3 i = some z
theorem walk_zip3 {K : PySem.W.Frag} {a b c : Addr} {xs ys zs : List V} {n : Nat} (hx : xs.length = n) (hy : ys.length = n) (hz : zs.length = n) : Walk (Itz3 K a b c) n (fun H => SqT K H a xs ∧ SqL K H b ys ∧ SqL K H c zs) (Y3 (fun i => xs[i]?) (fun i => ys[i]?) fun i => zs[i]?) where
  goes := fun i _ hi q => ⟨xs, ys, zs, xs[i]'(by omega), ys[i]'(by omega), zs[i]'(by omega), q.1, q.2.1, q.2.2, List.getElem?_eq_getElem _, List.getElem?_eq_getElem _, List.getElem?_eq_getElem _⟩
  stops := fun _ q => ⟨xs, ys, zs, q.1, q.2.1, q.2.2, by omega⟩
  yields := fun i H v H' _ q ⟨T, x, y, z, h1, h2, h3, h4, h5, h6⟩ => ⟨T, x, y, z, h1, h2, h3, h4 xs q.1, h5 ys q.2.1, h6 zs q.2.2⟩
end LK

set_option Elab.async false
set_option linter.all false
set_option maxRecDepth 100000
namespace LK
open PySem PySem.Spec PyProof.Rows L2
/-! ### list(d.keys()), the keys tuples -/
section
variable {X : Cx} {e : Expr} {te : TE} {p apos cpos pos : Pos}
def tListKeys (te : TE) : TE := fun σ H Q => te σ H fun x H1 => ∃ (d : Addr) (kvs : List (List L2.Key × V)), x = .ref d ∧ Rd H1 d (.dT kvs) ∧ ∀ (l : Addr) (bs : List Addr), H1 l = none → IsKeys H1 kvs bs → Q (.ref l) (L2.upd H1 l (.lst (bs.map V.ref)))
theorem pe_listKeys (hc : X.calm = true) (he : PE X e te) (hg : Gl X "list") (hm : X.mg "list" = none) (hv : bootBuiltins "list" = some (.type "list")) (hbase : attributeBase e "keys" X.env (eval e X.env) = eval e X.env := by rfl) (hline : (apos.endLine == cpos.line) = true := by rfl)
    (hs : starEach [.Call (.Attribute e "keys" apos) [] [] cpos] X.env = (false, eval (.Call (.Attribute e "keys" apos) [] [] cpos) X.env) :: starEach [] X.env := by rfl) :
    PE X (.Call (.Name "list" p) [.Call (.Attribute e "keys" apos) [] [] cpos] [] pos) (tListKeys te) := by
  refine ⟨fun pins s σ H Q I hq => ?_⟩
  refine wpAny_Call_Name_kw (ld_blt I hg hm hv (PyProof.Rows.callWith_type1 ?_ hs rfl))
  rw [hs]
  change wpAny _ _ (spliced ((false, eval (.Call (.Attribute e "keys" apos) [] [] cpos) X.env) :: backTo pos (starEach [] X.env))) _ _ s
  refine Calls.spliced_cons (wpAny_Call_method (T := "dict") (id := "dict.keys") hbase rfl hline F.plainAttrs_dict F.slot_dict_keys F.type_dict_keys (thn (he.run pins s σ H _ I hq) fun u s1 ⟨x, H1, I1, rx, d, kvs, ex, hd, q⟩ => ?_))
  subst ex
  obtain rfl : u = Value.ref d := rx
  obtain ⟨z, ns, ks, pr, o, es, ep, ho, hx, hdt, en, hn⟩ := (show ObjOk X.prog X.w H1 s1.heap d (.dT kvs) from hd.ok I1.hok)
  have l1 : es.size = ks.length := size_of_entries en
  have l2 : kvs.length = ks.length := Paired.length pr
  have ty : s1.TypeIs (.ref d) "dict" := ⟨o, ho, hx.1⟩
  have raw : s1.heap.DictRaw d es ep := ⟨o, ho, hx, hdt⟩
  have nd := hx.2.1
  have I2 : Inv X pins σ H1 { s1 with heap := s1.heap.push { cls := .type "dict_keys", data := .fields #[.ref d] } } := I1.kept (t' := s1.toks) fun b ob q => Heap.get?_push_of_some _ q
  refine ⟨ty, (fun a e => by cases e; exact ⟨o, ho, nd⟩), ?_⟩
  change wpAny _ _ (callWith cpos (.builtin "dict.keys") [.ref d] [] []) _ X.xe s1
  refine method_meetsIn F.slot_dict_keys F.entry_dict_keys rfl (PySem.evalArgs_none ⟨rfl, ty, F.args_dict_keys_1 _, _, meets_dict_keys_raw d ns, ⟨⟨es, ep, raw⟩, ?_⟩⟩)
  refine Calls.spliced_nil (PySem.W.kdl_call (KdlSrc.rawKeys (es := es) (ep := ep)) (I1.ok.hd hc) ⟨⟨_, Heap.get?_push_size _ rfl, rfl, rfl⟩, raw.push _⟩ (by omega) fun h' tk acc c kp ha it => ?_)
  have ea : acc.toList = (ks.map fun x => x.2.1).map Value.ref := by
    rw [List.map_map]
    refine List.ext_getElem (by rw [Array.length_toList, it.1, l1, List.length_map]) fun j h1 h2 => ?_
    rw [List.length_map] at h2
    obtain ⟨hj, ev⟩ := it.2 j acc.toList[j] (by rw [← Array.getElem?_toList]; exact List.getElem?_eq_getElem h1)
    have e1 := entry_at en j
    rw [Array.getElem?_eq_getElem hj, List.getElem?_eq_getElem h2] at e1
    have e2 : es[j] = entryOfKey (tupleKind (mixKind X.prog X.w)) ks[j] := Option.some.inj e1
    rw [ev, e2, List.getElem_map]
    rfl
  have hz : ((ks.map fun x => x.2.1).map V.ref).length ≤ sizeLine := by rw [List.length_map, List.length_map]; omega
  have nw := I2.hok.fresh (Nat.le_refl _)
  refine ⟨.ref _, _, I2.laid (t' := tk) (o := .lst ((ks.map fun x => x.2.1).map V.ref)) kp (Nat.le_refl _) ⟨hz, acc.toList, c, by rw [ea]; exact vals_refs _, by rw [Array.toArray_toList]; exact ha⟩, rfl, q _ _ nw (isKeys_of pr)⟩
end
/-! ### methods within comprehensions -/
section
variable {X : Cx} {K : PySem.W.Frag} {o e : Expr} {es : List Expr} {to : TE} {t : TA} {name : Str} {apos cpos : Pos} {T id : String} {r : V → List V → Hp → VK → Prop}
theorem pe_bm0K (hK : X.K = K) (pa : PlainAttrs T) (slot : Slot T name id) (hty : typeOf (.builtin id) = pure (.type "method_descriptor")) (hm : MtR X id r) (ho : PE X o to)
    (h1 : attributeBase o name X.env (eval o X.env) = eval o X.env := by rfl) (h2 : (apos.endLine == cpos.line) = true := by rfl) : PE X (.Call (.Attribute o name apos) [] [] cpos) (tBM0 K T r to) := by
  subst hK
  exact pe_bm0 pa slot hty hm ho h1 h2
theorem pe_bmK (hK : X.K = K) (pa : PlainAttrs T) (slot : Slot T name id) (hty : typeOf (.builtin id) = pure (.type "method_descriptor")) (hm : MtR X id r) (ho : PE X o to) (ha : PA X (e :: es) t)
    (h1 : attributeBase o name X.env (eval o X.env) = eval o X.env := by rfl)
    (h2 : ((backTo cpos (starEach (e :: es) X.env)).all (fun x => !x.1) && (backToKw cpos (keywordEach [] X.env)).all (fun x => x.1.isSome) && decide ((e :: es).length + ([] : List Keyword).length + (if ([] : List Keyword).isEmpty then 0 else 1) < 30)) = true := by rfl)
    (h3 : (apos.endLine == cpos.line) = true := by rfl) (h4 : starEach (e :: es) X.env = (false, eval e X.env) :: starEach es X.env := by rfl) (h5 : (backTo cpos (starEach es X.env)).any (·.1) = false := by rfl) :
    PE X (.Call (.Attribute o name apos) (e :: es) [] cpos) (tBM K T r to t) := by
  subst hK
  exact pe_bm pa slot hty hm ho ha h1 h2 h3 h4 h5
end
/-! ### d == e, d != e: dicts with whole keys, the values data -/
def SameD (K : PySem.W.Frag) (H : Hp) (ks ls : List (L2.Key × V)) : Prop := ks.length = ls.length ∧ ∀ p ∈ ks, ∃ (u : V) (d : PyData), valV ls p.1 = some u ∧ Dp K H p.2 d ∧ Dp K H u d ∧ SeqAt.shaped d = true
def rDD (K : PySem.W.Frag) (b : Bool) : R2 := fun x y H Q => ∃ (a c : Addr) (ks ls : List (L2.Key × V)), x = .ref a ∧ y = .ref c ∧ H a = some (.dK ks) ∧ H c = some (.dK ls) ∧ SameD K H ks ls ∧ Q (.bl b) H
section
variable {X : Cx} {pins : List (Addr × Obj)} {σ : L2.St} {H : Hp} {s : Shared}
theorem hits_data (I : Inv X pins σ H s) {A : Around} (hu : A.in1.units + 64 < cLine) {ls : List (L2.Key × V)} {vb : List (L2.Key × Value)} (rb : KV ls vb) {ks : List (L2.Key × V)} {va : List (L2.Key × Value)}
    (ra : KV ks va) : (∀ p ∈ ks, ∃ (u : V) (d : PyData), valV ls p.1 = some u ∧ Dp X.K H p.2 d ∧ Dp X.K H u d ∧ SeqAt.shaped d = true) → PySem.W.KeqHits A.in1 s vb va true := by
  unfold KV at ra
  induction ra with
  | nil => intro _; exact .nil
  | @cons p q ps qs h t ih =>
    intro hp
    obtain ⟨e1, rv⟩ := h
    obtain ⟨u, d, ev, d1, d2, sd⟩ := hp p List.mem_cons_self
    have ro : RelO (some u) (valueAt vb p.1) := by rw [← ev]; exact rb.val p.1
    obtain ⟨y, hy, ry⟩ := ro.some_of
    obtain ⟨key, v⟩ := q
    obtain rfl : p.1 = key := e1
    obtain ⟨as, r1⟩ := Dp.reads I d p.2 v d1 rv
    obtain ⟨bs, r2⟩ := Dp.reads I d u y d2 ry
    have k := PySem.W.keq_at r1 r2 sd sd hu
    rw [SeqAt.eqv_refl d (SeqAt.canLay_of_shaped sd)] at k
    change PySem.W.KeqHits A.in1 s vb ((p.1, v) :: qs) (true && true)
    exact .hit hy k (ih fun p2 m => hp p2 (List.mem_cons_of_mem _ m))
end
section
variable {X : Cx}
theorem op_eqDD (hu : X.A.units + 65 < cLine) : OpR X (compareOp .Eq) (rDD X.K true) := by
  rintro pins s σ H x y v u Q I rx ry ⟨a, c, ks, ls, rfl, rfl, ha, hc, ⟨len, same⟩, q⟩
  obtain rfl : v = Value.ref a := rx
  obtain rfl : u = Value.ref c := ry
  obtain ⟨_, ya, va, ra, da⟩ := (show ObjOk X.prog X.w H s.heap a (.dK ks) from I.hok a _ ha)
  obtain ⟨_, yc, vc, rc, dc⟩ := (show ObjOk X.prog X.w H s.heap c (.dK ls) from I.hok c _ hc)
  have l2 : va.length = vc.length := by rw [← ra.length, ← rc.length]; exact len
  exact PySem.W.keq_eq (knd := mixKind X.prog X.w) (r := true) ya yc da dc (by omega) (fun _ => hits_data I (by show X.A.units + 1 + 64 < cLine; omega) rc ra same) (fin_bl I q (by simp [l2]))
theorem op_neDD (hu : X.A.units + 65 < cLine) : OpR X (compareOp .NotEq) (rDD X.K false) := by
  rintro pins s σ H x y v u Q I rx ry ⟨a, c, ks, ls, rfl, rfl, ha, hc, ⟨len, same⟩, q⟩
  obtain rfl : v = Value.ref a := rx
  obtain rfl : u = Value.ref c := ry
  obtain ⟨_, ya, va, ra, da⟩ := (show ObjOk X.prog X.w H s.heap a (.dK ks) from I.hok a _ ha)
  obtain ⟨_, yc, vc, rc, dc⟩ := (show ObjOk X.prog X.w H s.heap c (.dK ls) from I.hok c _ hc)
  have l2 : va.length = vc.length := by rw [← ra.length, ← rc.length]; exact len
  exact PySem.W.keq_ne (knd := mixKind X.prog X.w) (r := true) ya yc da dc (by omega) (fun _ => hits_data I (by show X.A.units + 1 + 64 < cLine; omega) rc ra same) (fin_bl I q (by simp [l2]))
end
end LK

set_option Elab.async false
set_option linter.all false
set_option maxRecDepth 100000
namespace LK
open PySem PySem.Spec PyProof.Rows L2
def top (i : Nat) : Stmt := PySem.Challenge.pw_lookingnets_k27_peaks_at_points.main.body.getD i (.Pass ⟨0, 0, 0, 0⟩)
local macro_rules | `(tactic| walk_at "rs") => `(tactic| simp only [cxK, cxNK, tCallZ, tAsg, tOp, rI0, rS0, rB0, rI, rU, tUn, rEq, rNe, rIxL, rIxT, rIxS, rSetL, rSlLU, rSlS, rSlU, rCatL, rCatU, rRepL, rIn, tVar, tC, gName, gSub, tIfS, tTest, tB, tAnd, tOr, tNot, tNotV, tAndV, tOrV, tIf, tCall, tCons, tNil, tCB, tDrop, tRet, tRetN, tNext, tLstU, tTupU, tM0, tM1, tPar, tPar3, tAug, ipI, tBM, tBM0, rAppend, rPop, tBreak, sDPut, tDGet, tDGet2, tCont, tChain, tSl, tPart, tNoPart, L2.start, List.map, List.length_cons, List.length_nil, List.replicate, List.cons_append, List.nil_append, List.append_nil, List.getElem?_cons_zero, List.getElem?_cons_succ, List.set_cons_zero, List.set_cons_succ, Option.some.injEq, V.int.injEq, V.ref.injEq, V.str.injEq, V.bl.injEq, exists_eq_left', exists_eq_left, exists_and_left, decide_eq_true_eq, List.cons.injEq, and_true, true_and, scal, Bool.not_eq_true', decide_eq_false_iff_not, Nat.zero_add, Nat.reduceAdd, Nat.reduceSub, reduceCtorEq, false_and, exists_false, false_or, or_false, CPow, CPowW, CMul, CDiv, Int.reduceToNat, ↓reduceIte, wipe, sw, rv3, tListKeys, tDIn, tDNotIn, List.nil_append, List.singleton_append])
local macro_rules | `(tactic| walk_at "st") => `(tactic| (refine seq_op fun N hN => ?_; walk_at "rs"))
local macro_rules | `(tactic| walk_at "sd") => `(tactic| first | assumption | decide | omega)
local macro_rules | `(tactic| walk_at "rd") => `(tactic| repeat (first
  | refine ⟨_, SqL.of (by assumption), ?_⟩ | refine ⟨_, SqL.of upd_same, ?_⟩ | refine ⟨_, .inl (SqL.of (by assumption)), ?_⟩ | refine ⟨_, (by assumption : _ = some (HO.lst _)), ?_⟩ | refine ⟨_, upd_same, ?_⟩
  | refine ⟨_, rfl, ?_⟩ | refine And.intro (by walk_at "sd") ?_))

abbrev s_BadValue : Stmt := inClass (top 3) 0
abbrev N_BadValue : List Str := ["self", "value"]
theorem sc_BadValue : FnScope N_BadValue ["self", "value"] (defScope s_BadValue) := ⟨rfl, rfl, rfl, by decide +kernel, rfl, by decide +kernel, by decide +kernel⟩
abbrev s_is_number : Stmt := top 7
abbrev N_is_number : List Str := ["value"]
theorem sc_is_number : FnScope N_is_number ["value"] (defScope s_is_number) := ⟨rfl, rfl, rfl, by decide +kernel, rfl, by decide +kernel, by decide +kernel⟩

abbrev s_is_fraction : Stmt := top 8
abbrev N_is_fraction : List Str := ["value", "p", "q"]
theorem sc_is_fraction : FnScope N_is_fraction ["value"] (defScope s_is_fraction) := ⟨rfl, rfl, rfl, by decide +kernel, rfl, by decide +kernel, by decide +kernel⟩

abbrev s_fraction : Stmt := top 9
abbrev N_fraction : List Str := ["p", "q", "divisor"]
theorem sc_fraction : FnScope N_fraction ["p", "q"] (defScope s_fraction) := ⟨rfl, rfl, rfl, by decide +kernel, rfl, by decide +kernel, by decide +kernel⟩

abbrev s_plus : Stmt := top 10
abbrev N_plus : List Str := ["a", "b"]
theorem sc_plus : FnScope N_plus ["a", "b"] (defScope s_plus) := ⟨rfl, rfl, rfl, by decide +kernel, rfl, by decide +kernel, by decide +kernel⟩

abbrev s_minus : Stmt := top 11
abbrev N_minus : List Str := ["a", "b"]
theorem sc_minus : FnScope N_minus ["a", "b"] (defScope s_minus) := ⟨rfl, rfl, rfl, by decide +kernel, rfl, by decide +kernel, by decide +kernel⟩

abbrev s_quotient : Stmt := top 12
abbrev N_quotient : List Str := ["a", "b"]
theorem sc_quotient : FnScope N_quotient ["a", "b"] (defScope s_quotient) := ⟨rfl, rfl, rfl, by decide +kernel, rfl, by decide +kernel, by decide +kernel⟩

abbrev s_floor_of : Stmt := top 13
abbrev N_floor_of : List Str := ["a"]
theorem sc_floor_of : FnScope N_floor_of ["a"] (defScope s_floor_of) := ⟨rfl, rfl, rfl, by decide +kernel, rfl, by decide +kernel, by decide +kernel⟩

abbrev s_normal_entries : Stmt := top 15
abbrev N_normal_entries : List Str := ["entries", "sums", "column", "factor"]
theorem sc_normal_entries : FnScope N_normal_entries ["entries"] (defScope s_normal_entries) := ⟨rfl, rfl, rfl, by decide +kernel, rfl, by decide +kernel, by decide +kernel⟩

abbrev s_normal_triples : Stmt := top 16
abbrev N_normal_triples : List Str := ["triples", "sums", "left", "right", "factor", "pair"]
theorem sc_normal_triples : FnScope N_normal_triples ["triples"] (defScope s_normal_triples) := ⟨rfl, rfl, rfl, by decide +kernel, rfl, by decide +kernel, by decide +kernel⟩

abbrev s_normal_part : Stmt := top 17
abbrev N_normal_part : List Str := ["kind", "part"]
theorem sc_normal_part : FnScope N_normal_part ["kind", "part"] (defScope s_normal_part) := ⟨rfl, rfl, rfl, by decide +kernel, rfl, by decide +kernel, by decide +kernel⟩

abbrev s_unit_of : Stmt := top 19
abbrev N_unit_of : List Str := ["columns", "rest", "steep", "shift", "givings", "terms", "column"]
theorem sc_unit_of : FnScope N_unit_of ["columns", "rest", "steep", "shift", "givings"] (defScope s_unit_of) := ⟨rfl, rfl, rfl, by decide +kernel, rfl, by decide +kernel, by decide +kernel⟩

abbrev s_peak_units : Stmt := top 20
abbrev N_peak_units : List Str := ["points", "scratch", "rest", "at", "steep", "givings", "i", "column", "up", "down", "units", "point", "gifts", "_"]
theorem sc_peak_units : FnScope N_peak_units ["points", "scratch", "rest"] (defScope s_peak_units) := ⟨rfl, rfl, rfl, by decide +kernel, rfl, by decide +kernel, by decide +kernel⟩

abbrev s__law_bag : Stmt := top 22
abbrev N__law_bag : List Str := ["script", "mixed", "cell"]
theorem sc__law_bag : FnScope N__law_bag ["script"] (defScope s__law_bag) := ⟨rfl, rfl, rfl, by decide +kernel, rfl, by decide +kernel, by decide +kernel⟩

abbrev s__law_draw : Stmt := top 23
abbrev N__law_draw : List Str := ["bag", "size", "cell", "digit"]
theorem sc__law_draw : FnScope N__law_draw ["bag", "size"] (defScope s__law_draw) := ⟨rfl, rfl, rfl, by decide +kernel, rfl, by decide +kernel, by decide +kernel⟩

abbrev s__law_of : Stmt := top 24
abbrev N__law_of : List Str := ["bag", "things"]
theorem sc__law_of : FnScope N__law_of ["bag", "things"] (defScope s__law_of) := ⟨rfl, rfl, rfl, by decide +kernel, rfl, by decide +kernel, by decide +kernel⟩

abbrev s__law_like : Stmt := top 25
abbrev N__law_like : List Str := ["got", "due", "one", "two"]
theorem sc__law_like : FnScope N__law_like ["got", "due"] (defScope s__law_like) := ⟨rfl, rfl, rfl, by decide +kernel, rfl, by decide +kernel, by decide +kernel⟩

abbrev s__law_low : Stmt := top 26
abbrev N__law_low : List Str := ["top", "low", "one", "two"]
theorem sc__law_low : FnScope N__law_low ["top", "low"] (defScope s__law_low) := ⟨rfl, rfl, rfl, by decide +kernel, rfl, by decide +kernel, by decide +kernel⟩

abbrev s__law_plus : Stmt := top 27
abbrev N__law_plus : List Str := ["one", "two"]
theorem sc__law_plus : FnScope N__law_plus ["one", "two"] (defScope s__law_plus) := ⟨rfl, rfl, rfl, by decide +kernel, rfl, by decide +kernel, by decide +kernel⟩

abbrev s__law_times : Stmt := top 28
abbrev N__law_times : List Str := ["one", "two"]
theorem sc__law_times : FnScope N__law_times ["one", "two"] (defScope s__law_times) := ⟨rfl, rfl, rfl, by decide +kernel, rfl, by decide +kernel, by decide +kernel⟩

abbrev s__law_over : Stmt := top 29
abbrev N__law_over : List Str := ["one", "two"]
theorem sc__law_over : FnScope N__law_over ["one", "two"] (defScope s__law_over) := ⟨rfl, rfl, rfl, by decide +kernel, rfl, by decide +kernel, by decide +kernel⟩

abbrev s__law_minus : Stmt := top 30
abbrev N__law_minus : List Str := ["one", "two"]
theorem sc__law_minus : FnScope N__law_minus ["one", "two"] (defScope s__law_minus) := ⟨rfl, rfl, rfl, by decide +kernel, rfl, by decide +kernel, by decide +kernel⟩

abbrev s__law_gap : Stmt := top 31
abbrev N__law_gap : List Str := ["one", "two"]
theorem sc__law_gap : FnScope N__law_gap ["one", "two"] (defScope s__law_gap) := ⟨rfl, rfl, rfl, by decide +kernel, rfl, by decide +kernel, by decide +kernel⟩

abbrev s__law_normal : Stmt := top 32
abbrev N__law_normal : List Str := ["things", "sums", "one", "key"]
theorem sc__law_normal : FnScope N__law_normal ["things"] (defScope s__law_normal) := ⟨rfl, rfl, rfl, by decide +kernel, rfl, by decide +kernel, by decide +kernel⟩

abbrev s__law_gifts : Stmt := top 33
abbrev N__law_gifts : List Str := ["units", "content", "given", "unit", "height", "term", "giving", "key"]
theorem sc__law_gifts : FnScope N__law_gifts ["units", "content"] (defScope s__law_gifts) := ⟨rfl, rfl, rfl, by decide +kernel, rfl, by decide +kernel, by decide +kernel⟩

abbrev s__law_points : Stmt := top 34
abbrev N__law_points : List Str := ["bag", "pool", "at", "some", "k", "base", "way", "places", "found", "one"]
theorem sc__law_points : FnScope N__law_points ["bag"] (defScope s__law_points) := ⟨rfl, rfl, rfl, by decide +kernel, rfl, by decide +kernel, by decide +kernel⟩

abbrev s__law_tent : Stmt := top 35
abbrev N__law_tent : List Str := ["low", "top", "high", "at"]
theorem sc__law_tent : FnScope N__law_tent ["low", "top", "high", "at"] (defScope s__law_tent) := ⟨rfl, rfl, rfl, by decide +kernel, rfl, by decide +kernel, by decide +kernel⟩

abbrev s__law_due : Stmt := top 36
abbrev N__law_due : List Str := ["some", "levels", "at", "gifts", "k", "pair"]
theorem sc__law_due : FnScope N__law_due ["some", "levels", "at"] (defScope s__law_due) := ⟨rfl, rfl, rfl, by decide +kernel, rfl, by decide +kernel, by decide +kernel⟩

abbrev s__law_right : Stmt := top 37
abbrev N__law_right : List Str := ["bag", "some", "mark", "last", "passed", "got", "levels", "wide", "terms", "unit", "level", "asked", "low", "high", "share", "at", "pair"]
theorem sc__law_right : FnScope N__law_right ["bag"] (defScope s__law_right) := ⟨rfl, rfl, rfl, by decide +kernel, rfl, by decide +kernel, by decide +kernel⟩

abbrev s_law : Stmt := top 38
abbrev N_law : List Str := ["script", "bag", "turn"]
theorem sc_law : FnScope N_law ["script"] (defScope s_law) := ⟨rfl, rfl, rfl, by decide +kernel, rfl, by decide +kernel, by decide +kernel⟩

mutual
def okD : PyData → Bool
  | .none => true | .bool _ => true | .int _ => true
  | .str z => decide (z.length ≤ 100000)
  | .list ds => decide (ds.length ≤ 100000) && okAll ds
  | .tuple ds => decide (ds.length ≤ 100000) && okAll ds
  | .dict _ => false
def okAll : List PyData → Bool
  | [] => true
  | d :: ds => okD d && okAll ds
end
theorem okD_tup {ds : List PyData} : okD (.tuple ds) = true ↔ ds.length ≤ 100000 ∧ okAll ds = true := by
  show (decide (ds.length ≤ 100000) && okAll ds) = true ↔ _
  rw [Bool.and_eq_true, decide_eq_true_iff]
theorem okD_lst {ds : List PyData} : okD (.list ds) = true ↔ ds.length ≤ 100000 ∧ okAll ds = true := by
  show (decide (ds.length ≤ 100000) && okAll ds) = true ↔ _
  rw [Bool.and_eq_true, decide_eq_true_iff]
mutual
def dep : PyData → Nat
  | .none => 0 | .bool _ => 0 | .int _ => 0 | .str _ => 0
  | .list ds => depAll ds + 1
  | .tuple ds => depAll ds + 1
  | .dict _ => 0
def depAll : List PyData → Nat
  | [] => 0
  | d :: ds => max (dep d) (depAll ds)
end
def spP (K : PySem.W.Frag) (F : PyData → V) : Sp := fun vs H Q _ => ∃ v d, vs = [v] ∧ Dp K H v d ∧ okD d = true ∧ ∀ H', Same H H' → Q (F d) H'
def SeqV (K : PySem.W.Frag) (G : Hp) (x : V) (ys : List V) : Prop := (∃ p, x = .ref p ∧ SqL K G p ys) ∨ (∃ p, x = .ref p ∧ SqT K G p ys) ∨ ∃ z, x = .str z ∧ z.length ≤ 100000 ∧ ys = z.cps.toList.map fun c => V.str ⟨#[c]⟩
def sp__law_bag (K : PySem.W.Frag) : Sp := fun vs H Q _ => ∃ (a : Addr) (ns : List Int), vs = [.ref a] ∧ SqL K H a (ns.map V.int) ∧ ns.length ≤ 63 ∧ ∀ b c H', Same H H' → Bag 0 H' b c → H b = none → Q (.ref b) H'
def sp__law_draw : Sp := fun vs H Q _ => ∃ (b c : Addr) (n : Int) (N : Nat), vs = [.ref b, .int n] ∧ Bag (N + 1) H b c ∧ 0 < n ∧ n < 1073741824 ∧ ∀ (r : Int) H', 0 ≤ r → r < n → Bag N H' b c → Kp b H H' → Q (.int r) H'
def sp__law_of (K : PySem.W.Frag) : Sp := fun vs H Q _ => ∃ (b c : Addr) (x : V) (ys : List V) (N : Nat), vs = [.ref b, x] ∧ Bag (N + 1) H b c ∧ SeqV K H x ys ∧ SeqV K (hb H b) x ys ∧ ys ≠ [] ∧ ys.length ≤ 1000000 ∧ ∀ y H', y ∈ ys → Bag N H' b c → Kp b H H' → Q y H'
def sp__law_like (K : PySem.W.Frag) (n : Nat) : Sp := fun vs H Q _ => ∃ v u d, vs = [v, u] ∧ Dp K H v d ∧ Dp K H u d ∧ okD d = true ∧ dep d ≤ n ∧ ∀ H', Same H H' → Q (.bl true) H'
def rv3 {α : Type} : List α → List α
  | [x, y, z] => [z, y, x]
  | l => l
theorem rv3_rel : ∀ {zs : List V} {ws : List Value}, Vals zs ws → Vals (rv3 zs) (rv3 ws)
  | _, _, .nil => .nil
  | _, _, .cons a .nil => .cons a .nil
  | _, _, .cons a (.cons b .nil) => .cons a (.cons b .nil)
  | _, _, .cons a (.cons b (.cons c .nil)) => .cons c (.cons b (.cons a .nil))
  | _, _, .cons a (.cons b (.cons c (.cons d r))) => .cons a (.cons b (.cons c (.cons d r)))
def sw {α : Type} : List α → List α
  | [x, y] => [y, x]
  | l => l
theorem sw_rel : ∀ {zs : List V} {ws : List Value}, Vals zs ws → Vals (sw zs) (sw ws)
  | _, _, .nil => .nil
  | _, _, .cons a .nil => .cons a .nil
  | _, _, .cons a (.cons b .nil) => .cons b (.cons a .nil)
  | _, _, .cons a (.cons b (.cons c r)) => .cons a (.cons b (.cons c r))
/-! ### wide whole numbers -/
def CDivF (_ j : Int) : Prop := j ≠ 0 ∧ j.natAbs.log2 < 9000
theorem op_fdivF {X : Cx} : OpR X (binaryOp .FloorDiv) (rI CDivF fun i j => .int (i.fdiv j)) := opI fun _ _ _ _ _ _ _ hc q => floordiv_int hc.1 q (.inl (PyProof.noPylong_of_log2 hc.2))
/-- powers of wide numbers -/
def CPowW (i j : Int) : Prop := 0 ≤ j ∧ j ≤ 100 ∧ i.natAbs < 2 ^ 100
theorem op_powW {X : Cx} : OpR X (binaryOp .Pow) (rI CPowW fun i j => .int (i ^ j.toNat)) := opI fun i j _ _ _ _ _ hc q => by
  obtain ⟨h0, h1, h2⟩ := hc
  refine pow_int h0 ?_ q
  have hb : Builtin.Int.intBits i ≤ 100 := by
    unfold Builtin.Int.intBits
    split
    · exact Nat.zero_le _
    · have := PySem.Flt.log2_lt_of (n := i.natAbs) (by decide : 0 < 100) h2
      omega
  have : (Builtin.Int.intBits i : Int) * j ≤ 100 * 100 := Int.mul_le_mul (by omega) h1 h0 (by decide)
  exact Int.le_trans this (by decide)
theorem op_fdivU {X : Cx} : OpR X (binaryOp .FloorDiv) (rI CDivW fun i j => .int (i / j)) := op_fdivW
structure Txt (w : World) (K : PySem.W.Frag) (mg : Str → Option Value) where
  n_len : mg "len" = none
  n_int : mg "int" = none
  n_list : mg "list" = none
  n_tuple : mg "tuple" = none
  n_bool : mg "bool" = none
  n_str : mg "str" = none
  n_dict : mg "dict" = none
  n_isinstance : mg "isinstance" = none
  n_all : mg "all" = none
  n_range : mg "range" = none
  n_zip : mg "zip" = none
  n_abs : mg "abs" = none
  n_sorted : mg "sorted" = none
  n_enumerate : mg "enumerate" = none
  m_gcd : mg "gcd" = some (.builtin "math.gcd")
  a_ZERO : Addr
  m_ZERO : mg "ZERO" = some (.ref a_ZERO)
  s_ZERO : ∀ H, SqT K H a_ZERO [.int 0, .int 1]
  a_ONE : Addr
  m_ONE : mg "ONE" = some (.ref a_ONE)
  s_ONE : ∀ H, SqT K H a_ONE [.int 1, .int 1]
  C_BadValue : Addr
  f_BadValue : Addr
  d_BadValue : FuncData
  m_BadValue : mg "BadValue" = some (.ref C_BadValue)
  X_BadValue : OexC K C_BadValue
  i_BadValue : PySem.W.findIn K (.ref C_BadValue) "__init__" = some (some (.ref f_BadValue))
  t_BadValue : PySem.W.typeIn K (.ref f_BadValue) = some (.type "function")
  F_BadValue : Fun K "__init__" "BadValue.__init__" s_BadValue f_BadValue d_BadValue
  B_BadValue__init : Binds K d_BadValue ["self", "value"] []
  v_BadValue : PySem.W.findIn K (.ref C_BadValue) "value" = some none
  c_BadValue : PySem.W.findIn K (.ref C_BadValue) "code" = some none
  a_is_number : Addr
  d_is_number : FuncData
  F_is_number : Fun K "is_number" "is_number" s_is_number a_is_number d_is_number
  m_is_number : mg "is_number" = some (.ref a_is_number)
  B_is_number : Binds K d_is_number ["value"] []
  a_is_fraction : Addr
  d_is_fraction : FuncData
  F_is_fraction : Fun K "is_fraction" "is_fraction" s_is_fraction a_is_fraction d_is_fraction
  m_is_fraction : mg "is_fraction" = some (.ref a_is_fraction)
  B_is_fraction : Binds K d_is_fraction ["value"] []
  a_fraction : Addr
  d_fraction : FuncData
  F_fraction : FunD K "fraction" "fraction" (defArgs s_fraction) (defBody s_fraction) (defScope s_fraction) [.int 1] [] a_fraction d_fraction
  m_fraction : mg "fraction" = some (.ref a_fraction)
  B_fraction : Binds K d_fraction ["p", "q"] []
  a_plus : Addr
  d_plus : FuncData
  F_plus : Fun K "plus" "plus" s_plus a_plus d_plus
  m_plus : mg "plus" = some (.ref a_plus)
  B_plus : Binds K d_plus ["a", "b"] []
  a_minus : Addr
  d_minus : FuncData
  F_minus : Fun K "minus" "minus" s_minus a_minus d_minus
  m_minus : mg "minus" = some (.ref a_minus)
  B_minus : Binds K d_minus ["a", "b"] []
  a_quotient : Addr
  d_quotient : FuncData
  F_quotient : Fun K "quotient" "quotient" s_quotient a_quotient d_quotient
  m_quotient : mg "quotient" = some (.ref a_quotient)
  B_quotient : Binds K d_quotient ["a", "b"] []
  a_floor_of : Addr
  d_floor_of : FuncData
  F_floor_of : Fun K "floor_of" "floor_of" s_floor_of a_floor_of d_floor_of
  m_floor_of : mg "floor_of" = some (.ref a_floor_of)
  B_floor_of : Binds K d_floor_of ["a"] []
  a_normal_entries : Addr
  d_normal_entries : FuncData
  F_normal_entries : Fun K "normal_entries" "normal_entries" s_normal_entries a_normal_entries d_normal_entries
  m_normal_entries : mg "normal_entries" = some (.ref a_normal_entries)
  B_normal_entries : Binds K d_normal_entries ["entries"] []
  a_normal_triples : Addr
  d_normal_triples : FuncData
  F_normal_triples : Fun K "normal_triples" "normal_triples" s_normal_triples a_normal_triples d_normal_triples
  m_normal_triples : mg "normal_triples" = some (.ref a_normal_triples)
  B_normal_triples : Binds K d_normal_triples ["triples"] []
  a_normal_part : Addr
  d_normal_part : FuncData
  F_normal_part : Fun K "normal_part" "normal_part" s_normal_part a_normal_part d_normal_part
  m_normal_part : mg "normal_part" = some (.ref a_normal_part)
  B_normal_part : Binds K d_normal_part ["kind", "part"] []
  a_unit_of : Addr
  d_unit_of : FuncData
  F_unit_of : Fun K "unit_of" "unit_of" s_unit_of a_unit_of d_unit_of
  m_unit_of : mg "unit_of" = some (.ref a_unit_of)
  B_unit_of : Binds K d_unit_of ["columns", "rest", "steep", "shift", "givings"] []
  a_peak_units : Addr
  d_peak_units : FuncData
  F_peak_units : Fun K "peak_units" "peak_units" s_peak_units a_peak_units d_peak_units
  m_peak_units : mg "peak_units" = some (.ref a_peak_units)
  B_peak_units : Binds K d_peak_units ["points", "scratch", "rest"] []
  a__law_bag : Addr
  d__law_bag : FuncData
  F__law_bag : Fun K "_law_bag" "_law_bag" s__law_bag a__law_bag d__law_bag
  m__law_bag : mg "_law_bag" = some (.ref a__law_bag)
  B__law_bag : Binds K d__law_bag ["script"] []
  a__law_draw : Addr
  d__law_draw : FuncData
  F__law_draw : Fun K "_law_draw" "_law_draw" s__law_draw a__law_draw d__law_draw
  m__law_draw : mg "_law_draw" = some (.ref a__law_draw)
  B__law_draw : Binds K d__law_draw ["bag", "size"] []
  a__law_of : Addr
  d__law_of : FuncData
  F__law_of : Fun K "_law_of" "_law_of" s__law_of a__law_of d__law_of
  m__law_of : mg "_law_of" = some (.ref a__law_of)
  B__law_of : Binds K d__law_of ["bag", "things"] []
  a__law_like : Addr
  d__law_like : FuncData
  F__law_like : Fun K "_law_like" "_law_like" s__law_like a__law_like d__law_like
  m__law_like : mg "_law_like" = some (.ref a__law_like)
  B__law_like : Binds K d__law_like ["got", "due"] []
  a__law_low : Addr
  d__law_low : FuncData
  F__law_low : Fun K "_law_low" "_law_low" s__law_low a__law_low d__law_low
  m__law_low : mg "_law_low" = some (.ref a__law_low)
  B__law_low : Binds K d__law_low ["top", "low"] []
  a__law_plus : Addr
  d__law_plus : FuncData
  F__law_plus : Fun K "_law_plus" "_law_plus" s__law_plus a__law_plus d__law_plus
  m__law_plus : mg "_law_plus" = some (.ref a__law_plus)
  B__law_plus : Binds K d__law_plus ["one", "two"] []
  a__law_times : Addr
  d__law_times : FuncData
  F__law_times : Fun K "_law_times" "_law_times" s__law_times a__law_times d__law_times
  m__law_times : mg "_law_times" = some (.ref a__law_times)
  B__law_times : Binds K d__law_times ["one", "two"] []
  a__law_over : Addr
  d__law_over : FuncData
  F__law_over : Fun K "_law_over" "_law_over" s__law_over a__law_over d__law_over
  m__law_over : mg "_law_over" = some (.ref a__law_over)
  B__law_over : Binds K d__law_over ["one", "two"] []
  a__law_minus : Addr
  d__law_minus : FuncData
  F__law_minus : Fun K "_law_minus" "_law_minus" s__law_minus a__law_minus d__law_minus
  m__law_minus : mg "_law_minus" = some (.ref a__law_minus)
  B__law_minus : Binds K d__law_minus ["one", "two"] []
  a__law_gap : Addr
  d__law_gap : FuncData
  F__law_gap : Fun K "_law_gap" "_law_gap" s__law_gap a__law_gap d__law_gap
  m__law_gap : mg "_law_gap" = some (.ref a__law_gap)
  B__law_gap : Binds K d__law_gap ["one", "two"] []
  a__law_normal : Addr
  d__law_normal : FuncData
  F__law_normal : Fun K "_law_normal" "_law_normal" s__law_normal a__law_normal d__law_normal
  m__law_normal : mg "_law_normal" = some (.ref a__law_normal)
  B__law_normal : Binds K d__law_normal ["things"] []
  a__law_gifts : Addr
  d__law_gifts : FuncData
  F__law_gifts : Fun K "_law_gifts" "_law_gifts" s__law_gifts a__law_gifts d__law_gifts
  m__law_gifts : mg "_law_gifts" = some (.ref a__law_gifts)
  B__law_gifts : Binds K d__law_gifts ["units", "content"] []
  a__law_points : Addr
  d__law_points : FuncData
  F__law_points : Fun K "_law_points" "_law_points" s__law_points a__law_points d__law_points
  m__law_points : mg "_law_points" = some (.ref a__law_points)
  B__law_points : Binds K d__law_points ["bag"] []
  a__law_tent : Addr
  d__law_tent : FuncData
  F__law_tent : Fun K "_law_tent" "_law_tent" s__law_tent a__law_tent d__law_tent
  m__law_tent : mg "_law_tent" = some (.ref a__law_tent)
  B__law_tent : Binds K d__law_tent ["low", "top", "high", "at"] []
  a__law_due : Addr
  d__law_due : FuncData
  F__law_due : Fun K "_law_due" "_law_due" s__law_due a__law_due d__law_due
  m__law_due : mg "_law_due" = some (.ref a__law_due)
  B__law_due : Binds K d__law_due ["some", "levels", "at"] []
  a__law_right : Addr
  d__law_right : FuncData
  F__law_right : Fun K "_law_right" "_law_right" s__law_right a__law_right d__law_right
  m__law_right : mg "_law_right" = some (.ref a__law_right)
  B__law_right : Binds K d__law_right ["bag"] []
  a_law : Addr
  d_law : FuncData
  F_law : Fun K "law" "law" s_law a_law d_law
  m_law : mg "law" = some (.ref a_law)
  B_law : Binds K d_law ["script"] []
  D_fraction : ∃ ds, Vals [.int 1] ds ∧ Binds K d_fraction ["p", "q"] ds
  Z_peak_units : KBn K d_peak_units ["points", "scratch", "rest"] 0 ["rest", "scratch", "points"] (fun _ ws => rv3 ws) (fun _ zs => rv3 zs)

end LK

set_option Elab.async false
set_option linter.all false
set_option maxRecDepth 100000
namespace LK
open PySem PySem.Spec PyProof.Rows L2
local macro_rules | `(tactic| walk_at "rs") => `(tactic| simp only [cxK, cxNK, tCallZ, tAsg, tOp, rI0, rS0, rB0, rI, rU, tUn, rEq, rNe, rIxL, rIxT, rIxS, rSetL, rSlLU, rSlS, rSlU, rCatL, rCatU, rRepL, rIn, tVar, tC, gName, gSub, tIfS, tTest, tB, tAnd, tOr, tNot, tNotV, tAndV, tOrV, tIf, tCall, tCons, tNil, tCB, tDrop, tRet, tRetN, tNext, tLstU, tTupU, tM0, tM1, tPar, tPar3, tAug, ipI, tBM, tBM0, rAppend, rPop, tBreak, sDPut, tDGet, tDGet2, tCont, tChain, tSl, tPart, tNoPart, L2.start, List.map, List.length_cons, List.length_nil, List.replicate, List.cons_append, List.nil_append, List.append_nil, List.getElem?_cons_zero, List.getElem?_cons_succ, List.set_cons_zero, List.set_cons_succ, Option.some.injEq, V.int.injEq, V.ref.injEq, V.str.injEq, V.bl.injEq, exists_eq_left', exists_eq_left, exists_and_left, decide_eq_true_eq, List.cons.injEq, and_true, true_and, scal, Bool.not_eq_true', decide_eq_false_iff_not, Nat.zero_add, Nat.reduceAdd, Nat.reduceSub, reduceCtorEq, false_and, exists_false, false_or, or_false, CPow, CPowW, CMul, CDiv, Int.reduceToNat, ↓reduceIte, wipe, sw, rv3, tListKeys, tDIn, tDNotIn, List.nil_append, List.singleton_append])
local macro_rules | `(tactic| walk_at "st") => `(tactic| (refine seq_op fun N hN => ?_; walk_at "rs"))
local macro_rules | `(tactic| walk_at "sd") => `(tactic| first | assumption | decide | omega)
local macro_rules | `(tactic| walk_at "rd") => `(tactic| repeat (first
  | refine ⟨_, SqL.of (by assumption), ?_⟩ | refine ⟨_, SqL.of upd_same, ?_⟩ | refine ⟨_, .inl (SqL.of (by assumption)), ?_⟩ | refine ⟨_, (by assumption : _ = some (HO.lst _)), ?_⟩ | refine ⟨_, upd_same, ?_⟩
  | refine ⟨_, rfl, ?_⟩ | refine And.intro (by walk_at "sd") ?_))

def spV (sp : List V → Hp → VK → Prop) : Sp := fun vs H Q _ => sp vs H Q
/-- the two fields of a BadValue -/
def badF (v : V) : List (Str × V) := [("code", .str "BadValue"), ("value", v)]
def sp_BadValue (C : Addr) : Sp := fun vs H Q _ => ∃ (a : Addr) (v : V), vs = [.ref a, v] ∧ H a = some (exo a C none) ∧
  ∀ dx, H dx = none → dx ≠ a → Q .non (L2.upd (L2.upd (L2.upd H dx (exd dx [("value", v)])) a (exo a C (some dx))) dx (exd dx (badF v)))
def isNum : PyData → Bool
  | .int _ => true
  | _ => false
def spP1 (K : PySem.W.Frag) (F : PyData → V) : Sp := fun vs H Q _ => ∃ v d, vs = [v] ∧ Dp K H v d ∧ ∀ H', Same H H' → Q (F d) H'
section
variable {P : Program} {w : World} {K : PySem.W.Frag} {mg : Str → Option Value} {base : Heap}
theorem ok_BadValue (T : Txt w K mg) : FnOk P w K mg base CX0 1 T.f_BadValue T.d_BadValue ["self", "value"] (sp_BadValue T.C_BadValue) := by
  refine T.F_BadValue.ok sc_BadValue (fun vs H Q E h => ?_) (fun cdv A outer s H vs Q E hr h => ?_)
  · obtain ⟨a, v, rfl, _⟩ := h
    rfl
  · obtain ⟨a, v, rfl, ha, k⟩ := h
    refine ⟨_, pss_cons (ps_ost (pv 0) (pv 1)) (pss_one (ps_ost (pv 0) pe_str)), ?_⟩
    refine seq_op fun N hN => ?_
    unfold tOst
    walk_at "rs"
    refine ⟨T.C_BadValue, T.X_BadValue, T.v_BadValue, .inl ⟨ha, fun dx hdx ne => hN _ _ ?_⟩⟩
    clear hN N
    unfold tOst
    walk_at "rs"
    refine ⟨T.C_BadValue, T.X_BadValue, T.c_BadValue, .inr ⟨dx, upd_same, [("value", v)], by rw [upd_ne ne]; exact upd_same, by simp, k dx hdx ne⟩⟩
theorem ok_is_number (T : Txt w K mg) : FnOk P w K mg base CX0 1 T.a_is_number T.d_is_number ["value"] (spP1 K fun d => .bl (isNum d)) := by
  refine T.F_is_number.ok sc_is_number (fun vs H Q E h => ?_) (fun cdv A outer s H vs Q E hr h => ?_)
  · obtain ⟨v, d, rfl, _⟩ := h
    rfl
  · obtain ⟨v, d, rfl, hD, k⟩ := h
    refine ⟨_, (pss_one (ps_ret (pe_and (pe_callB (call_isiDK (K := K) rfl) (by rfl) T.n_isinstance (by decide +kernel) (pa_cons (pv 0) (pa_cons (pe_bltn (v := .ty "int") (u := .type "int") (by rfl) T.n_int (by decide +kernel) rfl) pa_nil))) (pe_one (pe_not (pe_callB (call_isiDK (K := K) rfl) (by rfl) T.n_isinstance (by decide +kernel) (pa_cons (pv 0) (pa_cons (pe_bltn (v := .ty "bool") (u := .type "bool") (by rfl) T.n_bool (by decide +kernel) rfl) pa_nil)))))))), ?_⟩
    walk_at "rs"
    refine ⟨v, "int", ⟨rfl, rfl⟩, d, hD, by decide, ite2 (fun h => ⟨v, "bool", ⟨rfl, rfl⟩, d, hD, by decide, ?_⟩) (fun h => ?_)⟩
    · have e : isNum d = !isTy "bool" d := by cases d <;> first | rfl | cases h
      rw [← e]; exact k H (Same.refl _)
    · have e : isNum d = false := by cases d <;> first | rfl | (exact absurd rfl h)
      have q : Q (.bl (isNum d)) H := k H (Same.refl _)
      rw [e] at q; exact q
/-! ### lowest terms -/
def frG (p q : Int) : Int := if q < 0 then -((Nat.gcd p.natAbs q.natAbs : Nat) : Int) else ((Nat.gcd p.natAbs q.natAbs : Nat) : Int)
def frP (p q : Int) : Int := p.fdiv (frG p q)
def frQ (p q : Int) : Int := q.fdiv (frG p q)
def sp_fraction (C : Addr) : Sp := fun vs H Q E => ∃ p q : Int, vs = [.int p, .int q] ∧ p.natAbs.log2 < 9000 ∧ q.natAbs.log2 < 9000 ∧
  (q ≠ 0 → ∀ t H', Same H H' → H t = none → H' t = some (.tup [.int (frP p q), .int (frQ p q)]) → Q (.ref t) H') ∧
  (q = 0 → ∀ d H', Same H H' → H d = none → H' d = some (.xd (badF (.int q))) → E (.ref C) (some d) H')
theorem gcd_log {p q : Int} (h : q ≠ 0) : (Nat.gcd p.natAbs q.natAbs).log2 ≤ q.natAbs.log2 := by
  have h0 : q.natAbs ≠ 0 := by omega
  have le : Nat.gcd p.natAbs q.natAbs ≤ q.natAbs := Nat.le_of_dvd (by omega) (Nat.gcd_dvd_right _ _)
  have g0 : Nat.gcd p.natAbs q.natAbs ≠ 0 := fun e => h0 (Nat.eq_zero_of_gcd_eq_zero_right e)
  exact (Nat.le_log2 h0).mpr (Nat.le_trans (Nat.log2_self_le g0) le)
theorem mk_bad {C : Addr} {H1 : Hp} {v : V} {Qx : XK} (k : ∀ d H', Same H1 H' → H1 d = none → H' d = some (.xd (badF v)) → Qx (.ref C) (some d) H') : ∀ a, H1 a = none → sp_BadValue C (.ref a :: ([v] ++ [])) (L2.upd H1 a (exo a C none)) (fun v2 H2 => v2 = .non ∧ ∃ (d : Addr) (fs : List (Str × V)), H2 a = some (exo a C (some d)) ∧ H2 d = some (exd d fs) ∧ H1 d = none ∧ Qx (.ref C) (some d) (L2.upd (del H2 a) d (.xd fs))) E0 := by
  intro a ha
  refine ⟨a, v, rfl, upd_same, fun dx hdx ne => ⟨rfl, dx, badF v, ?_, upd_same, ?_, k dx _ ?_ ?_ upd_same⟩⟩
  · rw [upd_ne (Ne.symm ne), upd_same]
  · rw [upd_ne ne] at hdx; exact hdx
  · intro b o e
    rw [upd_ne ne] at hdx
    have n1 : b ≠ a := fun z => by rw [z, ha] at e; cases e
    have n2 : b ≠ dx := fun z => by rw [z, hdx] at e; cases e
    rw [upd_ne n2, del_ne n1, upd_ne n2, upd_ne n1, upd_ne n2, upd_ne n1]
    exact e
  · rw [upd_ne ne] at hdx; exact hdx
theorem mk_badT {C : Addr} {ta : TA} {σ : L2.St} {H0 H1 : Hp} {v : V} {Qx : XK} (ht : ∀ K : List V → Hp → Prop, K [v] H1 → ta σ H0 K) (k : ∀ d H', Same H1 H' → H1 d = none → H' d = some (.xd (badF v)) → Qx (.ref C) (some d) H') : tMkO C (sp_BadValue C) [] ta σ H0 Qx :=
  ht _ ⟨by simp, mk_bad k⟩
theorem ok_fraction (T : Txt w K mg) : FnOk P w K mg base (L2.CX P w) 3 T.a_fraction T.d_fraction ["p", "q"] (sp_fraction T.C_BadValue) := by
  refine T.F_fraction.ok sc_fraction (fun vs H Q E h => ?_) (fun cdv A outer s H vs Q E hr h => ?_)
  · obtain ⟨p, q, rfl, _⟩ := h
    rfl
  · obtain ⟨p, q, rfl, lp, lq, k, kE⟩ := h
    have hr_is_number : Room 1 _ := hr.mono (by decide)
    have G_is_number := ok_is_number (P := P) (base := base) T
    have hr_BadValue : Room 2 _ := hr.mono (by decide)
    have G_BadValue := ok_BadValue (P := P) (base := base) T
    refine ⟨_, (pss_cons (ps_if (PW.pt (pw_or (pt_not (pt_val (pe_call G_is_number hr_is_number (by rfl) T.m_is_number T.F_is_number.kp T.B_is_number .nil pass0 (pa_cons (pv 1) pa_nil)))) (pw_or1 (pt_cmpR op_eqI (pv 1) pe_int (nomark _))))) (pss_one (ps_raise rfl (takes_of rfl rfl rfl rfl) (pmk_oex T.X_BadValue T.i_BadValue T.t_BadValue G_BadValue hr_BadValue T.B_BadValue__init .nil pass0 (by rfl) T.m_BadValue (pa_cons (pv 1) pa_nil)))) pss_nil)
      (pss_cons (ps_set (i := 2) sc_fraction.nd rfl (Or.inl rfl) (pe_callBfun cr_gcd (by rfl) T.m_gcd (pa_cons (pv 0) (pa_cons (pv 1) pa_nil))))
      (pss_cons (ps_if (pt_cmpR op_lt (pv 1) pe_int (nomark _)) (pss_one (ps_set (i := 2) sc_fraction.nd rfl (Or.inl rfl) (pe_un un_neg (pv 2)))) pss_nil)
      (pss_one (ps_ret (pe_tupU (pa_cons (pe_op op_fdivF (pv 0) (pv 2)) (pa_cons (pe_op op_fdivF (pv 1) (pv 2)) pa_nil)))))))), ?_⟩
    refine seq_op fun N hN => ?_
    walk_at "rs"
    refine ⟨_, .int q, rfl, .int q, fun H1 s1 => ⟨true, rfl, iteFF (by decide) (ite2 (fun e => ?_) (fun e => hN _ _ ?_))⟩⟩
    · subst e
      exact mk_badT (fun K h => by walk_at "rs"; exact h) fun d H2 s2 hd h2 => kE rfl d H2 (Same.trans s1 s2) (Same.dom s1 d hd) h2
    clear hN N
    replace k := k e
    clear kE
    have g0 : (Nat.gcd p.natAbs q.natAbs : Nat) ≠ 0 := fun z => e (by have := Nat.eq_zero_of_gcd_eq_zero_right z; omega)
    have gl := gcd_log (p := p) e
    refine seq_op fun N hN => ?_
    walk_at "rs"
    refine ⟨p, q, rfl, hN _ _ ?_⟩
    clear hN N
    refine cut_seq (fun σ H2 => σ = [some (.int p), some (.int q), some (.int (frG p q))] ∧ H2 = H1) (fun N hN => ?_) ?_
    · walk_at "rs"
      unfold frG at hN
      refine ite2 (fun c => ?_) (fun c => ?_)
      · rw [if_pos c] at hN; exact hN _ _ ⟨rfl, rfl⟩
      · rw [if_neg c] at hN; exact hN _ _ ⟨rfl, rfl⟩
    · rintro σ H2 ⟨rfl, rfl⟩
      have n0 : frG p q ≠ 0 := by unfold frG; split <;> omega
      have nl : (frG p q).natAbs.log2 < 9000 := by
        have : (frG p q).natAbs = Nat.gcd p.natAbs q.natAbs := by unfold frG; split <;> omega
        rw [this]; omega
      walk_at "rs"
      exact ⟨⟨n0, nl⟩, ⟨n0, nl⟩, by decide, fun t H3 s3 h03 h3 => k t H3 (Same.trans s1 s3) (Same.dom s1 t h03) h3⟩
/-! ### the reckoning -/
def FrT (p q : Int) : V × V := (.int (frP p q), .int (frQ p q))
/-- a pair of whole numbers at a -/
def Pr (K : PySem.W.Frag) (H : Hp) (a : Addr) (p q : Int) : Prop := SqT K H a [.int p, .int q]
def sp_two (K : PySem.W.Frag) (f g : Int → Int → Int → Int → Int) : Sp := fun vs H Q _ => ∃ (a b : Addr) (p q r s : Int), vs = [.ref a, .ref b] ∧ Pr K H a p q ∧ Pr K H b r s ∧ p.natAbs < 2 ^ 4000 ∧ q.natAbs < 2 ^ 4000 ∧ r.natAbs < 2 ^ 4000 ∧ s.natAbs < 2 ^ 4000 ∧ g p q r s ≠ 0 ∧
  ∀ t H', Same H H' → H t = none → H' t = some (.tup [.int (frP (f p q r s) (g p q r s)), .int (frQ (f p q r s) (g p q r s))]) → Q (.ref t) H'
theorem two_add {i j : Int} {a : Nat} (hi : i.natAbs < 2 ^ a) (hj : j.natAbs < 2 ^ a) : (i + j).natAbs < 2 ^ (a + 1) := by
  have e : 2 ^ (a + 1) = 2 * 2 ^ a := Nat.pow_succ'
  omega
theorem two_sub {i j : Int} {a : Nat} (hi : i.natAbs < 2 ^ a) (hj : j.natAbs < 2 ^ a) : (i - j).natAbs < 2 ^ (a + 1) := by
  have e : 2 ^ (a + 1) = 2 * 2 ^ a := Nat.pow_succ'
  omega
theorem mulW {i j : Int} (hi : i.natAbs < 2 ^ 4000) (hj : j.natAbs < 2 ^ 4000) : CMulW i j := wide_mul hi hj (by decide) (by decide) (by decide)
theorem mulL {i j : Int} (hi : i.natAbs < 2 ^ 4000) (hj : j.natAbs < 2 ^ 4000) : (i * j).natAbs < 2 ^ 8000 := wide_lt (a := 4000) (b := 4000) hi hj
theorem logL {i : Int} {a : Nat} (h : i.natAbs < 2 ^ a) (h0 : 0 < a) (h9 : a ≤ 9000) : i.natAbs.log2 < 9000 := Nat.lt_of_lt_of_le (PySem.Flt.log2_lt_of h0 h) h9
theorem ok_plus (T : Txt w K mg) : FnOk P w K mg base CX0 4 T.a_plus T.d_plus ["a", "b"] (sp_two K (fun p q r s => p * s + r * q) fun _ q _ s => q * s) := by
  refine T.F_plus.ok sc_plus (fun vs H Q E h => ?_) (fun cdv A outer s H vs Q E hr h => ?_)
  · obtain ⟨a, b, p, q, r, s', rfl, _⟩ := h
    rfl
  · obtain ⟨a, b, p, q, r, s', rfl, ha, hb, lp, lq, lr, ls, n0, k⟩ := h
    have hr_fraction : Room 3 _ := hr.mono (by decide)
    have G_fraction := ok_fraction (P := P) (base := base) T
    refine ⟨_, (pss_one (ps_ret (pe_call G_fraction hr_fraction (by rfl) T.m_fraction T.F_fraction.kp T.B_fraction .nil passL (pa_cons (pe_op op_add (pe_op op_mulW (pe_ix ix_tup (pv 0) pe_int (fun _ _ => rfl)) (pe_ix ix_tup (pv 1) pe_int (fun _ _ => rfl))) (pe_op op_mulW (pe_ix ix_tup (pv 1) pe_int (fun _ _ => rfl)) (pe_ix ix_tup (pv 0) pe_int (fun _ _ => rfl)))) (pa_cons (pe_op op_mulW (pe_ix ix_tup (pv 0) pe_int (fun _ _ => rfl)) (pe_ix ix_tup (pv 1) pe_int (fun _ _ => rfl))) pa_nil))))), ?_⟩
    walk_at "rs"
    refine ⟨_, ha, _, rfl, _, hb, _, rfl, _, rfl, _, rfl, mulW lp ls, _, hb, _, rfl, _, ha, _, rfl, _, rfl, _, rfl, mulW lr lq, _, ha, _, rfl, _, hb, _, rfl, _, rfl, _, rfl, mulW lq ls, ?_⟩
    exact ⟨_, _, rfl, logL (two_add (mulL lp ls) (mulL lr lq)) (by decide) (by decide), logL (mulL lq ls) (by decide) (by decide), fun _ => k, fun e => absurd e n0⟩
end
end LK

set_option Elab.async false
set_option linter.all false
set_option maxRecDepth 100000
namespace LK
open PySem PySem.Spec PyProof.Rows L2
local macro_rules | `(tactic| walk_at "rs") => `(tactic| simp only [cxK, cxNK, tCallZ, tAsg, tOp, rI0, rS0, rB0, rI, rU, tUn, rEq, rNe, rIxL, rIxT, rIxS, rSetL, rSlLU, rSlS, rSlU, rCatL, rCatU, rRepL, rIn, tVar, tC, gName, gSub, tIfS, tTest, tB, tAnd, tOr, tNot, tNotV, tAndV, tOrV, tIf, tCall, tCons, tNil, tCB, tDrop, tRet, tRetN, tNext, tLstU, tTupU, tM0, tM1, tPar, tPar3, tAug, ipI, tBM, tBM0, rAppend, rPop, tBreak, sDPut, tDGet, tDGet2, tCont, tChain, tSl, tPart, tNoPart, L2.start, List.map, List.length_cons, List.length_nil, List.replicate, List.cons_append, List.nil_append, List.append_nil, List.getElem?_cons_zero, List.getElem?_cons_succ, List.set_cons_zero, List.set_cons_succ, Option.some.injEq, V.int.injEq, V.ref.injEq, V.str.injEq, V.bl.injEq, exists_eq_left', exists_eq_left, exists_and_left, decide_eq_true_eq, List.cons.injEq, and_true, true_and, scal, Bool.not_eq_true', decide_eq_false_iff_not, Nat.zero_add, Nat.reduceAdd, Nat.reduceSub, reduceCtorEq, false_and, exists_false, false_or, or_false, CPow, CPowW, CMul, CDiv, Int.reduceToNat, ↓reduceIte, wipe, sw, rv3, tListKeys, tDIn, tDNotIn, List.nil_append, List.singleton_append])
local macro_rules | `(tactic| walk_at "st") => `(tactic| (refine seq_op fun N hN => ?_; walk_at "rs"))
local macro_rules | `(tactic| walk_at "sd") => `(tactic| first | assumption | decide | omega)
local macro_rules | `(tactic| walk_at "rd") => `(tactic| repeat (first
  | refine ⟨_, SqL.of (by assumption), ?_⟩ | refine ⟨_, SqL.of upd_same, ?_⟩ | refine ⟨_, .inl (SqL.of (by assumption)), ?_⟩ | refine ⟨_, (by assumption : _ = some (HO.lst _)), ?_⟩ | refine ⟨_, upd_same, ?_⟩
  | refine ⟨_, rfl, ?_⟩ | refine And.intro (by walk_at "sd") ?_))

theorem eqv_zero (r s : Int) : PyData.eqv (.tuple [.int r, .int s]) (.tuple [.int 0, .int 1]) = (decide (r = 0) && decide (s = 1)) := by
  simp [PyData.eqv, PyData.eqvAll]
  rfl
theorem shaped2 (r s : Int) : SeqAt.shaped (.tuple [.int r, .int s]) = true := by rfl
theorem dp_pair {K : PySem.W.Frag} {H : Hp} {a : Addr} {p q : Int} (h : Pr K H a p q) : Dp K H (.ref a) (.tuple [.int p, .int q]) := .tup h (.cons (.int p) (.cons (.int q) .nil))
theorem abs_if (p : Int) : (if p < 0 then -p else p) = ((p.natAbs : Nat) : Int) := by split <;> omega
theorem fr_spec (p : Int) {q : Int} (h : q ≠ 0) : frP p q * frG p q = p ∧ frQ p q * frG p q = q ∧ 1 ≤ frQ p q ∧ Nat.gcd (frP p q).natAbs (frQ p q).natAbs = 1 ∧ (frP p q).natAbs ≤ p.natAbs ∧ (frQ p q).natAbs ≤ q.natAbs ∧ frG p q ≠ 0 := by
  have g0 : Nat.gcd p.natAbs q.natAbs ≠ 0 := fun z => h (by have := Nat.eq_zero_of_gcd_eq_zero_right z; omega)
  have ga : (frG p q).natAbs = Nat.gcd p.natAbs q.natAbs := by unfold frG; split <;> omega
  have gs : (0 < q ∧ 0 < frG p q) ∨ (q < 0 ∧ frG p q < 0) := by unfold frG; split <;> omega
  have gn : frG p q ≠ 0 := by omega
  have d1 : frG p q ∣ p := Int.natAbs_dvd_natAbs.mp (by rw [ga]; exact Nat.gcd_dvd_left _ _)
  have d2 : frG p q ∣ q := Int.natAbs_dvd_natAbs.mp (by rw [ga]; exact Nat.gcd_dvd_right _ _)
  obtain ⟨a, ea⟩ := d1
  obtain ⟨b, eb⟩ := d2
  have pa : frP p q = a := by
    unfold frP
    generalize frG p q = G at ea gn
    rw [ea, Int.mul_comm]
    exact Int.mul_fdiv_cancel _ gn
  have qb : frQ p q = b := by
    unfold frQ
    generalize frG p q = G at eb gn
    rw [eb, Int.mul_comm]
    exact Int.mul_fdiv_cancel _ gn
  rw [pa, qb]
  have na : p.natAbs = a.natAbs * Nat.gcd p.natAbs q.natAbs := by
    rw [← ga, ← Int.natAbs_mul, Int.mul_comm]; exact congrArg Int.natAbs ea
  have nb : q.natAbs = b.natAbs * Nat.gcd p.natAbs q.natAbs := by
    rw [← ga, ← Int.natAbs_mul, Int.mul_comm]; exact congrArg Int.natAbs eb
  have hg : Nat.gcd a.natAbs b.natAbs = 1 := by
    have e : Nat.gcd (a.natAbs * Nat.gcd p.natAbs q.natAbs) (b.natAbs * Nat.gcd p.natAbs q.natAbs) = Nat.gcd p.natAbs q.natAbs := by rw [← na, ← nb]
    rw [Nat.gcd_mul_right] at e
    exact Nat.eq_of_mul_eq_mul_right (Nat.pos_of_ne_zero g0) (by rw [e, Nat.one_mul])
  refine ⟨by rw [Int.mul_comm]; exact ea.symm, by rw [Int.mul_comm]; exact eb.symm, ?_, hg, ?_, ?_, gn⟩
  · generalize frG p q = G at eb gs
    rcases Int.lt_trichotomy b 0 with c | c | c
    · rcases gs with ⟨h1, h2⟩ | ⟨h1, h2⟩
      · have := Int.mul_neg_of_pos_of_neg h2 c; omega
      · have := Int.mul_pos_of_neg_of_neg h2 c; omega
    · rw [c, Int.mul_zero] at eb; omega
    · omega
  · rw [na]; exact Nat.le_mul_of_pos_right _ (Nat.pos_of_ne_zero g0)
  · rw [nb]; exact Nat.le_mul_of_pos_right _ (Nat.pos_of_ne_zero g0)
theorem pow_le {n a b : Nat} (h : n < 2 ^ a) (hab : a ≤ b) : n < 2 ^ b := Nat.lt_of_lt_of_le h (Nat.pow_le_pow_right (by decide) hab)
theorem abs_div (p : Int) {q : Int} (h : 1 ≤ q) : (p.fdiv q).natAbs ≤ p.natAbs := by
  rw [Int.fdiv_eq_ediv_of_nonneg p (by omega)]
  exact Int.natAbs_ediv_le_natAbs p q
theorem eqv_pair (p q r s : Int) : PyData.eqv (.tuple [.int p, .int q]) (.tuple [.int r, .int s]) = (decide (p = r) && decide (q = s)) := by
  simp [PyData.eqv, PyData.eqvAll]
  rfl
theorem fr_low {p q : Int} (h : 1 ≤ q) (hg : Nat.gcd p.natAbs q.natAbs = 1) : frP p q = p ∧ frQ p q = q := by
  have e : frG p q = 1 := by unfold frG; rw [hg, if_neg (by omega)]; rfl
  obtain ⟨h1, h2, _⟩ := fr_spec p (q := q) (by omega)
  rw [e, Int.mul_one] at h1 h2
  exact ⟨h1, h2⟩
theorem fr_unique {P Q p q : Int} (hQ : Q ≠ 0) (h : P * q = p * Q) (hq : 1 ≤ q) (hg : Nat.gcd p.natAbs q.natAbs = 1) : frP P Q = p ∧ frQ P Q = q := by
  obtain ⟨e1, e2, e3, e4, _, _, g0⟩ := fr_spec P hQ
  have h2 : frP P Q * q = p * frQ P Q := by
    have e : (frP P Q * q) * frG P Q = (p * frQ P Q) * frG P Q := by
      have a : (frP P Q * q) * frG P Q = (frP P Q * frG P Q) * q := by
        rw [Int.mul_assoc, Int.mul_comm q, ← Int.mul_assoc]
      have b : (p * frQ P Q) * frG P Q = p * (frQ P Q * frG P Q) := Int.mul_assoc _ _ _
      rw [a, b, e1, e2, h]
    exact Int.eq_of_mul_eq_mul_right g0 e
  have hn : (frP P Q).natAbs * q.natAbs = p.natAbs * (frQ P Q).natAbs := by rw [← Int.natAbs_mul, ← Int.natAbs_mul, h2]
  have d1 : q.natAbs ∣ (frQ P Q).natAbs := by
    have d : q.natAbs ∣ p.natAbs * (frQ P Q).natAbs := ⟨(frP P Q).natAbs, by rw [← hn, Nat.mul_comm]⟩
    exact Nat.Coprime.dvd_of_dvd_mul_left (Nat.Coprime.symm hg) d
  have d2 : (frQ P Q).natAbs ∣ q.natAbs := by
    have d : (frQ P Q).natAbs ∣ (frP P Q).natAbs * q.natAbs := ⟨p.natAbs, by rw [hn, Nat.mul_comm]⟩
    exact Nat.Coprime.dvd_of_dvd_mul_left (Nat.Coprime.symm e4) d
  have en := Nat.dvd_antisymm d1 d2
  have eq : frQ P Q = q := by omega
  refine ⟨?_, eq⟩
  rw [eq] at h2
  exact Int.eq_of_mul_eq_mul_right (by omega) h2
/-- what a fraction of P and Q is worth -/
theorem fr_worth (P : Int) {Q : Int} (hQ : Q ≠ 0) : frP P Q * Q = P * frQ P Q := by
  obtain ⟨e1, e2, _⟩ := fr_spec P hQ
  have : frP P Q * Q = frP P Q * (frQ P Q * frG P Q) := by rw [e2]
  rw [this, Int.mul_comm (frQ P Q), ← Int.mul_assoc, e1]
end LK

set_option Elab.async false
set_option linter.all false
set_option maxRecDepth 100000
namespace LK
open PySem PySem.Spec PyProof.Rows L2
local macro_rules | `(tactic| walk_at "rs") => `(tactic| simp only [cxK, cxNK, tCallZ, tAsg, tOp, rI0, rS0, rB0, rI, rU, tUn, rEq, rNe, rIxL, rIxT, rIxS, rSetL, rSlLU, rSlS, rSlU, rCatL, rCatU, rRepL, rIn, tVar, tC, gName, gSub, tIfS, tTest, tB, tAnd, tOr, tNot, tNotV, tAndV, tOrV, tIf, tCall, tCons, tNil, tCB, tDrop, tRet, tRetN, tNext, tLstU, tTupU, tM0, tM1, tPar, tPar3, tAug, ipI, tBM, tBM0, rAppend, rPop, tBreak, sDPut, tDGet, tDGet2, tCont, tChain, tSl, tPart, tNoPart, L2.start, List.map, List.length_cons, List.length_nil, List.replicate, List.cons_append, List.nil_append, List.append_nil, List.getElem?_cons_zero, List.getElem?_cons_succ, List.set_cons_zero, List.set_cons_succ, Option.some.injEq, V.int.injEq, V.ref.injEq, V.str.injEq, V.bl.injEq, exists_eq_left', exists_eq_left, exists_and_left, decide_eq_true_eq, List.cons.injEq, and_true, true_and, scal, Bool.not_eq_true', decide_eq_false_iff_not, Nat.zero_add, Nat.reduceAdd, Nat.reduceSub, reduceCtorEq, false_and, exists_false, false_or, or_false, CPow, CPowW, CMul, CDiv, Int.reduceToNat, ↓reduceIte, wipe, sw, rv3, tListKeys, tDIn, tDNotIn, List.nil_append, List.singleton_append])
local macro_rules | `(tactic| walk_at "st") => `(tactic| (refine seq_op fun N hN => ?_; walk_at "rs"))
local macro_rules | `(tactic| walk_at "sd") => `(tactic| first | assumption | decide | omega)
local macro_rules | `(tactic| walk_at "rd") => `(tactic| repeat (first
  | refine ⟨_, SqL.of (by assumption), ?_⟩ | refine ⟨_, SqL.of upd_same, ?_⟩ | refine ⟨_, .inl (SqL.of (by assumption)), ?_⟩ | refine ⟨_, (by assumption : _ = some (HO.lst _)), ?_⟩ | refine ⟨_, upd_same, ?_⟩
  | refine ⟨_, rfl, ?_⟩ | refine And.intro (by walk_at "sd") ?_))

abbrev Fr := Int × Int
/-- the fraction f, in lowest terms, is X parts of L -/
def Va (L X : Int) (f : Fr) : Prop := 1 ≤ f.2 ∧ Nat.gcd f.1.natAbs f.2.natAbs = 1 ∧ f.1 * L = X * f.2
theorem Va.dvd {L X : Int} {f : Fr} (h : Va L X f) : f.2 ∣ L := by
  obtain ⟨h1, h2, h3⟩ := h
  have d : f.2.natAbs ∣ f.1.natAbs * L.natAbs := ⟨X.natAbs, by rw [← Int.natAbs_mul, h3, Int.natAbs_mul, Nat.mul_comm]⟩
  exact Int.natAbs_dvd_natAbs.mp (Nat.Coprime.dvd_of_dvd_mul_left (Nat.Coprime.symm h2) d)
theorem Va.den {L X : Int} {f : Fr} (h : Va L X f) (hL : 0 < L) : f.2.natAbs ≤ L.natAbs := Nat.le_of_dvd (by omega) (Int.natAbs_dvd_natAbs.mpr h.dvd)
theorem Va.num {L X : Int} {f : Fr} (h : Va L X f) (hL : 0 < L) : f.1.natAbs ≤ X.natAbs := by
  have hd := h.den hL
  have e : f.1.natAbs * L.natAbs = X.natAbs * f.2.natAbs := by rw [← Int.natAbs_mul, ← Int.natAbs_mul, h.2.2]
  have : f.1.natAbs * L.natAbs ≤ X.natAbs * L.natAbs := by rw [e]; exact Nat.mul_le_mul_left _ hd
  exact Nat.le_of_mul_le_mul_right this (by omega)
theorem Va.zero (L : Int) : Va L 0 (0, 1) := ⟨by decide, by decide, by simp⟩
theorem Va.scale {L X : Int} {f : Fr} (h : Va L X f) (k : Int) : Va (L * k) (X * k) f := ⟨h.1, h.2.1, by rw [← Int.mul_assoc, h.2.2, Int.mul_assoc, Int.mul_assoc, Int.mul_comm k]⟩
theorem Va.plus {L X Y : Int} {f g : Fr} (h : Va L X f) (h' : Va L Y g) : Va L (X + Y) (frP (f.1 * g.2 + g.1 * f.2) (f.2 * g.2), frQ (f.1 * g.2 + g.1 * f.2) (f.2 * g.2)) ∧ f.2 * g.2 ≠ 0 := by
  have q0 : f.2 * g.2 ≠ 0 := Int.mul_ne_zero (by have := h.1; omega) (by have := h'.1; omega)
  have wo := fr_worth (f.1 * g.2 + g.1 * f.2) q0
  obtain ⟨_, _, e3, e4, _⟩ := fr_spec (f.1 * g.2 + g.1 * f.2) q0
  refine ⟨⟨e3, e4, ?_⟩, q0⟩
  dsimp only
  generalize frP (f.1 * g.2 + g.1 * f.2) (f.2 * g.2) = P at wo
  generalize frQ (f.1 * g.2 + g.1 * f.2) (f.2 * g.2) = Q at wo
  refine Int.eq_of_mul_eq_mul_right q0 ?_
  have e1 := h.2.2
  have e2 := h'.2.2
  have a1 : P * L * (f.2 * g.2) = (P * (f.2 * g.2)) * L := by simp only [Int.mul_assoc, Int.mul_comm, Int.mul_left_comm]
  have a2 : (f.1 * g.2 + g.1 * f.2) * Q * L = ((f.1 * L) * g.2 + (g.1 * L) * f.2) * Q := by simp only [Int.add_mul, Int.mul_add, Int.mul_assoc, Int.mul_comm, Int.mul_left_comm]
  rw [a1, wo, a2, e1, e2]
  simp only [Int.add_mul, Int.mul_add, Int.mul_assoc, Int.mul_comm, Int.mul_left_comm]
theorem Va.times {L M X Y : Int} {f g : Fr} (h : Va L X f) (h' : Va M Y g) : Va (L * M) (X * Y) (frP (f.1 * g.1) (f.2 * g.2), frQ (f.1 * g.1) (f.2 * g.2)) ∧ f.2 * g.2 ≠ 0 := by
  have q0 : f.2 * g.2 ≠ 0 := Int.mul_ne_zero (by have := h.1; omega) (by have := h'.1; omega)
  have wo := fr_worth (f.1 * g.1) q0
  obtain ⟨_, _, e3, e4, _⟩ := fr_spec (f.1 * g.1) q0
  refine ⟨⟨e3, e4, ?_⟩, q0⟩
  dsimp only
  generalize frP (f.1 * g.1) (f.2 * g.2) = P at wo
  generalize frQ (f.1 * g.1) (f.2 * g.2) = Q at wo
  refine Int.eq_of_mul_eq_mul_right q0 ?_
  have e1 := h.2.2
  have e2 := h'.2.2
  have a1 : P * (L * M) * (f.2 * g.2) = (P * (f.2 * g.2)) * (L * M) := by simp only [Int.mul_assoc, Int.mul_comm, Int.mul_left_comm]
  have a2 : f.1 * g.1 * Q * (L * M) = (f.1 * L) * (g.1 * M) * Q := by simp only [Int.mul_assoc, Int.mul_comm, Int.mul_left_comm]
  rw [a1, wo, a2, e1, e2]
  simp only [Int.mul_assoc, Int.mul_comm, Int.mul_left_comm]
theorem low_eq {f g : Fr} (hf : 1 ≤ f.2) (gf : Nat.gcd f.1.natAbs f.2.natAbs = 1) (hg : 1 ≤ g.2) (gg : Nat.gcd g.1.natAbs g.2.natAbs = 1) (e : f.1 * g.2 = g.1 * f.2) : f = g := by
  obtain ⟨a, b⟩ := fr_unique (P := f.1) (Q := f.2) (p := g.1) (q := g.2) (by omega) e hg gg
  obtain ⟨c, d⟩ := fr_low hf gf
  exact Prod.ext (by rw [← a, c]) (by rw [← b, d])
theorem Va.uniq {L X : Int} {f g : Fr} (hL : 0 < L) (h : Va L X f) (h' : Va L X g) : f = g := by
  refine low_eq h.1 h.2.1 h'.1 h'.2.1 ?_
  refine Int.eq_of_mul_eq_mul_right (show L ≠ 0 by omega) ?_
  have e1 := h.2.2
  have e2 := h'.2.2
  have a1 : f.1 * g.2 * L = (f.1 * L) * g.2 := by simp only [Int.mul_assoc, Int.mul_comm, Int.mul_left_comm]
  have a2 : g.1 * f.2 * L = (g.1 * L) * f.2 := by simp only [Int.mul_assoc, Int.mul_comm, Int.mul_left_comm]
  rw [a1, a2, e1, e2]
  simp only [Int.mul_assoc, Int.mul_comm, Int.mul_left_comm]
theorem Va.pos {L X : Int} {f : Fr} (hL : 0 < L) (h : Va L X f) : 0 < f.1 ↔ 0 < X := by
  have e := h.2.2
  have q1 := h.1
  constructor
  · intro p
    have := Int.mul_pos p hL
    rw [e] at this
    exact Int.pos_of_mul_pos_left this (by omega)
  · intro p
    have := Int.mul_pos p (show 0 < f.2 by omega)
    rw [← e] at this
    exact Int.pos_of_mul_pos_left this hL
/-- the parts of M that f has -/
def num (M : Int) (f : Fr) : Int := f.1 * (M / f.2)
theorem num_va {M : Int} {f : Fr} (h1 : 1 ≤ f.2) (hg : Nat.gcd f.1.natAbs f.2.natAbs = 1) (hd : f.2 ∣ M) : Va M (num M f) f := by
  refine ⟨h1, hg, ?_⟩
  unfold num
  rw [Int.mul_assoc, Int.ediv_mul_cancel hd]
end LK

set_option Elab.async false
set_option linter.all false
set_option maxRecDepth 100000
namespace LK
open PySem PySem.Spec PyProof.Rows L2
local macro_rules | `(tactic| walk_at "rs") => `(tactic| simp only [cxK, cxNK, tCallZ, tAsg, tOp, rI0, rS0, rB0, rI, rU, tUn, rEq, rNe, rIxL, rIxT, rIxS, rSetL, rSlLU, rSlS, rSlU, rCatL, rCatU, rRepL, rIn, tVar, tC, gName, gSub, tIfS, tTest, tB, tAnd, tOr, tNot, tNotV, tAndV, tOrV, tIf, tCall, tCons, tNil, tCB, tDrop, tRet, tRetN, tNext, tLstU, tTupU, tM0, tM1, tPar, tPar3, tAug, ipI, tBM, tBM0, rAppend, rPop, tBreak, sDPut, tDGet, tDGet2, tCont, tChain, tSl, tPart, tNoPart, L2.start, List.map, List.length_cons, List.length_nil, List.replicate, List.cons_append, List.nil_append, List.append_nil, List.getElem?_cons_zero, List.getElem?_cons_succ, List.set_cons_zero, List.set_cons_succ, Option.some.injEq, V.int.injEq, V.ref.injEq, V.str.injEq, V.bl.injEq, exists_eq_left', exists_eq_left, exists_and_left, decide_eq_true_eq, List.cons.injEq, and_true, true_and, scal, Bool.not_eq_true', decide_eq_false_iff_not, Nat.zero_add, Nat.reduceAdd, Nat.reduceSub, reduceCtorEq, false_and, exists_false, false_or, or_false, CPow, CPowW, CMul, CDiv, Int.reduceToNat, ↓reduceIte, wipe, sw, rv3, tListKeys, tDIn, tDNotIn, List.nil_append, List.singleton_append])
local macro_rules | `(tactic| walk_at "st") => `(tactic| (refine seq_op fun N hN => ?_; walk_at "rs"))
local macro_rules | `(tactic| walk_at "sd") => `(tactic| first | assumption | decide | omega)
local macro_rules | `(tactic| walk_at "rd") => `(tactic| repeat (first
  | refine ⟨_, SqL.of (by assumption), ?_⟩ | refine ⟨_, SqL.of upd_same, ?_⟩ | refine ⟨_, .inl (SqL.of (by assumption)), ?_⟩ | refine ⟨_, (by assumption : _ = some (HO.lst _)), ?_⟩ | refine ⟨_, upd_same, ?_⟩
  | refine ⟨_, rfl, ?_⟩ | refine And.intro (by walk_at "sd") ?_))

/-! ### fractions and their worth -/
def low (f : Fr) : Prop := 1 ≤ f.2 ∧ Nat.gcd f.1.natAbs f.2.natAbs = 1
def plusF (f g : Fr) : Fr := (frP (f.1 * g.2 + g.1 * f.2) (f.2 * g.2), frQ (f.1 * g.2 + g.1 * f.2) (f.2 * g.2))
def rt (f : Fr) : Rat := Rat.divInt f.1 f.2
theorem rt_eq {f g : Fr} (hf : low f) (hg : low g) (e : rt f = rt g) : f = g := by
  have f0 : f.2 ≠ 0 := by have := hf.1; omega
  have g0 : g.2 ≠ 0 := by have := hg.1; omega
  exact low_eq hf.1 hf.2 hg.1 hg.2 ((Rat.divInt_eq_divInt_iff f0 g0).mp e)
theorem den_ne {f g : Fr} (hf : low f) (hg : low g) : f.2 * g.2 ≠ 0 := Int.mul_ne_zero (by have := hf.1; omega) (by have := hg.1; omega)
theorem rt_fr (P : Int) {Q : Int} (h : Q ≠ 0) : rt (frP P Q, frQ P Q) = Rat.divInt P Q ∧ low (frP P Q, frQ P Q) := by
  obtain ⟨_, _, e3, e4, _⟩ := fr_spec P h
  exact ⟨(Rat.divInt_eq_divInt_iff (show frQ P Q ≠ 0 by omega) h).mpr (fr_worth P h), e3, e4⟩
theorem rt_plus {f g : Fr} (hf : low f) (hg : low g) : rt (plusF f g) = rt f + rt g ∧ low (plusF f g) := by
  obtain ⟨a, b⟩ := rt_fr (f.1 * g.2 + g.1 * f.2) (den_ne hf hg)
  refine ⟨?_, b⟩
  have f0 : f.2 ≠ 0 := by have := hf.1; omega
  have g0 : g.2 ≠ 0 := by have := hg.1; omega
  show rt (plusF f g) = Rat.divInt f.1 f.2 + Rat.divInt g.1 g.2
  rw [Rat.divInt_add_divInt _ _ f0 g0]
  exact a
theorem low_zero : low (0, 1) := ⟨by decide, by decide⟩
theorem rt_zero : rt (0, 1) = 0 := by unfold rt; exact Rat.zero_divInt 1
theorem rt_neg {f : Fr} (hf : low f) : rt (-f.1, f.2) = - rt f ∧ low (-f.1, f.2) := ⟨(Rat.neg_divInt f.1 f.2).symm, hf.1, by rw [Int.natAbs_neg]; exact hf.2⟩
theorem low_null {f : Fr} (hf : low f) : f.1 = 0 ↔ f = (0, 1) := by
  constructor
  · intro e
    have := hf.2
    rw [e] at this
    have h1 := hf.1
    have h2 : f.2 = 1 := by
      rw [show (0 : Int).natAbs = 0 from rfl, Nat.gcd_zero_left] at this
      omega
    exact Prod.ext e h2
  · intro e
    rw [e]
/-- bits of a fraction -/
def wt (f : Fr) : Nat := max f.1.natAbs.log2 f.2.natAbs.log2 + 1
theorem wt_lt (f : Fr) : f.1.natAbs < 2 ^ wt f ∧ f.2.natAbs < 2 ^ wt f := by
  unfold wt
  constructor
  · exact Nat.lt_of_lt_of_le (Nat.lt_log2_self) (Nat.pow_le_pow_right (by decide) (Nat.succ_le_succ (Nat.le_max_left _ _)))
  · exact Nat.lt_of_lt_of_le (Nat.lt_log2_self) (Nat.pow_le_pow_right (by decide) (Nat.succ_le_succ (Nat.le_max_right _ _)))
theorem log_lt {n k : Nat} (hk : 0 < k) (h : n < 2 ^ k) : n.log2 < k := PySem.Flt.log2_lt_of hk h
theorem wt_le {f : Fr} {k : Nat} (hk : 0 < k) (h1 : f.1.natAbs < 2 ^ k) (h2 : f.2.natAbs < 2 ^ k) : wt f ≤ k := by
  have a := log_lt hk h1
  have b := log_lt hk h2
  unfold wt
  omega
theorem wt_pos (f : Fr) : 0 < wt f := Nat.succ_pos _
theorem wt_plus {f g : Fr} (hf : low f) (hg : low g) : wt (plusF f g) ≤ wt f + wt g + 1 := by
  obtain ⟨_, _, _, _, e5, e6, _⟩ := fr_spec (f.1 * g.2 + g.1 * f.2) (den_ne hf hg)
  obtain ⟨a1, a2⟩ := wt_lt f
  obtain ⟨b1, b2⟩ := wt_lt g
  refine wt_le (by omega) (Nat.lt_of_le_of_lt e5 ?_) (Nat.lt_of_le_of_lt e6 (pow_le (wide_lt a2 b2) (by omega)))
  refine two_add (wide_lt a1 b2) ?_
  rw [Nat.add_comm]
  exact wide_lt b1 a2
/-! items: a spot and a factor -/
abbrev It := List Int × Fr
def accF (items : List It) (k : List Int) : Fr := items.foldl (fun acc it => if it.1 = k then plusF acc it.2 else acc) (0, 1)
def accR (items : List It) (k : List Int) : Rat := items.foldl (fun acc it => if it.1 = k then acc + rt it.2 else acc) 0
def wtS (items : List It) (k : List Int) : Nat := items.foldl (fun acc it => if it.1 = k then acc + (wt it.2 + 1) else acc) 1
theorem accF_snoc (items : List It) (it : It) (k : List Int) : accF (items ++ [it]) k = if it.1 = k then plusF (accF items k) it.2 else accF items k := by
  unfold accF
  rw [List.foldl_append]
  rfl
theorem accF_fold {items : List It} (h : ∀ it ∈ items, low it.2) (k : List Int) : ∀ {f : Fr} {r : Rat} {n : Nat}, low f → rt f = r → wt f ≤ n → 
    low (items.foldl (fun acc it => if it.1 = k then plusF acc it.2 else acc) f) ∧ rt (items.foldl (fun acc it => if it.1 = k then plusF acc it.2 else acc) f) = items.foldl (fun acc it => if it.1 = k then acc + rt it.2 else acc) r ∧ wt (items.foldl (fun acc it => if it.1 = k then plusF acc it.2 else acc) f) ≤ items.foldl (fun acc it => if it.1 = k then acc + (wt it.2 + 1) else acc) n := by
  induction items with
  | nil => intro f r n a b c; exact ⟨a, b, c⟩
  | cons it items ih =>
    intro f r n a b c
    have hl := h it List.mem_cons_self
    simp only [List.foldl_cons]
    by_cases e : it.1 = k
    · rw [if_pos e, if_pos e, if_pos e]
      obtain ⟨p1, p2⟩ := rt_plus a hl
      refine ih (fun x hx => h x (List.mem_cons_of_mem _ hx)) p2 (by rw [p1, b]) ?_
      have := wt_plus a hl
      omega
    · rw [if_neg e, if_neg e, if_neg e]
      exact ih (fun x hx => h x (List.mem_cons_of_mem _ hx)) a b c
theorem accF_spec {items : List It} (h : ∀ it ∈ items, low it.2) (k : List Int) : low (accF items k) ∧ rt (accF items k) = accR items k ∧ wt (accF items k) ≤ wtS items k := accF_fold h k low_zero rt_zero (by decide)
section
variable {P : Program} {w : World} {K : PySem.W.Frag} {mg : Str → Option Value} {base : Heap}
theorem plus_at (T : Txt w K mg) {H : Hp} {Q : VK} {E : XK} {a b : Addr} {f g : Fr} (ha : Pr K H a f.1 f.2) (hb : Pr K H b g.1 g.2) (lf : low f) (lg : low g) (wf : wt f ≤ 3990) (wg : wt g ≤ 3990) (k : ∀ t H', Same H H' → H t = none → H' t = some (.tup [.int (plusF f g).1, .int (plusF f g).2]) → Q (.ref t) H') : sp_two K (fun p q r s => p * s + r * q) (fun _ q _ s => q * s) [.ref a, .ref b] H Q E := by
  obtain ⟨a1, a2⟩ := wt_lt f
  obtain ⟨b1, b2⟩ := wt_lt g
  exact ⟨a, b, f.1, f.2, g.1, g.2, rfl, ha, hb, pow_le a1 (by omega), pow_le a2 (by omega), pow_le b1 (by omega), pow_le b2 (by omega), den_ne lf lg, k⟩
end
end LK

set_option Elab.async false
set_option linter.all false
set_option maxRecDepth 100000
namespace LK
open PySem PySem.Spec PyProof.Rows L2
local macro_rules | `(tactic| walk_at "rs") => `(tactic| simp only [cxK, cxNK, tCallZ, tAsg, tOp, rI0, rS0, rB0, rI, rU, tUn, rEq, rNe, rIxL, rIxT, rIxS, rSetL, rSlLU, rSlS, rSlU, rCatL, rCatU, rRepL, rIn, tVar, tC, gName, gSub, tIfS, tTest, tB, tAnd, tOr, tNot, tNotV, tAndV, tOrV, tIf, tCall, tCons, tNil, tCB, tDrop, tRet, tRetN, tNext, tLstU, tTupU, tM0, tM1, tPar, tPar3, tAug, ipI, tBM, tBM0, rAppend, rPop, tBreak, sDPut, tDGet, tDGet2, tCont, tChain, tSl, tPart, tNoPart, L2.start, List.map, List.length_cons, List.length_nil, List.replicate, List.cons_append, List.nil_append, List.append_nil, List.getElem?_cons_zero, List.getElem?_cons_succ, List.set_cons_zero, List.set_cons_succ, Option.some.injEq, V.int.injEq, V.ref.injEq, V.str.injEq, V.bl.injEq, exists_eq_left', exists_eq_left, exists_and_left, decide_eq_true_eq, List.cons.injEq, and_true, true_and, scal, Bool.not_eq_true', decide_eq_false_iff_not, Nat.zero_add, Nat.reduceAdd, Nat.reduceSub, reduceCtorEq, false_and, exists_false, false_or, or_false, CPow, CPowW, CMul, CDiv, Int.reduceToNat, ↓reduceIte, wipe, sw, rv3, tListKeys, tDIn, tDNotIn, List.nil_append, List.singleton_append])
local macro_rules | `(tactic| walk_at "st") => `(tactic| (refine seq_op fun N hN => ?_; walk_at "rs"))
local macro_rules | `(tactic| walk_at "sd") => `(tactic| first | assumption | decide | omega)
local macro_rules | `(tactic| walk_at "rd") => `(tactic| repeat (first
  | refine ⟨_, SqL.of (by assumption), ?_⟩ | refine ⟨_, SqL.of upd_same, ?_⟩ | refine ⟨_, .inl (SqL.of (by assumption)), ?_⟩ | refine ⟨_, (by assumption : _ = some (HO.lst _)), ?_⟩ | refine ⟨_, upd_same, ?_⟩
  | refine ⟨_, rfl, ?_⟩ | refine And.intro (by walk_at "sd") ?_))

section
variable {P : Program} {w : World} {K : PySem.W.Frag} {mg : Str → Option Value} {base : Heap}
theorem ok__law_draw (T : Txt w K mg) : FnOk P w K mg base CX0 1 T.a__law_draw T.d__law_draw ["bag", "size"] sp__law_draw := by
  refine T.F__law_draw.ok sc__law_draw (fun vs H Q E h => ?_) (fun cdv A outer s H vs Q E hr h => ?_)
  · obtain ⟨b, c, n, N0, rfl, _⟩ := h
    rfl
  · obtain ⟨b, c, n, N0, rfl, ⟨cells, i, g, m, d, hB, hC, ncb, hi, hm, hm2⟩, n0, n1, k⟩ := h
    refine ⟨_, (pss_cons (ps_asg (pe_op op_add (pe_ix ix_list (pv 0) pe_int (fun _ _ => rfl)) pe_int) (pg_sub (pv 0) pe_int set_list))
      (pss_cons (ps_if (PW.pt (pw_and (pt_cmpR op_eqI (pe_ix ix_list (pv 0) pe_int (fun _ _ => rfl)) pe_int (nomark _)) (pw_and1 (pt_cmpR op_lt (pe_ix ix_list (pv 0) pe_int (fun _ _ => rfl)) (pe_callB call_len_seq (by rfl) T.n_len (by decide +kernel) (pa_cons (pe_ix ix_list (pv 0) pe_int (fun _ _ => rfl)) pa_nil)) (nomark _))))) (pss_cons (ps_set (i := 2) sc__law_draw.nd rfl (Or.inl rfl) (pe_ix ix_list (pe_ix ix_list (pv 0) pe_int (fun _ _ => rfl)) (pe_ix ix_list (pv 0) pe_int (fun _ _ => rfl)) (fun _ _ => rfl)))
      (pss_cons (ps_asg (pe_op op_add (pe_ix ix_list (pv 0) pe_int (fun _ _ => rfl)) pe_int) (pg_sub (pv 0) pe_int set_list))
      (pss_one (ps_if (pt_cmpR op_ge (pv 2) (pe_op op_pow pe_int pe_int) (nomark _)) (pss_one (ps_asg (pv 2) (pg_sub (pv 0) pe_int set_list))) (pss_one (ps_asg (pe_op op_mod (pe_callTy call_intI (by rfl) T.n_int (by decide +kernel) (pa_cons (pe_op op_add (pe_op op_add (pe_op op_mul (pe_ix ix_list (pv 0) pe_int (fun _ _ => rfl)) pe_int) (pe_op op_mul (pe_op op_mod (pe_callTy call_intI (by rfl) T.n_int (by decide +kernel) (pa_cons (pv 2) pa_nil)) pe_int) pe_int)) pe_int) pa_nil)) pe_int) (pg_sub (pv 0) pe_int set_list))))))) pss_nil)
      (pss_cons (ps_if (pt_cmpR op_gt (pe_ix ix_list (pv 0) pe_int (fun _ _ => rfl)) pe_int (nomark _)) (pss_cons (ps_set (i := 3) sc__law_draw.nd rfl (Or.inl rfl) (pe_op op_mod (pe_callTy call_intI (by rfl) T.n_int (by decide +kernel) (pa_cons (pe_ix ix_list (pv 0) pe_int (fun _ _ => rfl)) pa_nil)) (pv 1)))
      (pss_cons (ps_asg (pe_op op_fdiv (pe_ix ix_list (pv 0) pe_int (fun _ _ => rfl)) (pv 1)) (pg_sub (pv 0) pe_int set_list))
      (pss_one (ps_ret (pv 3))))) pss_nil)
      (pss_cons (ps_asg (pe_op op_mod (pe_callTy call_intI (by rfl) T.n_int (by decide +kernel) (pa_cons (pe_op op_add (pe_op op_add (pe_op op_pow (pe_ix ix_list (pv 0) pe_int (fun _ _ => rfl)) pe_int) (pe_op op_mul (pe_ix ix_list (pv 0) pe_int (fun _ _ => rfl)) pe_int)) pe_int) pa_nil)) pe_int) (pg_sub (pv 0) pe_int set_list))
      (pss_one (ps_ret (pe_op op_mod (pe_callTy call_intI (by rfl) T.n_int (by decide +kernel) (pa_cons (pe_op op_add (pe_op op_fdiv (pe_ix ix_list (pv 0) pe_int (fun _ _ => rfl)) pe_int) (pe_op op_mul (pe_op op_mod (pe_callTy call_intI (by rfl) T.n_int (by decide +kernel) (pa_cons (pe_ix ix_list (pv 0) pe_int (fun _ _ => rfl)) pa_nil)) pe_int) pe_int)) pa_nil)) (pv 1)))))))), ?_⟩
    -- bag[4] = bag[4] + 1
    refine seq_op fun N hN => ?_
    walk_at "rs"
    refine ⟨_, SqL.of hB, _, rfl, _, rfl, _, hB, _, rfl, ?_⟩
    refine hN _ _ ?_
    clear hN N
    -- if bag[2] == 0 and bag[1] < len(bag[0]): ..
    have B1 : Bag N0 (upd H b (.lst [.ref c, .int i, .int g, .int m, .int (d + 1)])) b c := ⟨cells, i, g, m, d + 1, upd_same, by rw [upd_ne ncb]; exact hC, ncb, hi, hm, hm2⟩
    have K1 : Kp b H (upd H b (.lst [.ref c, .int i, .int g, .int m, .int (d + 1)])) := Kp.upd
    show tSeq _ _ _ _ (upd H b (.lst [.ref c, .int i, .int g, .int m, .int (d + 1)]))
    generalize upd H b (.lst [.ref c, .int i, .int g, .int m, .int (d + 1)]) = H1 at B1 K1 ⊢
    clear hB hC ncb hi hm hm2 i g m d cells
    refine cut_seq (fun σ H2 => ∃ x, σ = [some (.ref b), some (.int n), x, none] ∧ Bag N0 H2 b c ∧ Kp b H H2) (fun N hN => ?_) ?_
    · obtain ⟨cells, i, g, m, d, hB, hC, ncb, hi, hm, hm2⟩ := id B1
      walk_at "rs"
      refine ⟨_, SqL.of hB, _, rfl, _, rfl, ite2 (fun z => ?_) (fun _ => hN _ _ ⟨_, rfl, B1, K1⟩)⟩
      refine ⟨_, SqL.of hB, _, rfl, _, SqL.of hB, _, rfl, _, rfl, _, .inl (SqL.of hC), _, rfl, ite2 (fun zl => ?_) (fun _ => hN _ _ ⟨_, rfl, B1, K1⟩)⟩
      -- cell = bag[0][bag[1]]
      rw [List.length_map] at zl
      obtain ⟨cl, hcl⟩ : ∃ cl, cells[i.toNat]? = some cl := ⟨cells[i.toNat]'(by omega), List.getElem?_eq_getElem _⟩
      refine seq_op fun N2 hN2 => ?_
      walk_at "rs"
      walk_at "rd"
      refine ⟨_, _, rfl, SqL.of hC, _, at_of (j := i.toNat) (v := .int cl) (by omega) (by rw [List.getElem?_map, hcl] <;> rfl), hN2 _ _ ?_⟩
      clear hN2 N2
      -- bag[1] = bag[1] + 1
      refine seq_op fun N2 hN2 => ?_
      walk_at "rs"
      walk_at "rd"
      refine hN2 _ _ ?_
      clear hN2 N2
      -- if cell >= 10 ** 18: bag[2] = cell else: ..
      walk_at "rs"
      refine ⟨by decide, ite2 (fun _ => ?_) (fun _ => ?_)⟩
      · refine ⟨_, upd_same, _, rfl, hN _ _ ⟨_, rfl, ?_, ?_⟩⟩
        · exact ⟨cells, i + 1, cl, m, d, upd_same, by rw [upd_ne ncb, upd_ne ncb]; exact hC, ncb, by omega, hm, hm2⟩
        · exact K1.trans (Kp.upd.trans Kp.upd)
      · walk_at "rd"
        refine hN _ _ ⟨_, rfl, ?_, ?_⟩
        · exact ⟨cells, i + 1, g, _, d, upd_same, by rw [upd_ne ncb, upd_ne ncb]; exact hC, ncb, by omega, Int.emod_nonneg _ (by decide), Int.emod_lt_of_pos _ (by decide)⟩
        · exact K1.trans (Kp.upd.trans Kp.upd)
    · rintro σ H2 ⟨x, rfl, B2, K2⟩
      obtain ⟨cells, i, g, m, d, hB, hC, ncb, hi, hm, hm2⟩ := id B2
      -- if bag[2] > 0: ..
      refine seq_op fun N hN => ?_
      walk_at "rs"
      refine ⟨_, SqL.of hB, _, rfl, _, rfl, ite2 (fun _ => ?_) (fun _ => hN _ _ ?_)⟩
      · refine seq_op fun N2 hN2 => ?_
        walk_at "rs"
        walk_at "rd"
        refine hN2 _ _ ?_
        clear hN2 N2
        refine seq_op fun N2 hN2 => ?_
        walk_at "rs"
        refine ⟨_, SqL.of hB, _, rfl, _, rfl, ⟨n0, n1⟩, ?_⟩
        walk_at "rd"
        refine hN2 _ _ ?_
        walk_at "rs"
        exact k _ _ (Int.emod_nonneg _ (by omega)) (Int.emod_lt_of_pos _ n0) ⟨cells, i, _, m, d, upd_same, by rw [upd_ne ncb]; exact hC, ncb, hi, hm, hm2⟩ (K2.trans Kp.upd)
      · clear hN N
        refine seq_op fun N hN => ?_
        walk_at "rs"
        refine ⟨_, SqL.of hB, _, rfl, _, rfl, ⟨by decide, by decide, by omega⟩, _, SqL.of hB, _, rfl, _, rfl, .inr (by decide), by decide, ?_⟩
        walk_at "rd"
        refine hN _ _ ?_
        clear hN N
        walk_at "rs"
        walk_at "rd"
        exact k _ _ (Int.emod_nonneg _ (by omega)) (Int.emod_lt_of_pos _ n0) ⟨cells, i, g, _, d, upd_same, by rw [upd_ne ncb]; exact hC, ncb, hi, Int.emod_nonneg _ (by decide), Int.emod_lt_of_pos _ (by decide)⟩ (K2.trans Kp.upd)

theorem ok__law_of (T : Txt w K mg) : FnOk P w K mg base CX0 2 T.a__law_of T.d__law_of ["bag", "things"] (sp__law_of K) := by
  refine T.F__law_of.ok sc__law_of (fun vs H Q E h => ?_) (fun cdv A outer s H vs Q E hr h => ?_)
  · obtain ⟨b, c, x, ys, N0, rfl, _⟩ := h
    rfl
  · obtain ⟨b, c, x, ys, N0, rfl, B, sq, sqb, ne, hl, k⟩ := h
    have hr__law_draw : Room 1 _ := hr.mono (by decide)
    have G__law_draw := ok__law_draw (P := P) (base := base) T
    refine ⟨_, (pss_one (ps_ret (pe_ix ix_seq (pv 1) (pe_call G__law_draw hr__law_draw (by rfl) T.m__law_draw T.F__law_draw.kp T.B__law_draw .nil pass0 (pa_cons (pv 0) (pa_cons (pe_callB call_len (by rfl) T.n_len (by decide +kernel) (pa_cons (pv 1) pa_nil)) pa_nil))) (fun _ _ => rfl)))), ?_⟩
    walk_at "rs"
    have ln : 0 < ys.length := by cases ys with | nil => exact absurd rfl ne | cons => exact Nat.succ_pos _
    have pick : ∀ (r : Int), 0 ≤ r → r < (ys.length : Int) → ∃ y, atI ys r = some y ∧ y ∈ ys := fun r r0 r1 => by
      have h1 : r.toNat < ys.length := by omega
      exact ⟨ys[r.toNat], at_of (j := r.toNat) (by omega) (List.getElem?_eq_getElem h1), List.getElem_mem h1⟩
    refine ⟨ys.length, ?_, b, c, _, N0, rfl, B, by omega, by omega, fun r H' r0 r1 B' K' => ?_⟩
    · rcases sq with ⟨p, rfl, h⟩ | ⟨p, rfl, h⟩ | ⟨z, rfl, hz, rfl⟩
      · exact .inl ⟨_, h, rfl⟩
      · exact .inr ⟨_, h, rfl⟩
      · refine ⟨Nat.le_trans hz (by decide), ?_⟩
        rw [List.length_map, Array.length_toList] <;> rfl
    · obtain ⟨y, e, hy⟩ := pick r r0 r1
      rcases sqb with ⟨p, rfl, h⟩ | ⟨p, rfl, h⟩ | ⟨z, rfl, hz, rfl⟩
      · exact .inl ⟨p, ys, r, y, rfl, rfl, Same.seq (hb_le _ _) (Same.seq K' h), e, k y H' hy B' K'⟩
      · exact .inr (.inl ⟨p, ys, r, y, rfl, rfl, Same.seqT (hb_le _ _) (Same.seqT K' h), e, k y H' hy B' K'⟩)
      · refine .inr (.inr ?_)
        have h1 : r.toNat < z.cps.toList.length := by rw [List.length_map] at r1; omega
        have e2 : atI z.cps.toList r = some z.cps.toList[r.toNat] := at_ofN (j := r.toNat) (by omega) (List.getElem?_eq_getElem h1)
        refine ⟨z, r, _, rfl, rfl, Nat.le_trans hz (by decide), e2, k _ H' ?_ B' K'⟩
        exact List.mem_map.mpr ⟨_, List.getElem_mem h1, rfl⟩
theorem ok__law_bag (T : Txt w K mg) : FnOk P w K mg base CX0 1 T.a__law_bag T.d__law_bag ["script"] (sp__law_bag K) := by
  refine T.F__law_bag.ok sc__law_bag (fun vs H Q E h => ?_) (fun cdv A outer s H vs Q E hr h => ?_)
  · obtain ⟨a, ns, rfl, _⟩ := h
    rfl
  · obtain ⟨a, ns, rfl, hS, hl, k⟩ := h
    refine ⟨_, (pss_cons (ps_set (i := 1) sc__law_bag.nd rfl (Or.inl rfl) pe_int)
      (pss_cons (ps_for PassesOwn.never rfl (pi_list (pe_slice sl_listU (pv 0) po_none (po_some pe_int))) (pg_name (i := 2) sc__law_bag.nd rfl (Or.inl rfl)) (pss_one (ps_set (i := 1) sc__law_bag.nd rfl (Or.inl rfl) (pe_op op_mod (pe_callTy call_intI (by rfl) T.n_int (by decide +kernel) (pa_cons (pe_op op_add (pe_op op_add (pe_op op_mul (pv 1) pe_int) (pe_op op_mod (pe_callTy call_intI (by rfl) T.n_int (by decide +kernel) (pa_cons (pv 2) pa_nil)) pe_int)) pe_int) pa_nil)) pe_int))))
      (pss_one (ps_ret (pe_lstU (pa_cons (pe_callTy call_listU (by rfl) T.n_list (by decide +kernel) (pa_cons (pe_slice sl_listU (pv 0) po_none (po_some pe_int)) pa_nil)) (pa_cons pe_int (pa_cons pe_int (pa_cons (pv 1) (pa_cons pe_int pa_nil)))))))))), ?_⟩
    refine seq_op fun N hN => ?_
    walk_at "rs"
    refine hN _ _ ?_
    clear hN N
    refine cut_seq (fun σ H2 => ∃ m x, σ = [some (.ref a), some (.int m), x] ∧ 0 ≤ m ∧ m < 2147483579 ∧ Same H H2) (fun N hN => ?_) ?_
    · refine ⟨_, rfl, _, rfl, a, _, rfl, hS, fun p H1 s1 h0 h1 => ?_⟩
      refine ⟨p, rfl, ⟨_, SqL.of h1⟩, for_list (K := K) (a := p) (xs := cutV (ns.map V.int) none (some 63)) (fun i σ H2 => ∃ m x, σ = [some (.ref a), some (.int m), x] ∧ 0 ≤ m ∧ m < 2147483579 ∧ Same H1 H2) ⟨_, _, rfl, by decide, by decide, Same.refl _⟩ (fun i σ H2 _ ⟨_, _, _, _, _, s2⟩ => SqL.of (s2 _ _ h1)) ?_ ?_⟩
      · rintro i y σ H2 hi ⟨m, x, rfl, m0, m1, s2⟩
        obtain ⟨u, rfl⟩ : ∃ u, y = V.int u := by
          have q := List.mem_of_getElem? hi
          have q2 : y ∈ (ns.map V.int).take 63 := (cutV_take (ns.map V.int) 63) ▸ q
          obtain ⟨u, _, rfl⟩ := List.mem_map.mp (List.mem_of_mem_take q2)
          exact ⟨u, rfl⟩
        walk_at "rs"
        refine ⟨.inr (by decide), by decide, by decide, _, _, ⟨rfl, rfl⟩, ?_⟩
        exact ⟨Int.emod_nonneg _ (by decide), Int.emod_lt_of_pos _ (by decide), s2⟩
      · rintro σ H2 ⟨m, x, rfl, m0, m1, s2⟩
        exact hN _ _ ⟨m, x, rfl, m0, m1, Same.trans s1 s2⟩
    · rintro σ H2 ⟨m, x, rfl, m0, m1, s2⟩
      walk_at "rs"
      refine ⟨_, Same.seq s2 hS, fun p H3 s3 h30 h3 => ⟨_, .inl (SqL.of h3), fun l H4 s4 h40 h4 => ⟨by decide, fun q H5 s5 h50 h5 => ?_⟩⟩⟩
      have e : cutV (ns.map V.int) none (some 63) = ns.map V.int := by
        refine (cutV_take (ns.map V.int) 63).trans ?_
        rw [List.take_of_length_le (by simpa using hl)]
      rw [e] at h4
      have s25 : Same H2 H5 := Same.trans s3 (Same.trans s4 s5)
      refine k q l H5 (Same.trans s2 s25) ⟨ns, 0, 0, m, 0, h5, s5 _ _ h4, fun z => ?_, Int.le_refl _, m0, m1⟩ ?_
      · rw [z, h50] at h4; cases h4
      · exact Same.dom s2 q (Same.dom s3 q (Same.dom s4 q h50))
end
end LK

set_option Elab.async false
set_option linter.all false
set_option maxRecDepth 100000
namespace LK
open PySem PySem.Spec PyProof.Rows L2
local macro_rules | `(tactic| walk_at "rs") => `(tactic| simp only [cxK, cxNK, tCallZ, tAsg, tOp, rI0, rS0, rB0, rI, rU, tUn, rEq, rNe, rIxL, rIxT, rIxS, rSetL, rSlLU, rSlS, rSlU, rCatL, rCatU, rRepL, rIn, tVar, tC, gName, gSub, tIfS, tTest, tB, tAnd, tOr, tNot, tNotV, tAndV, tOrV, tIf, tCall, tCons, tNil, tCB, tDrop, tRet, tRetN, tNext, tLstU, tTupU, tM0, tM1, tPar, tPar3, tAug, ipI, tBM, tBM0, rAppend, rPop, tBreak, sDPut, tDGet, tDGet2, tCont, tChain, tSl, tPart, tNoPart, L2.start, List.map, List.length_cons, List.length_nil, List.replicate, List.cons_append, List.nil_append, List.append_nil, List.getElem?_cons_zero, List.getElem?_cons_succ, List.set_cons_zero, List.set_cons_succ, Option.some.injEq, V.int.injEq, V.ref.injEq, V.str.injEq, V.bl.injEq, exists_eq_left', exists_eq_left, exists_and_left, decide_eq_true_eq, List.cons.injEq, and_true, true_and, scal, Bool.not_eq_true', decide_eq_false_iff_not, Nat.zero_add, Nat.reduceAdd, Nat.reduceSub, reduceCtorEq, false_and, exists_false, false_or, or_false, CPow, CPowW, CMul, CDiv, Int.reduceToNat, ↓reduceIte, wipe, sw, rv3, tListKeys, tDIn, tDNotIn, List.nil_append, List.singleton_append])
local macro_rules | `(tactic| walk_at "st") => `(tactic| (refine seq_op fun N hN => ?_; walk_at "rs"))
local macro_rules | `(tactic| walk_at "sd") => `(tactic| first | assumption | decide | omega)
local macro_rules | `(tactic| walk_at "rd") => `(tactic| repeat (first
  | refine ⟨_, SqL.of (by assumption), ?_⟩ | refine ⟨_, SqL.of upd_same, ?_⟩ | refine ⟨_, .inl (SqL.of (by assumption)), ?_⟩ | refine ⟨_, (by assumption : _ = some (HO.lst _)), ?_⟩ | refine ⟨_, upd_same, ?_⟩
  | refine ⟨_, rfl, ?_⟩ | refine And.intro (by walk_at "sd") ?_))

theorem Kp.bn {b : Addr} {H H' : Hp} (k : Kp b H H') {o : HO} (h : H' b = some o) {p : Addr} (h0 : H' p = none) : H p = none := k.dom h p h0
theorem sqT_hb {N : Nat} {K : PySem.W.Frag} {H : Hp} {b c q : Addr} {xs : List V} (B : Bag N H b c) (h : SqT K H q xs) : SqT K (hb H b) q xs := by
  obtain ⟨yb, eb⟩ := B.at
  rcases h with (h | ⟨o, h⟩) | h
  · refine .inl (.inl ?_)
    rw [hb_ne]; exact h
    intro e; rw [e, eb] at h; cases h
  · refine .inl (.inr ⟨o, ?_⟩)
    rw [hb_ne]; exact h
    intro e; rw [e, eb] at h; cases h
  · exact .inr h
theorem seqT_kp {N : Nat} {K : PySem.W.Frag} {H H' : Hp} {b c q : Addr} {xs : List V} (B : Bag N H b c) (k : Kp b H H') (h : SqT K H q xs) : SqT K H' q xs := Same.seqT (hb_le H' b) (Same.seqT k (sqT_hb B h))
theorem new_ne {N : Nat} {b c p : Addr} {H : Hp} (B : Bag N H b c) (h0 : H p = none) : p ≠ b := fun e => by
  obtain ⟨xb, eb⟩ := B.at
  rw [e, eb] at h0; cases h0
theorem of_lst {N : Nat} {K : PySem.W.Frag} {H : Hp} {b c p : Addr} (B : Bag (N + 1) H b c) {ys : List V} (h : H p = some (.lst ys)) (n : p ≠ b) (ne : ys ≠ []) (hl : ys.length ≤ 1000000) {Q : VK} {E : XK} (k : ∀ y H', y ∈ ys → Bag N H' b c → Kp b H H' → Q y H') : sp__law_of K [.ref b, .ref p] H Q E :=
  ⟨b, c, .ref p, ys, N, rfl, B, .inl ⟨p, rfl, SqL.of h⟩, .inl ⟨p, rfl, SqL.of (by rw [hb_ne n]; exact h)⟩, ne, hl, k⟩
end LK

set_option Elab.async false
set_option linter.all false
set_option maxRecDepth 100000
namespace LK
open PySem PySem.Spec PyProof.Rows L2
local macro_rules | `(tactic| walk_at "rs") => `(tactic| simp only [cxK, cxNK, tCallZ, tAsg, tOp, rI0, rS0, rB0, rI, rU, tUn, rEq, rNe, rIxL, rIxT, rIxS, rSetL, rSlLU, rSlS, rSlU, rCatL, rCatU, rRepL, rIn, tVar, tC, gName, gSub, tIfS, tTest, tB, tAnd, tOr, tNot, tNotV, tAndV, tOrV, tIf, tCall, tCons, tNil, tCB, tDrop, tRet, tRetN, tNext, tLstU, tTupU, tM0, tM1, tPar, tPar3, tAug, ipI, tBM, tBM0, rAppend, rPop, tBreak, sDPut, tDGet, tDGet2, tCont, tChain, tSl, tPart, tNoPart, L2.start, List.map, List.length_cons, List.length_nil, List.replicate, List.cons_append, List.nil_append, List.append_nil, List.getElem?_cons_zero, List.getElem?_cons_succ, List.set_cons_zero, List.set_cons_succ, Option.some.injEq, V.int.injEq, V.ref.injEq, V.str.injEq, V.bl.injEq, exists_eq_left', exists_eq_left, exists_and_left, decide_eq_true_eq, List.cons.injEq, and_true, true_and, scal, Bool.not_eq_true', decide_eq_false_iff_not, Nat.zero_add, Nat.reduceAdd, Nat.reduceSub, reduceCtorEq, false_and, exists_false, false_or, or_false, CPow, CPowW, CMul, CDiv, Int.reduceToNat, ↓reduceIte, wipe, sw, rv3, tListKeys, tDIn, tDNotIn, List.nil_append, List.singleton_append])
local macro_rules | `(tactic| walk_at "st") => `(tactic| (refine seq_op fun N hN => ?_; walk_at "rs"))
local macro_rules | `(tactic| walk_at "sd") => `(tactic| first | assumption | decide | omega)
local macro_rules | `(tactic| walk_at "rd") => `(tactic| repeat (first
  | refine ⟨_, SqL.of (by assumption), ?_⟩ | refine ⟨_, SqL.of upd_same, ?_⟩ | refine ⟨_, .inl (SqL.of (by assumption)), ?_⟩ | refine ⟨_, (by assumption : _ = some (HO.lst _)), ?_⟩ | refine ⟨_, upd_same, ?_⟩
  | refine ⟨_, rfl, ?_⟩ | refine And.intro (by walk_at "sd") ?_))

/-! ### items at the heap -/
theorem seqT_updO {K : PySem.W.Frag} {H : Hp} {a p : Addr} {xs : List V} {o : HO} (hp : ∀ ys, ¬ Rd H p (.tup ys)) (h : SqT K H a xs) : SqT K (L2.upd H p o) a xs := by
  rcases h with h | h
  · have ne : a ≠ p := fun e => hp _ (e ▸ h)
    rcases h with h | ⟨u, h⟩
    · exact .inl (.inl (by rw [upd_ne ne]; exact h))
    · exact .inl (.inr ⟨u, by rw [upd_ne ne]; exact h⟩)
  · exact .inr h
theorem notT_lst {H : Hp} {p : Addr} {ys : List V} (h : H p = some (.lst ys)) : ∀ zs, ¬ Rd H p (.tup zs) := fun zs r => by
  rcases r with r | ⟨u, r⟩ <;> (rw [h] at r; cases r)
theorem notT_dK {H : Hp} {p : Addr} {ys : List (L2.Key × V)} (h : H p = some (.dK ys)) : ∀ zs, ¬ Rd H p (.tup zs) := fun zs r => by
  rcases r with r | ⟨u, r⟩ <;> (rw [h] at r; cases r)
theorem notT_dT {H : Hp} {p : Addr} {ys : List (List L2.Key × V)} (h : H p = some (.dT ys)) : ∀ zs, ¬ Rd H p (.tup zs) := fun zs r => by
  rcases r with r | ⟨u, r⟩ <;> (rw [h] at r; cases r)
inductive Its (K : PySem.W.Frag) (H : Hp) : List V → List It → Prop
  | nil : Its K H [] []
  | cons {a u : Addr} {k : List Int} {f : Fr} {xs : List V} {its : List It} : SqT K H a (k.map V.int ++ [.ref u]) → Pr K H u f.1 f.2 → Its K H xs its → Its K H (.ref a :: xs) ((k, f) :: its)
section
variable {K : PySem.W.Frag} {H H' : Hp}
theorem Its.same (s : Same H H') : ∀ {xs : List V} {its : List It}, Its K H xs its → Its K H' xs its
  | _, _, .nil => .nil
  | _, _, .cons h h2 q => .cons (Same.seqT s h) (Same.seqT s h2) (q.same s)
theorem Its.len : ∀ {xs : List V} {its : List It}, Its K H xs its → xs.length = its.length
  | _, _, .nil => rfl
  | _, _, .cons _ _ q => congrArg Nat.succ q.len
theorem Its.app : ∀ {xs ys : List V} {its jts : List It}, Its K H xs its → Its K H ys jts → Its K H (xs ++ ys) (its ++ jts)
  | _, _, _, _, .nil, r => r
  | _, _, _, _, .cons h h2 q, r => .cons h h2 (q.app r)
theorem Its.rev : ∀ {xs : List V} {its : List It}, Its K H xs its → Its K H xs.reverse its.reverse
  | _, _, .nil => .nil
  | _, _, .cons h h2 q => by rw [List.reverse_cons, List.reverse_cons]; exact q.rev.app (.cons h h2 .nil)
theorem Its.take : ∀ {xs : List V} {its : List It} (n : Nat), Its K H xs its → Its K H (xs.take n) (its.take n)
  | _, _, 0, _ => .nil
  | _, _, _ + 1, .nil => .nil
  | _, _, n + 1, .cons h h2 q => .cons h h2 (q.take n)
theorem Its.drop : ∀ {xs : List V} {its : List It} (n : Nat), Its K H xs its → Its K H (xs.drop n) (its.drop n)
  | _, _, 0, h => h
  | _, _, _ + 1, .nil => .nil
  | _, _, n + 1, .cons _ _ q => q.drop n
theorem Its.get : ∀ {xs : List V} {its : List It} {n : Nat}, Its K H xs its → n < its.length → ∃ a u k f, xs[n]? = some (.ref a) ∧ its[n]? = some (k, f) ∧ SqT K H a (k.map V.int ++ [.ref u]) ∧ Pr K H u f.1 f.2
  | _, _, _, .nil, h => absurd h (Nat.not_lt_zero _)
  | _, _, 0, .cons h h2 _, _ => ⟨_, _, _, _, rfl, rfl, h, h2⟩
  | _, _, n + 1, .cons _ _ q, h => by
    obtain ⟨a, u, k, f, h1, h2, h3⟩ := q.get (n := n) (Nat.lt_of_succ_lt_succ h)
    exact ⟨a, u, k, f, h1, h2, h3⟩
theorem Its.updO {p : Addr} {o : HO} (hp : ∀ ys, ¬ Rd H p (.tup ys)) : ∀ {xs : List V} {its : List It}, Its K H xs its → Its K (L2.upd H p o) xs its
  | _, _, .nil => .nil
  | _, _, .cons h h2 q => .cons (seqT_updO hp h) (seqT_updO hp h2) (q.updO hp)
theorem Its.kp {N : Nat} {b c : Addr} (B : Bag N H b c) (k : Kp b H H') : ∀ {xs : List V} {its : List It}, Its K H xs its → Its K H' xs its
  | _, _, .nil => .nil
  | _, _, .cons h h2 q => .cons (seqT_kp B k h) (seqT_kp B k h2) (q.kp B k)
def dIt (it : It) : PyData := .tuple (it.1.map PyData.int ++ [.tuple [.int it.2.1, .int it.2.2]])
theorem dp_ints : ∀ k : List Int, DpAll K H (k.map V.int) (k.map PyData.int)
  | [] => .nil
  | i :: k => .cons (.int i) (dp_ints k)
theorem dpAll_app : ∀ {xs ys : List V} {ds es : List PyData}, DpAll K H xs ds → DpAll K H ys es → DpAll K H (xs ++ ys) (ds ++ es)
  | _, _, _, _, .nil, r => r
  | _, _, _, _, .cons h q, r => .cons h (dpAll_app q r)
theorem Its.dp : ∀ {xs : List V} {its : List It}, Its K H xs its → DpAll K H xs (its.map dIt)
  | _, _, .nil => .nil
  | _, _, .cons h h2 q => .cons (.tup h (dpAll_app (dp_ints _) (.cons (.tup h2 (.cons (.int _) (.cons (.int _) .nil))) .nil))) q.dp
end
/-! ### the normal form -/
abbrev cd (k : List Int) : Int := TS.code 2000 k
structure Norm (R : List Int → Rat) (l : List It) : Prop where
  srt : l.Pairwise fun a b => cd a.1 < cd b.1
  it : ∀ x ∈ l, low x.2 ∧ x.2.1 ≠ 0 ∧ rt x.2 = R x.1
  all : ∀ k, R k ≠ 0 → ∃ f, (k, f) ∈ l
theorem rt_null {f : Fr} (hf : low f) : rt f = 0 ↔ f.1 = 0 := by
  constructor
  · intro e
    have := rt_eq hf low_zero (by rw [e, rt_zero])
    rw [this]
  · intro e
    rw [(low_null hf).mp e, rt_zero]
theorem srt_eq : ∀ {l m : List It}, (l.Pairwise fun a b => cd a.1 < cd b.1) → (m.Pairwise fun a b => cd a.1 < cd b.1) → (∀ x, x ∈ l ↔ x ∈ m) → l = m
  | [], [], _, _, _ => rfl
  | [], b :: m, _, _, h => by have := (h b).mpr List.mem_cons_self; cases this
  | a :: l, [], _, _, h => by have := (h a).mp List.mem_cons_self; cases this
  | a :: l, b :: m, hl, hm, h => by
    rw [List.pairwise_cons] at hl hm
    have e : a = b := by
      rcases List.mem_cons.mp ((h a).mp List.mem_cons_self) with e | e
      · exact e
      · rcases List.mem_cons.mp ((h b).mpr List.mem_cons_self) with e2 | e2
        · exact e2.symm
        · have h1 := hm.1 a e
          have h2 := hl.1 b e2
          omega
    subst e
    rw [srt_eq hl.2 hm.2 fun x => ?_]
    constructor
    · intro hx
      rcases List.mem_cons.mp ((h x).mp (List.mem_cons_of_mem _ hx)) with e | e
      · subst e
        have := hl.1 x hx
        omega
      · exact e
    · intro hx
      rcases List.mem_cons.mp ((h x).mpr (List.mem_cons_of_mem _ hx)) with e | e
      · subst e
        have := hm.1 x hx
        omega
      · exact e
theorem Norm.uniq {R : List Int → Rat} {l m : List It} (h : Norm R l) (g : Norm R m) : l = m := by
  have sub : ∀ {l m : List It}, Norm R l → Norm R m → ∀ x ∈ l, x ∈ m := fun {l m} h g x hx => by
    obtain ⟨a1, a2, a3⟩ := h.it x hx
    obtain ⟨f, hf⟩ := g.all x.1 (fun z => a2 ((rt_null a1).mp (a3.trans z)))
    obtain ⟨b1, b2, b3⟩ := g.it _ hf
    have e : x.2 = f := rt_eq a1 b1 (a3.trans b3.symm)
    have : x = (x.1, f) := Prod.ext rfl e
    rw [this]; exact hf
  exact srt_eq h.srt g.srt fun x => ⟨sub h g x, sub g h x⟩
theorem accF_none {items : List It} {k : List Int} (h : ∀ it ∈ items, it.1 ≠ k) : accF items k = (0, 1) ∧ accR items k = 0 := by
  unfold accF accR
  have key : ∀ {items : List It}, (∀ it ∈ items, it.1 ≠ k) → ∀ (f : Fr) (r : Rat), items.foldl (fun acc it => if it.1 = k then plusF acc it.2 else acc) f = f ∧ items.foldl (fun acc it => if it.1 = k then acc + rt it.2 else acc) r = r := by
    intro items
    induction items with
    | nil => intro _ f r; exact ⟨rfl, rfl⟩
    | cons it items ih =>
      intro h f r
      simp only [List.foldl_cons]
      rw [if_neg (h it List.mem_cons_self), if_neg (h it List.mem_cons_self)]
      exact ih (fun x hx => h x (List.mem_cons_of_mem _ hx)) f r
  exact key h _ _
/-- sorted spots, of those with a sum that is no 0, with their sums -/
theorem norm_of {items : List It} {L : List (List Int)} (hl : ∀ it ∈ items, low it.2) (srt : L.Pairwise fun a b => cd a < cd b) (all : ∀ it ∈ items, it.1 ∈ L) : Norm (accR items) ((L.filter fun k => decide (accF items k ≠ (0, 1))).map fun k => (k, accF items k)) := by
  refine ⟨?_, fun x hx => ?_, fun k hk => ?_⟩
  · rw [List.pairwise_map]
    exact (srt.filter _).imp fun h => h
  · obtain ⟨k, hk, rfl⟩ := List.mem_map.mp hx
    have := of_decide_eq_true (List.mem_filter.mp hk).2
    obtain ⟨a, b, _⟩ := accF_spec hl k
    exact ⟨a, fun z => this ((low_null a).mp z), b⟩
  · have mk : k ∈ L := Classical.byContradiction fun n => hk (accF_none fun it hit e => n (by rw [← e]; exact all it hit)).2
    obtain ⟨a, b, _⟩ := accF_spec hl k
    refine ⟨accF items k, List.mem_map.mpr ⟨k, List.mem_filter.mpr ⟨mk, decide_eq_true fun z => hk ?_⟩, rfl⟩⟩
    rw [← b, z, rt_zero]
theorem nodup_len {α : Type} [DecidableEq α] : ∀ {l S : List α}, l.Nodup → (∀ x ∈ l, x ∈ S) → l.length ≤ S.length
  | [], _, _, _ => Nat.zero_le _
  | a :: l, S, h, hs => by
    rw [List.nodup_cons] at h
    have ha := hs a List.mem_cons_self
    have := nodup_len (l := l) (S := S.erase a) h.2 fun x hx => by
      have ne : x ≠ a := fun e => h.1 (e ▸ hx)
      exact (List.mem_erase_of_ne ne).mpr (hs x (List.mem_cons_of_mem _ hx))
    rw [List.length_erase_of_mem ha] at this
    have p : 0 < S.length := List.length_pos_of_mem ha
    rw [List.length_cons]
    omega
/-- a comprehension with a test, its items told by R -/
theorem lc_filtR {J : L2.It} {n : Nat} {G : Hp → Prop} {Y : Nat → Hp → V → Hp → Prop} (w : Walk J n G Y) {g : TG} {tt : TT} {te : TE} {vs : List Nat} {σ : L2.St} {H1 : Hp} {D : Addr} {Qd : Hp → Prop} (R : Nat → Hp → List V → Prop) (p : Nat → Bool) (hD : H1 D = none) (hn : n ≤ 1000000)
    (mono : ∀ i H H' ys, Same H H' → R i H ys → R i H' ys) (up : ∀ i H ys zs o, H D = some (.lst zs) → R i H ys → R i (L2.upd H D o) ys) (r0 : ∀ H, R 0 H [])
    (hG : ∀ H, Same H1 H → G H)
    (hs : ∀ i x H H', i < n → Same H1 H → Y i H x H' → g x (wipe σ vs) H' fun σ2 H2 => Same H H2 ∧ wipe σ2 vs = wipe σ vs ∧ (∀ Qt : Bool → Hp → Prop, (∀ H3, Same H2 H3 → Qt (p i) H3) → tt σ2 H2 Qt) ∧ (p i = false → ∀ H3 ys, R i H3 ys → R (i + 1) H3 ys) ∧ (p i = true → ∀ H3, Same H2 H3 → ∀ Q2 : VK, (∀ v H4, Same H3 H4 → (∀ ys, R i H4 ys → R (i + 1) H4 (ys ++ [v])) → Q2 v H4) → te σ2 H3 Q2))
    (gm : ∀ x σ0 H0 Q0 Q1, (∀ σ2 H2, Q0 σ2 H2 → Q1 σ2 H2) → g x σ0 H0 Q0 → g x σ0 H0 Q1)
    (hq : ∀ H' ys, Same H1 H' → H' D = some (.lst ys) → R n H' ys → Qd H') :
    ∃ W : Nat → Nat → Hp → Prop, (∃ m, W 0 m (L2.upd H1 D (.lst []))) ∧ ∀ i m H, W i m H →
      (J.stop i H ∧ Qd H) ∨ (J.go i H ∧ ∃ Nx : Hp → Prop, (∀ H', Nx H' → ∃ m', m' < m ∧ W (i + 1) m' H') ∧ ∀ x H', J.yld i H x H' → g x (wipe σ vs) H' fun σ2 H2 => wipe σ2 vs = wipe σ vs ∧ tt σ2 H2 fun b H3 =>
        if b = true then te σ2 H3 fun y H4 => ∃ acc, H4 D = some (.lst acc) ∧ acc.length < sizeLine ∧ Nx (L2.upd H4 D (.lst (acc ++ [y]))) else Nx H3) := by
  have keep : ∀ {H : Hp} {o : HO}, Same H1 H → Same H1 (L2.upd H D o) := fun s a u e => by
    rw [upd_ne (ne_of_none e hD)]; exact s _ _ e
  refine lc_it w (fun i H => Same H1 H ∧ ∃ ys, H D = some (.lst ys) ∧ ys.length ≤ i ∧ R i H ys) ⟨keep (Same.refl _), [], upd_same, Nat.le_refl _, r0 _⟩ (fun i H _ h => hG H h.1) (fun i x H H' hi ⟨s1, ys, h1, hl, hr⟩ hY => ?_) (fun H ⟨s1, ys, h1, _, hr⟩ => hq H ys s1 h1 hr)
  refine gm _ _ _ _ _ (fun σ2 H2 ⟨s2, e2, kt, kf, ke⟩ => ⟨e2, kt _ fun H3 s3 => ?_⟩) (hs i x H H' hi s1 hY)
  have s23 := Same.trans s2 s3
  have hD3 := s23 _ _ h1
  cases c : p i with
  | true =>
    rw [if_pos rfl]
    refine ke c H3 s3 _ fun v H4 s4 st => ⟨ys, s4 _ _ hD3, ?_, keep (Same.trans s1 (Same.trans s23 s4)), ys ++ [v], upd_same, ?_, up _ _ _ _ _ (s4 _ _ hD3) (st ys (mono _ _ _ _ (Same.trans s23 s4) hr))⟩
    · exact Nat.lt_of_le_of_lt hl (Nat.lt_of_lt_of_le (Nat.lt_of_lt_of_le hi hn) (by decide))
    · rw [List.length_append]
      simp only [List.length_cons, List.length_nil]
      omega
  | false =>
    rw [if_neg (by simp)]
    exact ⟨Same.trans s1 s23, ys, hD3, by omega, kf c H3 ys (mono _ _ _ _ s23 hr)⟩
end LK

set_option Elab.async false
set_option linter.all false
set_option maxRecDepth 100000
namespace LK
open PySem PySem.Spec PyProof.Rows L2
local macro_rules | `(tactic| walk_at "rs") => `(tactic| simp only [cxK, cxNK, tCallZ, tAsg, tOp, rI0, rS0, rB0, rI, rU, tUn, rEq, rNe, rIxL, rIxT, rIxS, rSetL, rSlLU, rSlS, rSlU, rCatL, rCatU, rRepL, rIn, tVar, tC, gName, gSub, tIfS, tTest, tB, tAnd, tOr, tNot, tNotV, tAndV, tOrV, tIf, tCall, tCons, tNil, tCB, tDrop, tRet, tRetN, tNext, tLstU, tTupU, tM0, tM1, tPar, tPar3, tAug, ipI, tBM, tBM0, rAppend, rPop, tBreak, sDPut, tDGet, tDGet2, tCont, tChain, tSl, tPart, tNoPart, L2.start, List.map, List.length_cons, List.length_nil, List.replicate, List.cons_append, List.nil_append, List.append_nil, List.getElem?_cons_zero, List.getElem?_cons_succ, List.set_cons_zero, List.set_cons_succ, Option.some.injEq, V.int.injEq, V.ref.injEq, V.str.injEq, V.bl.injEq, exists_eq_left', exists_eq_left, exists_and_left, decide_eq_true_eq, List.cons.injEq, and_true, true_and, scal, Bool.not_eq_true', decide_eq_false_iff_not, Nat.zero_add, Nat.reduceAdd, Nat.reduceSub, reduceCtorEq, false_and, exists_false, false_or, or_false, CPow, CPowW, CMul, CDiv, Int.reduceToNat, ↓reduceIte, wipe, sw, rv3, tListKeys, tDIn, tDNotIn, List.nil_append, List.singleton_append])
local macro_rules | `(tactic| walk_at "st") => `(tactic| (refine seq_op fun N hN => ?_; walk_at "rs"))
local macro_rules | `(tactic| walk_at "sd") => `(tactic| first | assumption | decide | omega)
local macro_rules | `(tactic| walk_at "rd") => `(tactic| repeat (first
  | refine ⟨_, SqL.of (by assumption), ?_⟩ | refine ⟨_, SqL.of upd_same, ?_⟩ | refine ⟨_, .inl (SqL.of (by assumption)), ?_⟩ | refine ⟨_, (by assumption : _ = some (HO.lst _)), ?_⟩ | refine ⟨_, upd_same, ?_⟩
  | refine ⟨_, rfl, ?_⟩ | refine And.intro (by walk_at "sd") ?_))

theorem for_lt {K : PySem.W.Frag} {a : Addr} {xs : List V} {g : TG} {tb : TS} {D : Ends} {σ : L2.St} {H : Hp} {tl : TE} (hv : ∀ Q : VK, Q (.ref a) H → tl σ H Q) {H0 : Hp} (h : SqL K H0 a xs ∨ SqT K H0 a xs) (Pv : Nat → L2.St → Hp → Prop) (h0 : Pv 0 σ H) (hl : ∀ i σ H', Pv i σ H' → Same H0 H')
    (hs : ∀ i x σ H, xs[i]? = some x → Pv i σ H → g x σ H fun σ2 H2 => tb { D with nx := Pv (i + 1), ct := Pv (i + 1), bk := D.nx } σ2 H2) (hd : ∀ σ H, Pv xs.length σ H → D.nx σ H) : tFor (iLT K tl) g tb D σ H := by
  rcases h with h | h
  · exact .inl (hv _ ⟨a, rfl, ⟨xs, (hl _ _ _ h0).seq h⟩, for_list (K := K) (a := a) (xs := xs) Pv h0 (fun i σ H2 _ p => (hl i σ H2 p).seq h) hs hd⟩)
  · exact .inr (hv _ ⟨a, rfl, ⟨xs, Same.seqT (hl _ _ _ h0) h⟩, for_tup (K := K) (a := a) (xs := xs) Pv h0 (fun i σ H2 _ p => Same.seqT (hl i σ H2 p) h) hs hd⟩)
theorem gm_name (i : Nat) : ∀ (x : V) (σ0 : L2.St) (H0 : Hp) (Q0 Q1 : L2.St → Hp → Prop), (∀ σ2 H2, Q0 σ2 H2 → Q1 σ2 H2) → gName i x σ0 H0 Q0 → gName i x σ0 H0 Q1 := fun _ _ _ _ _ h q => h _ _ q
theorem gm2 {K : PySem.W.Frag} (i j : Nat) : ∀ (x : V) (σ0 : L2.St) (H0 : Hp) (Q0 Q1 : L2.St → Hp → Prop), (∀ σ2 H2, Q0 σ2 H2 → Q1 σ2 H2) → gTup K 2 (gCons (gName i) (gCons (gName j) gNil)) x σ0 H0 Q0 → gTup K 2 (gCons (gName i) (gCons (gName j) gNil)) x σ0 H0 Q1 :=
  fun x σ0 H0 Q0 Q1 h ⟨a, xs, e1, e2, e3, v, r, e4, v2, r2, e5, e6, q⟩ => ⟨a, xs, e1, e2, e3, v, r, e4, v2, r2, e5, e6, h _ _ q⟩
theorem gm3 {K : PySem.W.Frag} (i j l : Nat) : ∀ (x : V) (σ0 : L2.St) (H0 : Hp) (Q0 Q1 : L2.St → Hp → Prop), (∀ σ2 H2, Q0 σ2 H2 → Q1 σ2 H2) → gTup K 3 (gCons (gName i) (gCons (gName j) (gCons (gName l) gNil))) x σ0 H0 Q0 → gTup K 3 (gCons (gName i) (gCons (gName j) (gCons (gName l) gNil))) x σ0 H0 Q1 :=
  fun x σ0 H0 Q0 Q1 h ⟨a, xs, e1, e2, e3, v, r, e4, v2, r2, e5, v3, r3, e6, e7, q⟩ => ⟨a, xs, e1, e2, e3, v, r, e4, v2, r2, e5, v3, r3, e6, e7, h _ _ q⟩
/-- a triple is taken apart -/
theorem g3_at {K : PySem.W.Frag} {i j l : Nat} {p : Addr} {u v w : V} {σ : L2.St} {H : Hp} {Q : L2.St → Hp → Prop} (h : SqT K H p [u, v, w]) (q : Q (((σ.set i (some u)).set j (some v)).set l (some w)) H) : gTup K 3 (gCons (gName i) (gCons (gName j) (gCons (gName l) gNil))) (.ref p) σ H Q := ⟨p, _, rfl, h, rfl, u, _, rfl, v, _, rfl, w, _, rfl, rfl, q⟩
theorem g2_at {K : PySem.W.Frag} {i j : Nat} {p : Addr} {u v : V} {σ : L2.St} {H : Hp} {Q : L2.St → Hp → Prop} (h : SqT K H p [u, v]) (q : Q ((σ.set i (some u)).set j (some v)) H) : gTup K 2 (gCons (gName i) (gCons (gName j) gNil)) (.ref p) σ H Q := ⟨p, _, rfl, h, rfl, u, _, rfl, v, _, rfl, rfl, q⟩
/-! ### sums in a dict -/
section
variable {κ : Type} [DecidableEq κ]
theorem valV_mem {k : κ} {v : V} : ∀ {kvs : List (κ × V)}, valV kvs k = some v → k ∈ kvs.map (·.1)
  | [], h => by cases h
  | p :: r, h => by
    by_cases e : p.1 = k
    · rw [List.map_cons, e]; exact List.mem_cons_self
    · rw [valV_neg e] at h
      exact List.mem_cons_of_mem _ (valV_mem h)
theorem keys_put (kvs : List (κ × V)) (k : κ) (v : V) : (putK kvs k v).map (·.1) = if (valV kvs k).isSome = true then kvs.map (·.1) else kvs.map (·.1) ++ [k] := by
  unfold putK
  rw [valV_any]
  by_cases c : (valV kvs k).isSome = true
  · rw [if_pos c, if_pos c, List.map_map]
    refine List.map_congr_left fun p _ => ?_
    show (if p.1 = k then (p.1, v) else p).1 = p.1
    split <;> rfl
  · rw [if_neg c, if_neg c, List.map_append]
    rfl
structure SumD (mk : List Int → κ) (d : Nat) (K : PySem.W.Frag) (H : Hp) (kvs : List (κ × V)) (items : List It) : Prop where
  inj : ∀ k k' : List Int, k.length = d → k'.length = d → mk k = mk k' → k = k'
  len : ∀ it ∈ items, it.1.length = d
  nd : (kvs.map (·.1)).Nodup
  key : ∀ x ∈ kvs.map (·.1), ∃ it ∈ items, x = mk it.1
  val : ∀ it ∈ items, ∃ u, valV kvs (mk it.1) = some (.ref u) ∧ Pr K H u (accF items it.1).1 (accF items it.1).2
variable {mk : List Int → κ} {d : Nat} {K : PySem.W.Frag} {H H' : Hp} {kvs : List (κ × V)} {items : List It}
theorem SumD.get (s : SumD mk d K H kvs items) {k : List Int} (hk : k.length = d) : (∃ u, valV kvs (mk k) = some (.ref u) ∧ Pr K H u (accF items k).1 (accF items k).2) ∨ (valV kvs (mk k) = none ∧ accF items k = (0, 1)) := by
  cases hv : valV kvs (mk k) with
  | none =>
    refine .inr ⟨rfl, (accF_none fun it hit e => ?_).1⟩
    obtain ⟨u, h1, _⟩ := s.val it hit
    rw [e, hv] at h1
    cases h1
  | some v =>
    obtain ⟨it, hit, e⟩ := s.key _ (valV_mem hv)
    obtain rfl := s.inj _ _ hk (s.len it hit) e
    obtain ⟨u, h1, h2⟩ := s.val it hit
    rw [hv] at h1
    exact .inl ⟨u, h1, h2⟩
theorem SumD.put (s : SumD mk d K H kvs items) {it : It} (hl : it.1.length = d) {t : Addr} (carry : ∀ u p q, Pr K H u p q → Pr K H' u p q) (ht : Pr K H' t (plusF (accF items it.1) it.2).1 (plusF (accF items it.1) it.2).2) : SumD mk d K H' (putK kvs (mk it.1) (.ref t)) (items ++ [it]) := by
  refine ⟨s.inj, fun x hx => ?_, ?_, fun x hx => ?_, fun x hx => ?_⟩
  · rcases List.mem_append.mp hx with hx | hx
    · exact s.len x hx
    · rw [List.mem_singleton.mp hx]; exact hl
  · rw [keys_put]
    by_cases c : (valV kvs (mk it.1)).isSome = true
    · rw [if_pos c]; exact s.nd
    · rw [if_neg c]
      refine List.nodup_append.mpr ⟨s.nd, by simp, fun x hx y hy e => ?_⟩
      obtain rfl := List.mem_singleton.mp hy
      obtain ⟨jt, hjt, e2⟩ := s.key x hx
      obtain ⟨u, h1, _⟩ := s.val jt hjt
      rw [← e2, e] at h1
      rw [h1] at c
      exact c rfl
  · rw [keys_put] at hx
    have old : x ∈ kvs.map (·.1) → ∃ jt ∈ items ++ [it], x = mk jt.1 := fun h => by
      obtain ⟨jt, hjt, e⟩ := s.key x h
      exact ⟨jt, List.mem_append_left _ hjt, e⟩
    split at hx
    · exact old hx
    · rcases List.mem_append.mp hx with hx | hx
      · exact old hx
      · exact ⟨it, List.mem_append_right _ List.mem_cons_self, List.mem_singleton.mp hx⟩
  · rw [valV_put]
    by_cases e : mk x.1 = mk it.1
    · have lx : x.1.length = d := by
        rcases List.mem_append.mp hx with hx | hx
        · exact s.len x hx
        · rw [List.mem_singleton.mp hx]; exact hl
      have e2 := s.inj _ _ lx hl e
      rw [if_pos e, accF_snoc, e2, if_pos rfl]
      exact ⟨t, rfl, ht⟩
    · rw [if_neg e, accF_snoc, if_neg fun z => e (by rw [z])]
      rcases List.mem_append.mp hx with hx | hx
      · obtain ⟨u, h1, h2⟩ := s.val x hx
        exact ⟨u, h1, carry _ _ _ h2⟩
      · exact absurd (by rw [List.mem_singleton.mp hx]) e
theorem SumD.upd (s : SumD mk d K H kvs items) (carry : ∀ u p q, Pr K H u p q → Pr K H' u p q) : SumD mk d K H' kvs items := ⟨s.inj, s.len, s.nd, s.key, fun it hit => by
  obtain ⟨u, h1, h2⟩ := s.val it hit
  exact ⟨u, h1, carry _ _ _ h2⟩⟩
end
theorem wtS_fold (k : List Int) : ∀ (b : List It) (n m : Nat), n ≤ m → n ≤ b.foldl (fun acc it => if it.1 = k then acc + (wt it.2 + 1) else acc) m
  | [], n, m, h => h
  | it :: b, n, m, h => by
    simp only [List.foldl_cons]
    by_cases e : it.1 = k
    · rw [if_pos e]; exact wtS_fold k b n _ (by omega)
    · rw [if_neg e]; exact wtS_fold k b n _ h
theorem wtS_take (items : List It) (i : Nat) (k : List Int) : wtS (items.take i) k ≤ wtS items k := by
  conv => rhs; rw [← List.take_append_drop i items]
  unfold wtS
  rw [List.foldl_append]
  exact wtS_fold k _ _ _ (Nat.le_refl _)
/-- items that may be handed in -/
structure Fit (d : Nat) (items : List It) : Prop where
  it : ∀ x ∈ items, low x.2 ∧ wt x.2 ≤ 3900 ∧ x.1.length = d ∧ TS.Bd 2000 x.1
  wt : ∀ k, wtS items k ≤ 3900
  few : ∃ S : List (List Int), S.length ≤ 62 ∧ ∀ x ∈ items, x.1 ∈ S
  len : items.length ≤ 1000
section
variable {P : Program} {w : World} {K : PySem.W.Frag} {mg : Str → Option Value} {base : Heap}
def sp_norm (K : PySem.W.Frag) (d : Nat) : Sp := fun vs H Q _ => ∃ (a : Addr) (xs : List V) (items : List It), vs = [.ref a] ∧ (SqL K H a xs ∨ SqT K H a xs) ∧ Its K H xs items ∧ Fit d items ∧
  ∀ (t : Addr) (ys : List V) (its' : List It) H', Same H H' → SqT K H' t ys → Its K H' ys its' → Norm (accR items) its' → its'.length < 64 → Q (.ref t) H'
theorem ok_normal_entries (T : Txt w K mg) : FnOk P w K mg base CX0 5 T.a_normal_entries T.d_normal_entries ["entries"] (sp_norm K 1) := by
  refine T.F_normal_entries.ok sc_normal_entries (fun vs H Q E h => ?_) (fun cdv A outer s H vs Q E hr h => ?_)
  · obtain ⟨a, xs, items, rfl, _⟩ := h
    rfl
  · obtain ⟨a, xs, items, rfl, ha, hi, fit, k⟩ := h
    have hr_plus : Room 4 _ := hr
    have G_plus := ok_plus (P := P) (base := base) T
    have hu1 : (A.deeper (envOfC "normal_entries" (defScope s_normal_entries) s.heap.objs.size T.a_normal_entries cdv)).units + 1 < cLine := Nat.lt_of_le_of_lt (Nat.add_le_add_left (by decide : 1 ≤ 64) _) hr.units
    have lx := hi.len
    refine ⟨_, (pss_cons (ps_set (i := 1) sc_normal_entries.nd rfl (Or.inr rfl) pe_dnewK)
      (pss_cons (ps_for PassesOwn.never rfl (pi_lt (pv 0)) (pg_tup rfl (pgs_cons (pg_name (i := 2) sc_normal_entries.nd rfl (Or.inl rfl)) (pgs_cons (pg_name (i := 3) sc_normal_entries.nd rfl (Or.inl rfl)) pgs_nil))) (pss_one (ps_dput hu1 (pv 1) (pv 2) (pe_call G_plus hr_plus (by rfl) T.m_plus T.F_plus.kp T.B_plus .nil pass0 (pa_cons (pe_dget2 hu1 (pv 1) (pv 2) (pe_glob (v := .ref T.a_ZERO) (by rfl) T.m_ZERO rfl) ⟨rfl, rfl, rfl, rfl⟩) (pa_cons (pv 3) pa_nil))) rfl)))
      (pss_one (ps_ret (pe_callTy call_tupleN (by rfl) T.n_tuple (by decide +kernel) (pa_cons (pe_lc (own := [("column", 2)]) (g := gName 2) (tt := _) rfl sc_normal_entries.nd (pi_list (pe_callB (call_sortedDI rfl) (by rfl) T.n_sorted (by decide +kernel) (pa_cons (pv 1) pa_nil))) (blkOk_by (own := [("column", 2)]) (N := N_normal_entries) (sc := defScope s_normal_entries) (by decide +kernel)) (fun _ _ _ _ _ => pg_name (i := 2) sc_normal_entries.nd rfl (Or.inl rfl)) (fun _ _ _ _ _ => pts_one (pt_cmpR (op_neDK (K := K) rfl hr.units) (pe_dget hu1 (pv 1) (pv 2) (fun _ _ => rfl)) (pe_glob (v := .ref T.a_ZERO) (by rfl) T.m_ZERO rfl) (nomark _))) (fun _ _ _ _ _ => (pe_tupU (pa_cons (pv 2) (pa_cons (pe_dget hu1 (pv 1) (pv 2) (fun _ _ => rfl)) pa_nil))))) pa_nil)))))), ?_⟩
    refine seq_op fun N hN => ?_
    walk_at "rs"
    refine fun D hD => hN _ _ ?_
    clear hN N
    have s0 : Same H (L2.upd H D (.dK [])) := same_upd hD
    refine cut_seq (fun σ G => ∃ (x2 x3 : Option V) (kvs : List (L2.Key × V)), σ = [some (.ref a), some (.ref D), x2, x3] ∧ Same H G ∧ G D = some (.dK kvs) ∧ SumD (fun k => (Sum.inl (k.headD 0) : L2.Key)) 1 K G kvs items) (fun N hN => ?_) ?_
    · refine for_lt (K := K) (a := a) (xs := xs) (fun Q q => ⟨_, rfl, q⟩) ha (fun i σ G => ∃ (x2 x3 : Option V) (kvs : List (L2.Key × V)), σ = [some (.ref a), some (.ref D), x2, x3] ∧ Same H G ∧ G D = some (.dK kvs) ∧ SumD (fun k => (Sum.inl (k.headD 0) : L2.Key)) 1 K G kvs (items.take i)) ⟨_, _, [], rfl, s0, upd_same, ⟨?_, ?_, ?_, ?_, ?_⟩⟩ (fun i σ G ⟨_, _, _, _, s1, _⟩ => s1) ?_ ?_
      · intro k k' h1 h2 e
        match k, k', h1, h2 with
        | [x], [y], _, _ => injection e with e; rw [show x = y from e]
      · intro it hit; simp at hit
      · simp
      · intro x hx; simp at hx
      · intro it hit; simp at hit
      · rintro i x σ G hx ⟨x2, x3, kvs, rfl, s1, hG, sd⟩
        obtain ⟨p, u, ks, f, ex, ee, h1, h2⟩ := hi.get (n := i) (by rw [← lx]; exact (List.getElem?_eq_some_iff.mp hx).1)
        obtain rfl : x = .ref p := by rw [ex] at hx; exact (Option.some.inj hx).symm
        obtain ⟨lf, wf, ld, bd⟩ := fit.it _ (List.mem_of_getElem? ee)
        dsimp only at lf wf ld bd
        obtain ⟨c, rfl⟩ : ∃ c, ks = [c] := by
          match ks, ld with
          | [c], _ => exact ⟨c, rfl⟩
        refine g2_at (Same.seqT s1 h1) ?_
        walk_at "rs"
        have hl : ∀ it ∈ items.take i, low it.2 := fun it hit => (fit.it it (List.mem_of_mem_take hit)).1
        obtain ⟨la, _, wa⟩ := accF_spec hl [c]
        have wb : wt (accF (items.take i) [c]) ≤ 3900 := Nat.le_trans wa (Nat.le_trans (wtS_take items i [c]) (fit.wt [c]))
        have es : items.take (i + 1) = items.take i ++ [([c], f)] := by
          obtain ⟨hk, e⟩ := List.getElem?_eq_some_iff.mp ee
          rw [← List.take_append_getElem hk, e]
        have kl : kvs.length < sizeLine := by
          have := nodup_len sd.nd (S := items.map fun it => (Sum.inl (it.1.headD 0) : L2.Key)) fun x hx => by
            obtain ⟨it, hit, e⟩ := sd.key x hx
            exact List.mem_map.mpr ⟨it, List.mem_of_mem_take hit, e.symm⟩
          rw [List.length_map, List.length_map] at this
          exact Nat.lt_of_le_of_lt (Nat.le_trans this fit.len) (by decide)
        have fin : ∀ (v : Addr), Pr K G v (accF (items.take i) [c]).1 (accF (items.take i) [c]).2 → sp_two K (fun p q r s => p * s + r * q) (fun _ q _ s => q * s) [.ref v, .ref u] G (fun y G2 => ∃ G3, DPut G2 D (.int c) y G3 ∧ ∃ x2 x3, (some (V.int c) = x2 ∧ some (V.ref u) = x3) ∧ Same H G3 ∧ ∃ kvs, G3 D = some (.dK kvs) ∧ SumD (fun k => (Sum.inl (k.headD 0) : L2.Key)) 1 K G3 kvs (items.take (i + 1))) E0 := fun v hv => by
          refine plus_at T hv (Same.seqT s1 h2) la lf (by omega) (by omega) fun t G2 s2 t0 t1 => ?_
          have hG2 := s2 _ _ hG
          have sp := sd.put (it := ([c], f)) rfl (H' := L2.upd G2 D (.dK (putK kvs (Sum.inl c) (.ref t)))) (t := t) (fun u p q h => seqT_updO (notT_dK hG2) (Same.seqT s2 h)) (seqT_updO (notT_dK hG2) (.inl (.inl t1)))
          refine ⟨_, DPut.k (k := Sum.inl c) hG2 kl, _, _, ⟨rfl, rfl⟩, ?_, _, upd_same, ?_⟩
          · intro b o e
            have ne : b ≠ D := fun z => by rw [z, hD] at e; cases e
            rw [upd_ne ne]
            exact s2 _ _ (s1 _ _ e)
          · rw [es]
            exact sp
        refine ⟨.inl ⟨kvs, .inl hG⟩, _, DGet.k (k := Sum.inl c) hG, ?_⟩
        rcases sd.get (k := [c]) rfl with ⟨v, hv, pv⟩ | ⟨hv, ez⟩
        · rw [show valV kvs (Sum.inl c : L2.Key) = some (.ref v) from hv]
          exact fin v pv
        · rw [show valV kvs (Sum.inl c : L2.Key) = none from hv]
          have pz : Pr K G T.a_ZERO (accF (items.take i) [c]).1 (accF (items.take i) [c]).2 := by rw [ez]; exact T.s_ZERO G
          exact fin _ pz
      · rintro σ G ⟨x2, x3, kvs, rfl, s1, hG, sd⟩
        rw [lx, List.take_length] at sd
        exact hN _ _ ⟨_, _, _, rfl, s1, hG, sd⟩
    · rintro σ G ⟨x2, x3, kvs, rfl, s1, hG, sd⟩
      have hl : ∀ it ∈ items, low it.2 := fun it hit => (fit.it it hit).1
      obtain ⟨S, sS, mS⟩ := fit.few
      have ksE : ∃ ks : List Int, kvs.map (·.1) = ks.map Sum.inl := by
        have : ∀ l : List L2.Key, (∀ x ∈ l, ∃ it ∈ items, x = (Sum.inl (it.1.headD 0) : L2.Key)) → ∃ ks : List Int, l = ks.map Sum.inl := by
          intro l
          induction l with
          | nil => intro _; exact ⟨[], rfl⟩
          | cons x l ih =>
            intro h
            obtain ⟨it, _, e⟩ := h x List.mem_cons_self
            obtain ⟨ks, e2⟩ := ih fun y hy => h y (List.mem_cons_of_mem _ hy)
            exact ⟨it.1.headD 0 :: ks, by rw [List.map_cons, e, e2]⟩
        exact this _ sd.key
      obtain ⟨ks, eks⟩ := ksE
      have ndk : ks.Nodup := by
        have := sd.nd
        rw [eks] at this
        exact (List.pairwise_map.mp this).imp fun h e => h (by rw [e])
      have mk : ∀ c, c ∈ ks ↔ ∃ it ∈ items, it.1 = [c] := fun c => by
        constructor
        · intro hc
          obtain ⟨it, hit, e⟩ := sd.key (Sum.inl c) (by rw [eks]; exact List.mem_map_of_mem hc)
          have l1 := sd.len it hit
          refine ⟨it, hit, ?_⟩
          match hk : it.1, l1 with
          | [y], _ => rw [hk] at e; injection e with e; rw [show c = y from e]
        · rintro ⟨it, hit, e⟩
          obtain ⟨u, h1, _⟩ := sd.val it hit
          have := valV_mem h1
          rw [eks, e] at this
          obtain ⟨y, hy, e2⟩ := List.mem_map.mp this
          injection e2 with e2
          rw [show c = y from e2.symm]; exact hy
      have lk : ks.length < 64 := by
        have := nodup_len (l := ks.map fun c => [c]) (S := S) (List.pairwise_map.mpr (ndk.imp fun h e => h (by injection e))) fun x hx => by
          obtain ⟨c, hc, rfl⟩ := List.mem_map.mp hx
          obtain ⟨it, hit, e⟩ := (mk c).mp hc
          rw [← e]; exact mS it hit
        rw [List.length_map] at this
        omega
      walk_at "rs"
      refine ⟨_, rfl, D, rfl, kvs, .inl hG, ks, eks, lk, fun ss p pm pw p0 => ?_⟩
      have sG : Same G (L2.upd G p (.lst (ss.map V.int))) := same_upd p0
      have hp1 : (L2.upd G p (.lst (ss.map V.int))) p = some (.lst (ss.map V.int)) := upd_same
      generalize L2.upd G p (.lst (ss.map V.int)) = G1 at *
      have sd1 : SumD (fun k => (Sum.inl (k.headD 0) : L2.Key)) 1 K G1 kvs items := sd.upd fun u p q h => Same.seqT sG h
      have hG1 := sG _ _ hG
      have lss : ss.length = ks.length := pm.length_eq
      have srt : (ss.map fun c => [c]).Pairwise fun a b => cd a < cd b := by
        rw [List.pairwise_map]
        have nd := pm.nodup_iff.mpr ndk
        refine (pw.and nd).imp fun {x y} h => ?_
        have e1 : ∀ z : Int, cd [z] = z := fun z => by
          show z * 2000 ^ 0 + 0 = z
          omega
        rw [e1, e1]
        exact Int.lt_iff_le_and_ne.mpr h
      have nm := norm_of (items := items) (L := ss.map fun c => [c]) hl srt fun it hit => by
        obtain ⟨_, _, l1, _⟩ := fit.it it hit
        obtain ⟨c, ec⟩ : ∃ c, it.1 = [c] := by
          match hk : it.1, l1 with
          | [y], _ => exact ⟨y, rfl⟩
        rw [ec]
        exact List.mem_map.mpr ⟨c, pm.mem_iff.mpr ((mk c).mpr ⟨it, hit, ec⟩), rfl⟩
      refine ⟨p, rfl, ⟨_, SqL.of hp1⟩, fun M hM => lc_filtR (n := (ss.map V.int).length) walk_list (fun i H ys => Its K H ys ((((ss.take i).map fun c => [c]).filter fun k => decide (accF items k ≠ (0, 1))).map fun k => (k, accF items k))) (fun i => decide (accF items [ss.getD i 0] ≠ (0, 1))) hM (by rw [List.length_map]; omega) (fun i H H' ys s h => h.same s) (fun i H ys zs o hp h => h.updO (notT_lst hp)) (fun H => .nil) (fun H2 s2 => s2.seq (SqL.of hp1)) (fun i x H2 H3 hi s2 y => ?_) (gm_name 2) fun H2 ys s2 h2 r2 => ?_⟩
      · obtain ⟨rfl, hx⟩ := y
        rw [List.length_map] at hi
        have ei : ss[i]? = some (ss.getD i 0) := by rw [List.getD_eq_getElem?_getD, List.getElem?_eq_getElem hi]; rfl
        obtain rfl : x = .int (ss.getD i 0) := by
          have hx : (ss.map V.int)[i]? = some x := hx
          rw [List.getElem?_map, ei] at hx
          exact (Option.some.inj hx).symm
        have et : ss.take (i + 1) = ss.take i ++ [ss.getD i 0] := by
          obtain ⟨hk, e⟩ := List.getElem?_eq_some_iff.mp ei
          rw [← List.take_append_getElem hk, e]
        have hc : ss.getD i 0 ∈ ks := pm.mem_iff.mp (List.mem_of_getElem? ei)
        generalize ss.getD i 0 = c at *
        obtain ⟨it, hit, ec⟩ := (mk c).mp hc
        obtain ⟨u, hv, pu⟩ := sd1.val it hit
        rw [ec] at hv pu
        have hv : valV kvs (Sum.inl c : L2.Key) = some (.ref u) := hv
        refine ⟨Same.refl _, rfl, fun Qt hq => ?_, fun pf H4 ys h => ?_, fun pt H4 s4 Q2 hq => ?_⟩
        · walk_at "rs"
          have hd := DGet.k (k := (Sum.inl c : L2.Key)) (s2 _ _ hG1)
          rw [hv] at hd
          refine ⟨_, hd, _, _, dp_pair (Same.seqT s2 pu), dp_pair (T.s_ZERO _), rfl, rfl, _, rfl, ?_⟩
          rw [eqv_pair]
          have e : (!(decide ((accF items [c]).1 = 0) && decide ((accF items [c]).2 = 1))) = decide (accF items [c] ≠ (0, 1)) := by
            by_cases z : accF items [c] = (0, 1)
            · rw [z]; rfl
            · rw [decide_eq_true (p := accF items [c] ≠ (0, 1)) z]
              by_cases z1 : (accF items [c]).1 = 0
              · rw [decide_eq_false fun z2 => z (Prod.ext z1 z2), Bool.and_false]; rfl
              · rw [decide_eq_false z1]; rfl
          rw [e]
          exact hq _ (Same.refl _)
        · rw [et, List.map_append, List.filter_append, List.map_append]
          simp only [List.map_cons, List.map_nil, List.filter_cons, pf, List.filter_nil]
          simpa using h
        · walk_at "rs"
          have hd := DGet.k (k := (Sum.inl c : L2.Key)) (s4 _ _ (s2 _ _ hG1))
          rw [hv] at hd
          refine ⟨_, hd, by decide, fun q5 H5 s5 n5 t5 => hq _ H5 s5 fun ys h => ?_⟩
          rw [et, List.map_append, List.filter_append, List.map_append]
          refine h.app ?_
          simp only [List.map_cons, List.map_nil, List.filter_cons, pt, List.filter_nil, if_true]
          exact .cons (.inl (.inl t5)) (Same.seqT (Same.trans s2 (Same.trans s4 s5)) pu) .nil
      · rw [List.length_map, List.take_length] at r2
        refine ⟨M, rfl, ys, SqL.of h2, fun t H3 s3 t0 t1 => k t ys _ H3 (Same.trans s1 (Same.trans sG (Same.trans s2 s3))) (.inl (.inl t1)) (r2.same s3) nm ?_⟩
        rw [List.length_map]
        exact Nat.lt_of_le_of_lt (List.length_filter_le _ _) (by rw [List.length_map]; omega)
end
end LK

set_option Elab.async false
set_option linter.all false
set_option maxRecDepth 100000
namespace LK
open PySem PySem.Spec PyProof.Rows L2
local macro_rules | `(tactic| walk_at "rs") => `(tactic| simp only [cxK, cxNK, tCallZ, tAsg, tOp, rI0, rS0, rB0, rI, rU, tUn, rEq, rNe, rIxL, rIxT, rIxS, rSetL, rSlLU, rSlS, rSlU, rCatL, rCatU, rRepL, rIn, tVar, tC, gName, gSub, tIfS, tTest, tB, tAnd, tOr, tNot, tNotV, tAndV, tOrV, tIf, tCall, tCons, tNil, tCB, tDrop, tRet, tRetN, tNext, tLstU, tTupU, tM0, tM1, tPar, tPar3, tAug, ipI, tBM, tBM0, rAppend, rPop, tBreak, sDPut, tDGet, tDGet2, tCont, tChain, tSl, tPart, tNoPart, L2.start, List.map, List.length_cons, List.length_nil, List.replicate, List.cons_append, List.nil_append, List.append_nil, List.getElem?_cons_zero, List.getElem?_cons_succ, List.set_cons_zero, List.set_cons_succ, Option.some.injEq, V.int.injEq, V.ref.injEq, V.str.injEq, V.bl.injEq, exists_eq_left', exists_eq_left, exists_and_left, decide_eq_true_eq, List.cons.injEq, and_true, true_and, scal, Bool.not_eq_true', decide_eq_false_iff_not, Nat.zero_add, Nat.reduceAdd, Nat.reduceSub, reduceCtorEq, false_and, exists_false, false_or, or_false, CPow, CPowW, CMul, CDiv, Int.reduceToNat, ↓reduceIte, wipe, sw, rv3, tListKeys, tDIn, tDNotIn, List.nil_append, List.singleton_append])
local macro_rules | `(tactic| walk_at "st") => `(tactic| (refine seq_op fun N hN => ?_; walk_at "rs"))
local macro_rules | `(tactic| walk_at "sd") => `(tactic| first | assumption | decide | omega)
local macro_rules | `(tactic| walk_at "rd") => `(tactic| repeat (first
  | refine ⟨_, SqL.of (by assumption), ?_⟩ | refine ⟨_, SqL.of upd_same, ?_⟩ | refine ⟨_, .inl (SqL.of (by assumption)), ?_⟩ | refine ⟨_, (by assumption : _ = some (HO.lst _)), ?_⟩ | refine ⟨_, upd_same, ?_⟩
  | refine ⟨_, rfl, ?_⟩ | refine And.intro (by walk_at "sd") ?_))

theorem inl_inj : ∀ {l m : List Int}, l.map (Sum.inl : Int → L2.Key) = m.map Sum.inl → l = m
  | [], [], _ => rfl
  | [], _ :: _, e => by cases e
  | _ :: _, [], e => by cases e
  | x :: l, y :: m, e => by
    injection e with e1 e2
    injection e1 with e1
    rw [e1, inl_inj e2]
theorem kV_inl (k : List Int) : (k.map (Sum.inl : Int → L2.Key)).map kV = k.map V.int := by rw [List.map_map]; rfl
theorem cd_inj {x y x' y' : Int} (b : TS.Bd 2000 [x, y]) (b' : TS.Bd 2000 [x', y']) (e : cd [x, y] = cd [x', y']) : [x, y] = [x', y'] := by
  have e1 : ∀ a b : Int, cd [a, b] = a * 2000 + b := fun a b => by
    show a * 2000 ^ 1 + (b * 2000 ^ 0 + 0) = _
    omega
  rw [e1, e1] at e
  have h1 := b y (by simp)
  have h2 := b' y' (by simp)
  have : x = x' := by omega
  have : y = y' := by omega
  rw [‹x = x'›, ‹y = y'›]
section
variable {P : Program} {w : World} {K : PySem.W.Frag} {mg : Str → Option Value} {base : Heap}
theorem ok_normal_triples (T : Txt w K mg) : FnOk P w K mg base CX0 5 T.a_normal_triples T.d_normal_triples ["triples"] (sp_norm K 2) := by
  refine T.F_normal_triples.ok sc_normal_triples (fun vs H Q E h => ?_) (fun cdv A outer s H vs Q E hr h => ?_)
  · obtain ⟨a, xs, items, rfl, _⟩ := h
    rfl
  · obtain ⟨a, xs, items, rfl, ha, hi, fit, k⟩ := h
    have hr_plus : Room 4 _ := hr
    have G_plus := ok_plus (P := P) (base := base) T
    have hu1 : (A.deeper (envOfC "normal_triples" (defScope s_normal_triples) s.heap.objs.size T.a_normal_triples cdv)).units + 1 < cLine := Nat.lt_of_le_of_lt (Nat.add_le_add_left (by decide : 1 ≤ 64) _) hr.units
    have lx := hi.len
    refine ⟨_, (pss_cons (ps_set (i := 1) sc_normal_triples.nd rfl (Or.inr rfl) pe_dnewT)
      (pss_cons (ps_for PassesOwn.never rfl (pi_lt (pv 0)) (pg_tup rfl (pgs_cons (pg_name (i := 2) sc_normal_triples.nd rfl (Or.inl rfl)) (pgs_cons (pg_name (i := 3) sc_normal_triples.nd rfl (Or.inl rfl)) (pgs_cons (pg_name (i := 4) sc_normal_triples.nd rfl (Or.inl rfl)) pgs_nil)))) (pss_one (ps_dput hu1 (pv 1) (pe_tupU (pa_cons (pv 2) (pa_cons (pv 3) pa_nil))) (pe_call G_plus hr_plus (by rfl) T.m_plus T.F_plus.kp T.B_plus .nil pass0 (pa_cons (pe_dget2 hu1 (pv 1) (pe_tupU (pa_cons (pv 2) (pa_cons (pv 3) pa_nil))) (pe_glob (v := .ref T.a_ZERO) (by rfl) T.m_ZERO rfl) ⟨rfl, rfl, rfl, rfl⟩) (pa_cons (pv 4) pa_nil))) rfl)))
      (pss_one (ps_ret (pe_callTy call_tupleN (by rfl) T.n_tuple (by decide +kernel) (pa_cons (pe_lc (own := [("pair", 5)]) (g := gName 5) (tt := _) rfl sc_normal_triples.nd (pi_list (pe_callB (call_sortedDT rfl) (by rfl) T.n_sorted (by decide +kernel) (pa_cons (pv 1) pa_nil))) (blkOk_by (own := [("pair", 5)]) (N := N_normal_triples) (sc := defScope s_normal_triples) (by decide +kernel)) (fun _ _ _ _ _ => pg_name (i := 5) sc_normal_triples.nd rfl (Or.inl rfl)) (fun _ _ _ _ _ => pts_one (pt_cmpR (op_neDK (K := K) rfl hr.units) (pe_dget hu1 (pv 1) (pv 5) (fun _ _ => rfl)) (pe_glob (v := .ref T.a_ZERO) (by rfl) T.m_ZERO rfl) (nomark _))) (fun _ _ _ _ _ => (pe_op (op_catUK (K := K) rfl) (pv 5) (pe_tupU (pa_cons (pe_dget hu1 (pv 1) (pv 5) (fun _ _ => rfl)) pa_nil))))) pa_nil)))))), ?_⟩
    refine seq_op fun N hN => ?_
    walk_at "rs"
    refine fun D hD => hN _ _ ?_
    clear hN N
    have s0 : Same H (L2.upd H D (.dT [])) := same_upd hD
    refine cut_seq (fun σ G => ∃ (x2 x3 x4 : Option V) (kvs : List (List L2.Key × V)), σ = [some (.ref a), some (.ref D), x2, x3, x4, none] ∧ Same H G ∧ G D = some (.dT kvs) ∧ SumD (fun k => k.map (Sum.inl : Int → L2.Key)) 2 K G kvs items) (fun N hN => ?_) ?_
    · refine for_lt (K := K) (a := a) (xs := xs) (fun Q q => ⟨_, rfl, q⟩) ha (fun i σ G => ∃ (x2 x3 x4 : Option V) (kvs : List (List L2.Key × V)), σ = [some (.ref a), some (.ref D), x2, x3, x4, none] ∧ Same H G ∧ G D = some (.dT kvs) ∧ SumD (fun k => k.map (Sum.inl : Int → L2.Key)) 2 K G kvs (items.take i)) ⟨_, _, _, [], rfl, s0, upd_same, ⟨?_, ?_, ?_, ?_, ?_⟩⟩ (fun i σ G ⟨_, _, _, _, _, s1, _⟩ => s1) ?_ ?_
      · intro k k' h1 h2 e
        exact inl_inj e
      · intro it hit; simp at hit
      · simp
      · intro x hx; simp at hx
      · intro it hit; simp at hit
      · rintro i x σ G hx ⟨x2, x3, x4, kvs, rfl, s1, hG, sd⟩
        obtain ⟨p, u, ks, f, ex, ee, h1, h2⟩ := hi.get (n := i) (by rw [← lx]; exact (List.getElem?_eq_some_iff.mp hx).1)
        obtain rfl : x = .ref p := by rw [ex] at hx; exact (Option.some.inj hx).symm
        obtain ⟨lf, wf, ld, bd⟩ := fit.it _ (List.mem_of_getElem? ee)
        dsimp only at lf wf ld bd
        obtain ⟨c, d, rfl⟩ : ∃ c d, ks = [c, d] := by
          match ks, ld with
          | [c, d], _ => exact ⟨c, d, rfl⟩
        refine g3_at (Same.seqT s1 h1) ?_
        walk_at "rs"
        have hl : ∀ it ∈ items.take i, low it.2 := fun it hit => (fit.it it (List.mem_of_mem_take hit)).1
        obtain ⟨la, _, wa⟩ := accF_spec hl [c, d]
        have wb : wt (accF (items.take i) [c, d]) ≤ 3900 := Nat.le_trans wa (Nat.le_trans (wtS_take items i [c, d]) (fit.wt [c, d]))
        have es : items.take (i + 1) = items.take i ++ [([c, d], f)] := by
          obtain ⟨hk, e⟩ := List.getElem?_eq_some_iff.mp ee
          rw [← List.take_append_getElem hk, e]
        have kl : kvs.length < sizeLine := by
          have := nodup_len sd.nd (S := items.map fun it => it.1.map (Sum.inl : Int → L2.Key)) fun x hx => by
            obtain ⟨it, hit, e⟩ := sd.key x hx
            exact List.mem_map.mpr ⟨it, List.mem_of_mem_take hit, e.symm⟩
          rw [List.length_map, List.length_map] at this
          exact Nat.lt_of_le_of_lt (Nat.le_trans this fit.len) (by decide)
        refine ⟨.inr ⟨kvs, .inl hG⟩, by decide, fun p1 G1 s2 n1 t1 => ⟨_, DGet.t (k := [Sum.inl c, Sum.inl d]) (s2 _ _ hG) t1, ?_⟩⟩
        have hG1 := s2 _ _ hG
        have pz : ∃ v, (valV kvs ([Sum.inl c, Sum.inl d] : List L2.Key)).getD (V.ref T.a_ZERO) = .ref v ∧ Pr K G1 v (accF (items.take i) [c, d]).1 (accF (items.take i) [c, d]).2 := by
          rcases sd.get (k := [c, d]) rfl with ⟨v, hv, pv⟩ | ⟨hv, ez⟩
          · exact ⟨v, by rw [show valV kvs ([Sum.inl c, Sum.inl d] : List L2.Key) = some (.ref v) from hv]; rfl, Same.seqT s2 pv⟩
          · exact ⟨_, by rw [show valV kvs ([Sum.inl c, Sum.inl d] : List L2.Key) = none from hv]; rfl, by rw [ez]; exact T.s_ZERO G1⟩
        obtain ⟨v, ev, pv⟩ := pz
        rw [ev]
        refine plus_at T pv (Same.seqT (Same.trans s1 s2) h2) la lf (by omega) (by omega) fun t G2 s3 t0 t2 => ⟨by decide, fun p2 G3 s4 n2 t3 => ?_⟩
        have hG3 := s4 _ _ (s3 _ _ hG1)
        have s13 := Same.trans s2 (Same.trans s3 s4)
        have sp := sd.put (it := ([c, d], f)) rfl (H' := L2.upd G3 D (.dT (putK kvs [Sum.inl c, Sum.inl d] (.ref t)))) (t := t) (fun u p q h => seqT_updO (notT_dT hG3) (Same.seqT s13 h)) (seqT_updO (notT_dT hG3) (.inl (.inl (s4 _ _ t2))))
        refine ⟨_, DPut.t (k := [Sum.inl c, Sum.inl d]) hG3 t3 kl, _, _, _, ⟨rfl, rfl, rfl⟩, ?_, _, upd_same, ?_⟩
        · intro b o e
          have ne : b ≠ D := fun z => by rw [z, hD] at e; cases e
          rw [upd_ne ne]
          exact s13 _ _ (s1 _ _ e)
        · rw [es]
          exact sp
      · rintro σ G ⟨x2, x3, x4, kvs, rfl, s1, hG, sd⟩
        rw [lx, List.take_length] at sd
        exact hN _ _ ⟨_, _, _, _, rfl, s1, hG, sd⟩
    · rintro σ G ⟨x2, x3, x4, kvs, rfl, s1, hG, sd⟩
      have hl : ∀ it ∈ items, low it.2 := fun it hit => (fit.it it hit).1
      obtain ⟨S, sS, mS⟩ := fit.few
      have ksE : ∃ ks : List (List Int), kvs.map (·.1) = ks.map (fun k => k.map Sum.inl) ∧ ∀ k ∈ ks, ∃ it ∈ items, it.1 = k := by
        have : ∀ l : List (List L2.Key), (∀ x ∈ l, ∃ it ∈ items, x = it.1.map (Sum.inl : Int → L2.Key)) → ∃ ks : List (List Int), l = ks.map (fun k => k.map Sum.inl) ∧ ∀ k ∈ ks, ∃ it ∈ items, it.1 = k := by
          intro l
          induction l with
          | nil => intro _; exact ⟨[], rfl, fun k hk => by cases hk⟩
          | cons x l ih =>
            intro h
            obtain ⟨it, hit, e⟩ := h x List.mem_cons_self
            obtain ⟨ks, e2, e3⟩ := ih fun y hy => h y (List.mem_cons_of_mem _ hy)
            refine ⟨it.1 :: ks, by rw [List.map_cons, e, e2], fun k hk => ?_⟩
            rcases List.mem_cons.mp hk with rfl | hk
            · exact ⟨it, hit, rfl⟩
            · exact e3 k hk
        exact this _ sd.key
      obtain ⟨ks, eks, mk1⟩ := ksE
      have ndk : ks.Nodup := by
        have := sd.nd
        rw [eks] at this
        exact (List.pairwise_map.mp this).imp fun h e => h (by rw [e])
      have mk : ∀ c, c ∈ ks ↔ ∃ it ∈ items, it.1 = c := fun c => by
        refine ⟨mk1 c, ?_⟩
        rintro ⟨it, hit, rfl⟩
        obtain ⟨u, h1, _⟩ := sd.val it hit
        have := valV_mem h1
        rw [eks] at this
        obtain ⟨y, hy, e2⟩ := List.mem_map.mp this
        rw [← inl_inj e2]; exact hy
      have lk : ks.length < 64 := by
        have := nodup_len (S := S) ndk fun x hx => by
          obtain ⟨it, hit, e⟩ := (mk x).mp hx
          rw [← e]; exact mS it hit
        omega
      have kb : ∀ k ∈ ks, k.length = 2 ∧ TS.Bd 2000 k := fun k hk => by
        obtain ⟨it, hit, e⟩ := (mk k).mp hk
        obtain ⟨_, _, l1, l2⟩ := fit.it it hit
        rw [← e]; exact ⟨l1, l2⟩
      walk_at "rs"
      refine ⟨_, rfl, D, rfl, kvs, .inl hG, ks, eks, lk, 2, by decide, 2000, kb, fun ss p pm hs pw p0 => ?_⟩
      have sG : Same G (L2.upd G p (.lst (ss.map fun q => V.ref q.1))) := same_upd p0
      have hp1 : (L2.upd G p (.lst (ss.map fun q => V.ref q.1))) p = some (.lst (ss.map fun q => V.ref q.1)) := upd_same
      generalize L2.upd G p (.lst (ss.map fun q => V.ref q.1)) = G1 at *
      have sd1 : SumD (fun k => k.map (Sum.inl : Int → L2.Key)) 2 K G1 kvs items := sd.upd fun u p q h => Same.seqT sG h
      have hG1 := sG _ _ hG
      have lss : ss.length = ks.length := by rw [← pm.length_eq, List.length_map]
      have srt : (ss.map (·.2)).Pairwise fun a b => cd a < cd b := by
        have nd := pm.nodup_iff.mpr ndk
        have pw2 : (ss.map (·.2)).Pairwise fun a b => cd a ≤ cd b := List.pairwise_map.mpr pw
        refine (pw2.and nd).imp_of_mem fun {x y} hx hy h => ?_
        refine Int.lt_iff_le_and_ne.mpr ⟨h.1, fun e => h.2 ?_⟩
        obtain ⟨l1, b1⟩ := kb x (pm.mem_iff.mp hx)
        obtain ⟨l2, b2⟩ := kb y (pm.mem_iff.mp hy)
        match x, y, l1, l2, b1, b2, e with
        | [_, _], [_, _], _, _, b1, b2, e => exact cd_inj b1 b2 e
      have nm := norm_of (items := items) (L := ss.map (·.2)) hl srt fun it hit => pm.mem_iff.mpr ((mk it.1).mpr ⟨it, hit, rfl⟩)
      refine ⟨p, rfl, ⟨_, SqL.of hp1⟩, fun M hM => lc_filtR (n := (ss.map fun q => V.ref q.1).length) walk_list (fun i H ys => Its K H ys ((((ss.map fun q : Addr × List Int => q.2).take i).filter fun k => decide (accF items k ≠ (0, 1))).map fun k => (k, accF items k))) (fun i => decide (accF items ((ss.map fun q : Addr × List Int => q.2).getD i []) ≠ (0, 1))) hM (by rw [List.length_map]; omega) (fun i H H' ys s h => h.same s) (fun i H ys zs o hp h => h.updO (notT_lst hp)) (fun H => .nil) (fun H2 s2 => s2.seq (SqL.of hp1)) (fun i x H2 H3 hi s2 y => ?_) (gm_name 5) fun H2 ys s2 h2 r2 => ?_⟩
      · obtain ⟨rfl, hx⟩ := y
        rw [List.length_map] at hi
        have eq : ss[i]? = some ss[i] := List.getElem?_eq_getElem hi
        have ei : (ss.map (·.2))[i]? = some ss[i].2 := by rw [List.getElem?_map, eq]; rfl
        obtain rfl : x = .ref ss[i].1 := by
          have hx : (ss.map fun q => V.ref q.1)[i]? = some x := hx
          rw [List.getElem?_map, eq] at hx
          exact (Option.some.inj hx).symm
        have et : (ss.map (·.2)).take (i + 1) = (ss.map (·.2)).take i ++ [ss[i].2] := by
          obtain ⟨hk, e⟩ := List.getElem?_eq_some_iff.mp ei
          rw [← List.take_append_getElem hk, e]
        have eg : (ss.map (·.2)).getD i [] = ss[i].2 := by rw [List.getD_eq_getElem?_getD, ei]; rfl
        rw [eg]
        have hc : ss[i].2 ∈ ks := pm.mem_iff.mp (List.mem_of_getElem? ei)
        have hq1 := hs ss[i] (List.getElem_mem hi)
        generalize ss[i] = q at *
        obtain ⟨qa, c⟩ := q
        dsimp only at *
        obtain ⟨it, hit, ec⟩ := (mk c).mp hc
        obtain ⟨u, hv, pu⟩ := sd1.val it hit
        rw [ec] at hv pu
        have hv : valV kvs (c.map (Sum.inl : Int → L2.Key)) = some (.ref u) := hv
        have hqk : G1 qa = some (.tup ((c.map (Sum.inl : Int → L2.Key)).map kV)) := by rw [kV_inl]; exact sG _ _ hq1
        refine ⟨Same.refl _, rfl, fun Qt hq => ?_, fun pf H4 ys h => ?_, fun pt H4 s4 Q2 hq => ?_⟩
        · walk_at "rs"
          have hd := DGet.t (k := c.map (Sum.inl : Int → L2.Key)) (s2 _ _ hG1) (s2 _ _ hqk)
          rw [hv] at hd
          refine ⟨_, hd, _, _, dp_pair (Same.seqT s2 pu), dp_pair (T.s_ZERO _), rfl, rfl, _, rfl, ?_⟩
          rw [eqv_pair]
          have e : (!(decide ((accF items c).1 = 0) && decide ((accF items c).2 = 1))) = decide (accF items c ≠ (0, 1)) := by
            by_cases z : accF items c = (0, 1)
            · rw [z]; rfl
            · rw [decide_eq_true (p := accF items c ≠ (0, 1)) z]
              by_cases z1 : (accF items c).1 = 0
              · rw [decide_eq_false fun z2 => z (Prod.ext z1 z2), Bool.and_false]; rfl
              · rw [decide_eq_false z1]; rfl
          rw [e]
          exact hq _ (Same.refl _)
        · rw [et, List.filter_append, List.map_append]
          simp only [List.map_nil, List.filter_cons, pf, List.filter_nil]
          simpa using h
        · walk_at "rs"
          have s24 := Same.trans s2 s4
          have hd := DGet.t (k := c.map (Sum.inl : Int → L2.Key)) (s24 _ _ hG1) (s24 _ _ hqk)
          rw [hv] at hd
          refine ⟨_, hd, by decide, fun q5 H5 s5 n5 t5 => ⟨_, .inl (.inl (s5 _ _ (s24 _ _ (sG _ _ hq1)))), _, .inl (.inl t5), ?_, fun q6 H6 s6 hq6 => hq _ H6 (Same.trans s5 s6) fun ys h => ?_⟩⟩
          · rw [List.length_map, (kb c hc).1]
            exact (show 2 + 1 ≤ sizeLine by decide)
          · rw [et, List.filter_append, List.map_append]
            refine h.app ?_
            simp only [List.map_cons, List.map_nil, List.filter_cons, pt, List.filter_nil, if_true]
            exact .cons hq6 (Same.seqT (Same.trans s24 (Same.trans s5 s6)) pu) .nil
      · rw [List.length_map, show ss.length = (ss.map (·.2)).length from (List.length_map ..).symm, List.take_length] at r2
        refine ⟨M, rfl, ys, SqL.of h2, fun t H3 s3 t0 t1 => k t ys _ H3 (Same.trans s1 (Same.trans sG (Same.trans s2 s3))) (.inl (.inl t1)) (r2.same s3) nm ?_⟩
        rw [List.length_map]
        exact Nat.lt_of_le_of_lt (List.length_filter_le _ _) (by rw [List.length_map]; omega)
end
end LK

set_option Elab.async false
set_option linter.all false
set_option maxRecDepth 100000
namespace LK
open PySem PySem.Spec PyProof.Rows L2
local macro_rules | `(tactic| walk_at "rs") => `(tactic| simp only [cxK, cxNK, tCallZ, tAsg, tOp, rI0, rS0, rB0, rI, rU, tUn, rEq, rNe, rIxL, rIxT, rIxS, rSetL, rSlLU, rSlS, rSlU, rCatL, rCatU, rRepL, rIn, tVar, tC, gName, gSub, tIfS, tTest, tB, tAnd, tOr, tNot, tNotV, tAndV, tOrV, tIf, tCall, tCons, tNil, tCB, tDrop, tRet, tRetN, tNext, tLstU, tTupU, tM0, tM1, tPar, tPar3, tAug, ipI, tBM, tBM0, rAppend, rPop, tBreak, sDPut, tDGet, tDGet2, tCont, tChain, tSl, tPart, tNoPart, L2.start, List.map, List.length_cons, List.length_nil, List.replicate, List.cons_append, List.nil_append, List.append_nil, List.getElem?_cons_zero, List.getElem?_cons_succ, List.set_cons_zero, List.set_cons_succ, Option.some.injEq, V.int.injEq, V.ref.injEq, V.str.injEq, V.bl.injEq, exists_eq_left', exists_eq_left, exists_and_left, decide_eq_true_eq, List.cons.injEq, and_true, true_and, scal, Bool.not_eq_true', decide_eq_false_iff_not, Nat.zero_add, Nat.reduceAdd, Nat.reduceSub, reduceCtorEq, false_and, exists_false, false_or, or_false, CPow, CPowW, CMul, CDiv, Int.reduceToNat, ↓reduceIte, wipe, sw, rv3, tListKeys, tDIn, tDNotIn, List.nil_append, List.singleton_append])
local macro_rules | `(tactic| walk_at "st") => `(tactic| (refine seq_op fun N hN => ?_; walk_at "rs"))
local macro_rules | `(tactic| walk_at "sd") => `(tactic| first | assumption | decide | omega)
local macro_rules | `(tactic| walk_at "rd") => `(tactic| repeat (first
  | refine ⟨_, SqL.of (by assumption), ?_⟩ | refine ⟨_, SqL.of upd_same, ?_⟩ | refine ⟨_, .inl (SqL.of (by assumption)), ?_⟩ | refine ⟨_, (by assumption : _ = some (HO.lst _)), ?_⟩ | refine ⟨_, upd_same, ?_⟩
  | refine ⟨_, rfl, ?_⟩ | refine And.intro (by walk_at "sd") ?_))

theorem lc_accD {J : L2.It} {n : Nat} {G : Hp → Prop} {Y : Nat → Hp → V → Hp → Prop} (w : Walk J n G Y) {g : TG} {te : TE} {vs : List Nat} {σ : L2.St} {H1 : Hp} {D : Addr} {Qd : Hp → Prop} (R : Nat → Hp → List V → Prop) (hD : H1 D = none) (hn : n ≤ 1000000)
    (mono : ∀ i H H' ys, Same H H' → R i H ys → R i H' ys) (up : ∀ i H ys zs o, H D = some (.lst zs) → R i H ys → R i (L2.upd H D o) ys) (r0 : R 0 (L2.upd H1 D (.lst [])) []) (hG : ∀ H, Same H1 H → G H)
    (hs : ∀ i x H H', i < n → Same H1 H → H D ≠ none → Y i H x H' → g x (wipe σ vs) H' fun σ2 H2 => Same H H2 ∧ wipe σ2 vs = wipe σ vs ∧ ∀ Q2 : V → Hp → Prop, (∀ v H3, Same H2 H3 → (∀ ys, R i H3 ys → R (i + 1) H3 (ys ++ [v])) → Q2 v H3) → te σ2 H2 Q2)
    (gm : ∀ x σ0 H0 Q0 Q1, (∀ σ2 H2, Q0 σ2 H2 → Q1 σ2 H2) → g x σ0 H0 Q0 → g x σ0 H0 Q1)
    (hq : ∀ H' ys, Same H1 H' → H' D = some (.lst ys) → ys.length = n → R n H' ys → Qd H') :
    ∃ W : Nat → Nat → Hp → Prop, (∃ m, W 0 m (L2.upd H1 D (.lst []))) ∧ ∀ i m H, W i m H →
      (J.stop i H ∧ Qd H) ∨ (J.go i H ∧ ∃ Nx : Hp → Prop, (∀ H', Nx H' → ∃ m', m' < m ∧ W (i + 1) m' H') ∧ ∀ x H', J.yld i H x H' → g x (wipe σ vs) H' fun σ2 H2 => wipe σ2 vs = wipe σ vs ∧ tYes σ2 H2 fun b H3 =>
        if b = true then te σ2 H3 fun y H4 => ∃ acc, H4 D = some (.lst acc) ∧ acc.length < sizeLine ∧ Nx (L2.upd H4 D (.lst (acc ++ [y]))) else Nx H3) := by
  have keep : ∀ {H : Hp} {o : HO}, Same H1 H → Same H1 (L2.upd H D o) := fun s a u e => by
    rw [upd_ne (ne_of_none e hD)]; exact s _ _ e
  refine lc_it w (fun i H => Same H1 H ∧ ∃ ys, H D = some (.lst ys) ∧ ys.length = i ∧ R i H ys) ⟨keep (Same.refl _), [], upd_same, rfl, r0⟩ (fun i H _ h => hG H h.1) (fun i x H H' hi ⟨s1, ys, h1, hl, hr⟩ hY => ?_) (fun H ⟨s1, ys, h1, hl, hr⟩ => hq H ys s1 h1 hl hr)
  refine gm _ _ _ _ _ (fun σ2 H2 ⟨s2, e2, kq⟩ => ⟨e2, ?_⟩) (hs i x H H' hi s1 (by rw [h1]; exact Option.some_ne_none _) hY)
  simp only [tYes, eq_self, ite_true]
  refine kq _ fun v H3 s3 st => ?_
  have s13 := Same.trans s2 s3
  have hD3 := s13 _ _ h1
  refine ⟨ys, hD3, ?_, keep (Same.trans s1 s13), ys ++ [v], upd_same, by rw [List.length_append, hl]; rfl, up _ _ _ _ _ hD3 (st ys (mono _ _ _ _ s13 hr))⟩
  rw [hl]
  exact Nat.lt_of_lt_of_le (Nat.lt_of_lt_of_le hi hn) (by decide)
theorem lc_lt2 {K : PySem.W.Frag} {a : Addr} {xs : List V} {g : TG} {te tl : TE} {vs : List Nat} {σ : L2.St} {H1 : Hp} {Q : VK} (hv : ∀ Q : VK, Q (.ref a) H1 → tl σ H1 Q) (h : SqL K H1 a xs ∨ SqT K H1 a xs) (R : Nat → Hp → List V → Prop) (hn : xs.length ≤ 1000000)
    (mono : ∀ i H H' ys, Same H H' → R i H ys → R i H' ys) (up : ∀ D i H ys zs o, H D = some (.lst zs) → R i H ys → R i (L2.upd H D o) ys) (r0 : ∀ H, R 0 H [])
    (hs : ∀ i x H, i < xs.length → Same H1 H → xs[i]? = some x → g x (wipe σ vs) H fun σ2 H2 => Same H H2 ∧ wipe σ2 vs = wipe σ vs ∧ ∀ Q2 : VK, (∀ v H3, Same H2 H3 → (∀ ys, R i H3 ys → R (i + 1) H3 (ys ++ [v])) → Q2 v H3) → te σ2 H2 Q2)
    (gm : ∀ x σ0 H0 Q0 Q1, (∀ σ2 H2, Q0 σ2 H2 → Q1 σ2 H2) → g x σ0 H0 Q0 → g x σ0 H0 Q1)
    (hq : ∀ D H' ys, Same H1 H' → H1 D = none → H' D = some (.lst ys) → ys.length = xs.length → R xs.length H' ys → Q (.ref D) H') : tLc (iLT K tl) g tYes te vs σ H1 Q := by
  have core : ∀ {J : L2.It} {G : Hp → Prop} (w : Walk J xs.length G (YAt xs)) (hG : ∀ H, Same H1 H → G H) (D : Addr) (hD : H1 D = none), _ := fun w hG D hD => lc_accD w (g := g) (te := te) (vs := vs) (σ := σ) (D := D) (Qd := fun H => Q (.ref D) H) R hD hn mono (up D) (r0 _) hG (fun i x H H' hi s n ⟨e, hx⟩ => by
    subst e
    exact hs i x _ hi s hx) gm fun H' ys s e l p => hq D H' ys s hD e l p
  rcases h with h | h
  · exact .inl (hv _ ⟨a, rfl, ⟨xs, h⟩, fun D hD => core walk_list (fun H s => s.seq h) D hD⟩)
  · exact .inr (hv _ ⟨a, rfl, ⟨xs, h⟩, fun D hD => core walk_tup (fun H s => Same.seqT s h) D hD⟩)
end LK

set_option Elab.async false
set_option linter.all false
set_option maxRecDepth 100000
namespace LK
open PySem PySem.Spec PyProof.Rows L2
local macro_rules | `(tactic| walk_at "rs") => `(tactic| simp only [cxK, cxNK, tCallZ, tAsg, tOp, rI0, rS0, rB0, rI, rU, tUn, rEq, rNe, rIxL, rIxT, rIxS, rSetL, rSlLU, rSlS, rSlU, rCatL, rCatU, rRepL, rIn, tVar, tC, gName, gSub, tIfS, tTest, tB, tAnd, tOr, tNot, tNotV, tAndV, tOrV, tIf, tCall, tCons, tNil, tCB, tDrop, tRet, tRetN, tNext, tLstU, tTupU, tM0, tM1, tPar, tPar3, tAug, ipI, tBM, tBM0, rAppend, rPop, tBreak, sDPut, tDGet, tDGet2, tCont, tChain, tSl, tPart, tNoPart, L2.start, List.map, List.length_cons, List.length_nil, List.replicate, List.cons_append, List.nil_append, List.append_nil, List.getElem?_cons_zero, List.getElem?_cons_succ, List.set_cons_zero, List.set_cons_succ, Option.some.injEq, V.int.injEq, V.ref.injEq, V.str.injEq, V.bl.injEq, exists_eq_left', exists_eq_left, exists_and_left, decide_eq_true_eq, List.cons.injEq, and_true, true_and, scal, Bool.not_eq_true', decide_eq_false_iff_not, Nat.zero_add, Nat.reduceAdd, Nat.reduceSub, reduceCtorEq, false_and, exists_false, false_or, or_false, CPow, CPowW, CMul, CDiv, Int.reduceToNat, ↓reduceIte, wipe, sw, rv3, tListKeys, tDIn, tDNotIn, List.nil_append, List.singleton_append])
local macro_rules | `(tactic| walk_at "st") => `(tactic| (refine seq_op fun N hN => ?_; walk_at "rs"))
local macro_rules | `(tactic| walk_at "sd") => `(tactic| first | assumption | decide | omega)
local macro_rules | `(tactic| walk_at "rd") => `(tactic| repeat (first
  | refine ⟨_, SqL.of (by assumption), ?_⟩ | refine ⟨_, SqL.of upd_same, ?_⟩ | refine ⟨_, .inl (SqL.of (by assumption)), ?_⟩ | refine ⟨_, (by assumption : _ = some (HO.lst _)), ?_⟩ | refine ⟨_, upd_same, ?_⟩
  | refine ⟨_, rfl, ?_⟩ | refine And.intro (by walk_at "sd") ?_))

theorem dep_tup (ds : List PyData) : dep (.tuple ds) = depAll ds + 1 := rfl
theorem dep_lst (ds : List PyData) : dep (.list ds) = depAll ds + 1 := rfl
theorem depAll_get : ∀ {ds : List PyData} {i : Nat} {d : PyData}, ds[i]? = some d → dep d ≤ depAll ds
  | [], _, _, e => by simp at e
  | a :: r, 0, _, e => by simp at e; subst e; exact Nat.le_max_left _ _
  | a :: r, i + 1, _, e => Nat.le_trans (depAll_get (ds := r) (i := i) (by simpa using e)) (Nat.le_max_right _ _)
theorem dpa_get4 {K : PySem.W.Frag} {H : Hp} : ∀ {vs : List V} {ds : List PyData} {i : Nat} {v : V}, DpAll K H vs ds → vs[i]? = some v → ∃ d, ds[i]? = some d ∧ Dp K H v d
  | _, _, _, _, .nil, e => by simp at e
  | _, _, 0, _, .cons r _, e => by simp at e; subst e; exact ⟨_, rfl, r⟩
  | _, _, i + 1, _, .cons _ t, e => by
    obtain ⟨d, h1, h2⟩ := dpa_get4 (i := i) t (by simpa using e)
    exact ⟨d, by simpa using h1, h2⟩
theorem dpa_len4 {K : PySem.W.Frag} {H : Hp} : ∀ {vs : List V} {ds : List PyData}, DpAll K H vs ds → vs.length = ds.length
  | _, _, .nil => rfl
  | _, _, .cons _ t => by simp [dpa_len4 t]
theorem ok_get4 : ∀ {ds : List PyData} {i : Nat} {d : PyData}, okAll ds = true → ds[i]? = some d → okD d = true
  | [], _, _, _, e => by simp at e
  | a :: r, 0, _, h, e => by
    simp at e; subst e
    unfold okAll at h; rw [Bool.and_eq_true] at h; exact h.1
  | a :: r, i + 1, _, h, e => by
    unfold okAll at h; rw [Bool.and_eq_true] at h
    exact ok_get4 (i := i) h.2 (by simpa using e)
theorem isTy_leaf {d : PyData} (h1 : ∀ ds, d ≠ .list ds) (h2 : ∀ ds, d ≠ .tuple ds) : isTy "list" d = false ∧ isTy "tuple" d = false := by
  cases d <;> simp [isTy] <;> first | exact absurd rfl (h1 _) | exact absurd rfl (h2 _)
theorem walk_zipT {K : PySem.W.Frag} {a b : Addr} {xs ys : List V} {n : Nat} (hx : xs.length = n) (hy : ys.length = n) : Walk (RZ.ItzT K a b) n (fun H => SqT K H a xs ∧ SqT K H b ys) (YPair (fun i => xs[i]?) (fun i => ys[i]?)) := by
  refine ⟨fun i _ hi q => ?_, fun _ q => ⟨xs, ys, q.1, q.2, by omega⟩, fun i H v H' _ q y => ?_⟩
  · have h1 : i < xs.length := by omega
    have h2 : i < ys.length := by omega
    exact ⟨xs, ys, xs[i], ys[i], q.1, q.2, by simp [h1], by simp [h2]⟩
  · obtain ⟨T, x, z, h1, h2, h3, h4, h5⟩ := y
    exact ⟨T, x, z, h1, h2, h3, h4 xs q.1, h5 ys q.2⟩
section
variable {P : Program} {w : World} {K : PySem.W.Frag} {mg : Str → Option Value} {base : Heap}
theorem like_step (T : Txt w K mg) (n : Nat) (ih : ∀ m, m + 1 = n → FnOk P w K mg base CX0 (m + 1) T.a__law_like T.d__law_like ["got", "due"] (sp__law_like K m)) : FnOk P w K mg base CX0 (n + 1) T.a__law_like T.d__law_like ["got", "due"] (sp__law_like K n) := by
  refine T.F__law_like.ok sc__law_like (fun vs H Q E h => ?_) (fun cdv A outer s H vs Q E hr h => ?_)
  · obtain ⟨v, u, d, rfl, _⟩ := h
    rfl
  · obtain ⟨v, u, d, rfl, hv, hu, hok, hdep, k⟩ := h
    have leaf : isTy "list" d = false ∧ isTy "tuple" d = false ∨ (∃ ds, (d = .list ds ∨ d = .tuple ds)) := by
      cases d <;> first | exact .inr ⟨_, .inl rfl⟩ | exact .inr ⟨_, .inr rfl⟩ | exact .inl ⟨rfl, rfl⟩
    rcases leaf with ⟨el, et⟩ | ⟨ds, hds⟩
    · refine ⟨_, (pss_cons (ps_if (pt_val (pe_callB call_isiDT (by rfl) T.n_isinstance (by decide +kernel) (pa_cons (pv 1) (pa_cons (pe_tupU (pa_cons (pe_bltn (v := .ty "list") (u := .type "list") (by rfl) T.n_list (by decide +kernel) rfl) (pa_cons (pe_bltn (v := .ty "tuple") (u := .type "tuple") (by rfl) T.n_tuple (by decide +kernel) rfl) pa_nil))) pa_nil)))) pss_never pss_nil) (pss_cons (ps_if (PW.pt (pw_or (pt_cmpR op_isN (pv 1) pe_non (nomark _)) (pw_or1 (pt_cmpR op_isN (pv 0) pe_non (nomark _))))) (pss_one (ps_ret (pe_and (pe_cmpR op_isN (pv 1) pe_non (nomark _)) (pe_one (pe_cmpR op_isN (pv 0) pe_non (nomark _)))))) pss_nil)
      (pss_cons (ps_if (PW.pt (pw_or (pt_val (pe_callB call_isiDT (by rfl) T.n_isinstance (by decide +kernel) (pa_cons (pv 0) (pa_cons (pe_tupU (pa_cons (pe_bltn (v := .ty "list") (u := .type "list") (by rfl) T.n_list (by decide +kernel) rfl) (pa_cons (pe_bltn (v := .ty "tuple") (u := .type "tuple") (by rfl) T.n_tuple (by decide +kernel) rfl) pa_nil))) pa_nil)))) (pw_or1 (pt_cmpR op_neB (pe_callB (call_isiDK (K := K) rfl) (by rfl) T.n_isinstance (by decide +kernel) (pa_cons (pv 0) (pa_cons (pe_bltn (v := .ty "bool") (u := .type "bool") (by rfl) T.n_bool (by decide +kernel) rfl) pa_nil))) (pe_callB (call_isiDK (K := K) rfl) (by rfl) T.n_isinstance (by decide +kernel) (pa_cons (pv 1) (pa_cons (pe_bltn (v := .ty "bool") (u := .type "bool") (by rfl) T.n_bool (by decide +kernel) rfl) pa_nil))) (nomark _))))) (pss_one (ps_ret pe_bl)) pss_nil)
      (pss_cons (ps_if (PW.pt (pw_or (pt_cmpR op_neB (pe_callB (call_isiDK (K := K) rfl) (by rfl) T.n_isinstance (by decide +kernel) (pa_cons (pv 0) (pa_cons (pe_bltn (v := .ty "str") (u := .type "str") (by rfl) T.n_str (by decide +kernel) rfl) pa_nil))) (pe_callB (call_isiDK (K := K) rfl) (by rfl) T.n_isinstance (by decide +kernel) (pa_cons (pv 1) (pa_cons (pe_bltn (v := .ty "str") (u := .type "str") (by rfl) T.n_str (by decide +kernel) rfl) pa_nil))) (nomark _)) (pw_or1 (pt_cmpR op_neB (pe_callB (call_isiDK (K := K) rfl) (by rfl) T.n_isinstance (by decide +kernel) (pa_cons (pv 0) (pa_cons (pe_bltn (v := .ty "int") (u := .type "int") (by rfl) T.n_int (by decide +kernel) rfl) pa_nil))) (pe_callB (call_isiDK (K := K) rfl) (by rfl) T.n_isinstance (by decide +kernel) (pa_cons (pv 1) (pa_cons (pe_bltn (v := .ty "int") (u := .type "int") (by rfl) T.n_int (by decide +kernel) rfl) pa_nil))) (nomark _))))) (pss_one (ps_ret pe_bl)) pss_nil)
      (pss_one (ps_ret (pe_cmpR op_eq (pv 0) (pv 1) (nomark _)))))))), ?_⟩
      refine seq_op fun N hN => ?_
      walk_at "rs"
      refine ⟨by decide, fun p H1 s1 h0 h1 => ⟨_, p, ⟨rfl, rfl⟩, h1, _, dp_same s1 hu, iteFF (by rw [el, et]; decide) (hN _ _ ?_)⟩⟩
      clear hN N h1
      have hv1 := dp_same s1 hv
      have hu1 := dp_same s1 hu
      have k1 := fun H' (s : Same H1 H') => k H' (Same.trans s1 s)
      refine seq_op fun N hN => ?_
      walk_at "rs"
      by_cases cn : d = .none
      · subst cn
        cases hu
        cases hv
        exact iteTT rfl (iteTT rfl (k1 H1 (Same.refl _)))
      · have vn : v ≠ .non := fun e => by subst e; cases hv; exact cn rfl
        have un : u ≠ .non := fun e => by subst e; cases hu; exact cn rfl
        refine iteFF un (iteFF vn (hN _ _ ?_))
        clear hN N
        refine seq_op fun N hN => ?_
        walk_at "rs"
        refine ⟨by decide, fun p2 H2 s2 h02 h12 => ⟨_, p2, ⟨rfl, rfl⟩, h12, _, dp_same s2 hv1, iteFF (by rw [el, et]; decide) ?_⟩⟩
        refine ⟨_, "bool", ⟨rfl, rfl⟩, _, dp_same s2 hv1, by simp, _, "bool", ⟨rfl, rfl⟩, _, dp_same s2 hu1, by simp, iteFF (by simp) (hN _ _ ?_)⟩
        clear hN N
        refine seq_op fun N hN => ?_
        walk_at "rs"
        refine ⟨_, "str", ⟨rfl, rfl⟩, _, dp_same s2 hv1, by simp, _, "str", ⟨rfl, rfl⟩, _, dp_same s2 hu1, by simp, iteFF (by simp) ?_⟩
        refine ⟨_, "int", ⟨rfl, rfl⟩, _, dp_same s2 hv1, by simp, _, "int", ⟨rfl, rfl⟩, _, dp_same s2 hu1, by simp, iteFF (by simp) (hN _ _ ?_)⟩
        clear hN N
        walk_at "rs"
        have kk := k1 H2 s2
        have fin : scal v u = true ∧ Q (.bl (decide (v = u))) H2 := by
          cases hv with
          | non => exact absurd rfl cn
          | bl b => cases hu; exact ⟨rfl, by rw [decide_eq_true rfl]; exact kk⟩
          | int b => cases hu; exact ⟨rfl, by rw [decide_eq_true rfl]; exact kk⟩
          | str b => cases hu; exact ⟨rfl, by rw [decide_eq_true rfl]; exact kk⟩
          | lst _ _ => simp [isTy] at el
          | tup _ _ => simp [isTy] at et
        exact fin
    · obtain ⟨m, rfl⟩ : ∃ m, n = m + 1 := by
        rcases hds with rfl | rfl
        · rw [dep_lst] at hdep; exact ⟨n - 1, by omega⟩
        · rw [dep_tup] at hdep; exact ⟨n - 1, by omega⟩
      have hr__law_like : Room (m + 1) _ := hr
      have G__law_like := ih m rfl
      have hdm : depAll ds ≤ m := by
        rcases hds with rfl | rfl
        · rw [dep_lst] at hdep; omega
        · rw [dep_tup] at hdep; omega
      refine ⟨_, (pss_cons (ps_if (pt_val (pe_callB call_isiDT (by rfl) T.n_isinstance (by decide +kernel) (pa_cons (pv 1) (pa_cons (pe_tupU (pa_cons (pe_bltn (v := .ty "list") (u := .type "list") (by rfl) T.n_list (by decide +kernel) rfl) (pa_cons (pe_bltn (v := .ty "tuple") (u := .type "tuple") (by rfl) T.n_tuple (by decide +kernel) rfl) pa_nil))) pa_nil)))) (pss_cons (ps_if (PW.pt (pw_or (pt_cmpR op_neB (pe_callB (call_isiDK (K := K) rfl) (by rfl) T.n_isinstance (by decide +kernel) (pa_cons (pv 0) (pa_cons (pe_bltn (v := .ty "list") (u := .type "list") (by rfl) T.n_list (by decide +kernel) rfl) pa_nil))) (pe_callB (call_isiDK (K := K) rfl) (by rfl) T.n_isinstance (by decide +kernel) (pa_cons (pv 1) (pa_cons (pe_bltn (v := .ty "list") (u := .type "list") (by rfl) T.n_list (by decide +kernel) rfl) pa_nil))) (nomark _)) (pw_or1 (pt_cmpR op_neB (pe_callB (call_isiDK (K := K) rfl) (by rfl) T.n_isinstance (by decide +kernel) (pa_cons (pv 0) (pa_cons (pe_bltn (v := .ty "tuple") (u := .type "tuple") (by rfl) T.n_tuple (by decide +kernel) rfl) pa_nil))) (pe_callB (call_isiDK (K := K) rfl) (by rfl) T.n_isinstance (by decide +kernel) (pa_cons (pv 1) (pa_cons (pe_bltn (v := .ty "tuple") (u := .type "tuple") (by rfl) T.n_tuple (by decide +kernel) rfl) pa_nil))) (nomark _))))) (pss_one (ps_ret pe_bl)) pss_nil)
      (pss_one (ps_ret (pe_and (pe_cmpR op_eqI (pe_callB call_lenD (by rfl) T.n_len (by decide +kernel) (pa_cons (pv 0) pa_nil)) (pe_callB call_lenD (by rfl) T.n_len (by decide +kernel) (pa_cons (pv 1) pa_nil)) (nomark _)) (pe_one (pe_callB (cr_all rfl) (by rfl) T.n_all (by decide +kernel) (pa_cons (pe_lc (own := [("one", 2), ("two", 3)]) (g := gTup K 2 (gCons (gName 2) (gCons (gName 3) (gNil)))) (tt := tYes) rfl sc__law_like.nd (RZ.pi_zipA (by rfl) T.n_zip (pa_cons (pv 0) (pa_cons (pv 1) pa_nil))) (blkOk_by (own := [("one", 2), ("two", 3)]) (N := N__law_like) (sc := defScope s__law_like) (by decide +kernel)) (fun _ _ _ _ _ => by exact (pg_tup rfl (pgs_cons (pg_name (i := 2) sc__law_like.nd rfl (Or.inl rfl)) (pgs_cons (pg_name (i := 3) sc__law_like.nd rfl (Or.inl rfl)) pgs_nil)))) (fun _ _ _ _ _ => pts_nil) (fun _ _ _ _ _ => (pe_call G__law_like hr__law_like (by rfl) T.m__law_like T.F__law_like.kp T.B__law_like .nil pass0 (pa_cons (pv 2) (pa_cons (pv 3) pa_nil))))) pa_nil))))))) pss_nil) pss_never), ?_⟩
      refine seq_op fun N hN => ?_
      clear hN
      walk_at "rs"
      refine ⟨by decide, fun p H1 s1 h0 h1 => ⟨_, p, ⟨rfl, rfl⟩, h1, _, dp_same s1 hu, iteTT (by rcases hds with rfl | rfl <;> simp [isTy]) ?_⟩⟩
      clear h1
      have hv1 := dp_same s1 hv
      have hu1 := dp_same s1 hu
      have k1 := fun H' (s : Same H1 H') => k H' (Same.trans s1 s)
      refine seq_op fun N2 hN2 => ?_
      walk_at "rs"
      refine ⟨_, "list", ⟨rfl, rfl⟩, _, hv1, by simp, _, "list", ⟨rfl, rfl⟩, _, hu1, by simp, iteFF (by simp) ?_⟩
      refine ⟨_, "tuple", ⟨rfl, rfl⟩, _, hv1, by simp, _, "tuple", ⟨rfl, rfl⟩, _, hu1, by simp, iteFF (by simp) (hN2 _ _ ?_)⟩
      clear hN2 N2
      walk_at "rs"
      have gm : ∀ (x : V) (σ0 : L2.St) (H0 : Hp) (Q0 Q1 : L2.St → Hp → Prop), (∀ σ2 H2, Q0 σ2 H2 → Q1 σ2 H2) → gTup K 2 (gCons (gName 2) (gCons (gName 3) gNil)) x σ0 H0 Q0 → gTup K 2 (gCons (gName 2) (gCons (gName 3) gNil)) x σ0 H0 Q1 :=
        fun x σ0 H0 Q0 Q1 h ⟨a, xs, e1, e2, e3, v, r, e4, v2, r2, e5, e6, q⟩ => ⟨a, xs, e1, e2, e3, v, r, e4, v2, r2, e5, e6, h _ _ q⟩
      have turn : ∀ {xs ys : List V} (hx : DpAll K H1 xs ds) (hy : DpAll K H1 ys ds) (i : Nat) (x : V) (H2 H' : Hp), Same H1 H2 → YPair (fun i => xs[i]?) (fun i => ys[i]?) i H2 x H' →
          gTup K 2 (gCons (gName 2) (gCons (gName 3) gNil)) x (wipe [some v, some u, none, none] [2, 3]) H' fun σ2 H3 => Same H2 H3 ∧ wipe σ2 [2, 3] = wipe [some v, some u, none, none] [2, 3] ∧ ∀ Q2 : V → Hp → Prop, (∀ H4, Same H3 H4 → Q2 (.bl true) H4) → tCall (sp__law_like K m) [] E0 (tCons (tVar 2) (tCons (tVar 3) tNil)) σ2 H3 Q2 := by
        rintro xs ys hx hy i x H2 H' s2 ⟨T0, y1, y2, rfl, hT, rfl, h1, h2⟩
        obtain ⟨d1, e1, hd1⟩ := dpa_get4 hx h1
        obtain ⟨d2, e2, hd2⟩ := dpa_get4 hy h2
        rw [e1] at e2
        cases e2
        have s3 := Same.trans s2 (same_upd (o := .tup [y1, y2]) hT)
        refine ⟨T0, [y1, y2], rfl, .inl (.inl upd_same), rfl, y1, [y2], rfl, y2, [], rfl, rfl, same_upd hT, rfl, fun Q2 hq => ?_⟩
        refine ⟨_, rfl, _, rfl, y1, y2, d1, rfl, dp_same s3 hd1, dp_same s3 hd2, ?_, Nat.le_trans (depAll_get e1) hdm, hq⟩
        refine ok_get4 ?_ e1
        rcases hds with rfl | rfl
        · exact (okD_lst.mp hok).2
        · exact (okD_tup.mp hok).2
      have fin : ∀ {D : Addr} {H' : Hp} {n : Nat}, Same H1 H' → H' D = some (.lst ((List.range n).map fun _ => V.bl true)) → rAll K [V.ref D] H' Q := by
        intro D H' n s h
        refine ⟨D, (List.range n).map fun _ => true, rfl, SqL.of (by rw [h, List.map_map]; rfl), ?_⟩
        rw [all_map_id]
        have e : ((List.range n).all fun _ => true) = true := by simp
        rw [e]
        exact k1 H' s
      refine ⟨_, hv1, .inl ⟨ds, hds, _, hu1, .inl ⟨ds, hds, iteTT rfl ?_⟩⟩⟩
      rcases hds with rfl | rfl
      · cases hv1 with
        | @lst a xs _ ha hda =>
          cases hu1 with
          | @lst b ys _ hb hdb =>
            have lx := dpa_len4 hda
            have ly := dpa_len4 hdb
            have small : ds.length ≤ 1000000 := Nat.le_trans (okD_lst.mp hok).1 (by decide)
            exact ⟨_, rfl, _, rfl, a, b, xs, ys, rfl, .inl ⟨ha, hb, fun D hD => lc_pure (walk_zip (n := ds.length) (by omega)) hD small (fun _ => .bl true) (fun H s => ⟨Same.seq s ha, Same.seq s hb⟩) (fun i x H2 H' _ s2 y => turn hda hdb i x H2 H' s2 y) gm fun H' s h => fin s h⟩⟩
      · cases hv1 with
        | @tup a xs _ ha hda =>
          cases hu1 with
          | @tup b ys _ hb hdb =>
            have lx := dpa_len4 hda
            have ly := dpa_len4 hdb
            have small : ds.length ≤ 1000000 := Nat.le_trans (okD_tup.mp hok).1 (by decide)
            exact ⟨_, rfl, _, rfl, a, b, xs, ys, rfl, .inr ⟨ha, hb, fun D hD => lc_pure (walk_zipT (n := ds.length) lx ly) hD small (fun _ => .bl true) (fun H s => ⟨Same.seqT s ha, Same.seqT s hb⟩) (fun i x H2 H' _ s2 y => turn hda hdb i x H2 H' s2 y) gm fun H' s h => fin s h⟩⟩
theorem ok__law_like (T : Txt w K mg) : ∀ n : Nat, FnOk P w K mg base CX0 (n + 1) T.a__law_like T.d__law_like ["got", "due"] (sp__law_like K n) := by
  intro n
  induction n with
  | zero => exact like_step T 0 fun m e => by omega
  | succ n ih =>
    refine like_step T (n + 1) fun m e => ?_
    obtain rfl : m = n := by omega
    exact ih
end
end LK

set_option Elab.async false
set_option linter.all false
set_option maxRecDepth 100000
namespace LK
open PySem PySem.Spec PyProof.Rows L2
local macro_rules | `(tactic| walk_at "rs") => `(tactic| simp only [cxK, cxNK, tCallZ, tAsg, tOp, rI0, rS0, rB0, rI, rU, tUn, rEq, rNe, rIxL, rIxT, rIxS, rSetL, rSlLU, rSlS, rSlU, rCatL, rCatU, rRepL, rIn, tVar, tC, gName, gSub, tIfS, tTest, tB, tAnd, tOr, tNot, tNotV, tAndV, tOrV, tIf, tCall, tCons, tNil, tCB, tDrop, tRet, tRetN, tNext, tLstU, tTupU, tM0, tM1, tPar, tPar3, tAug, ipI, tBM, tBM0, rAppend, rPop, tBreak, sDPut, tDGet, tDGet2, tCont, tChain, tSl, tPart, tNoPart, L2.start, List.map, List.length_cons, List.length_nil, List.replicate, List.cons_append, List.nil_append, List.append_nil, List.getElem?_cons_zero, List.getElem?_cons_succ, List.set_cons_zero, List.set_cons_succ, Option.some.injEq, V.int.injEq, V.ref.injEq, V.str.injEq, V.bl.injEq, exists_eq_left', exists_eq_left, exists_and_left, decide_eq_true_eq, List.cons.injEq, and_true, true_and, scal, Bool.not_eq_true', decide_eq_false_iff_not, Nat.zero_add, Nat.reduceAdd, Nat.reduceSub, reduceCtorEq, false_and, exists_false, false_or, or_false, CPow, CPowW, CMul, CDiv, Int.reduceToNat, ↓reduceIte, wipe, sw, rv3, tListKeys, tDIn, tDNotIn, List.nil_append, List.singleton_append])
local macro_rules | `(tactic| walk_at "st") => `(tactic| (refine seq_op fun N hN => ?_; walk_at "rs"))
local macro_rules | `(tactic| walk_at "sd") => `(tactic| first | assumption | decide | omega)
local macro_rules | `(tactic| walk_at "rd") => `(tactic| repeat (first
  | refine ⟨_, SqL.of (by assumption), ?_⟩ | refine ⟨_, SqL.of upd_same, ?_⟩ | refine ⟨_, .inl (SqL.of (by assumption)), ?_⟩ | refine ⟨_, (by assumption : _ = some (HO.lst _)), ?_⟩ | refine ⟨_, upd_same, ?_⟩
  | refine ⟨_, rfl, ?_⟩ | refine And.intro (by walk_at "sd") ?_))

/-! ### fractions as rationals -/
def fq (r : Rat) : Fr := (r.num, (r.den : Int))
theorem low_fq (r : Rat) : low (fq r) := ⟨by have := r.den_pos; show 1 ≤ (r.den : Int); omega, by have := r.reduced; exact this⟩
theorem rt_fq (r : Rat) : rt (fq r) = r := Rat.num_divInt_den r
theorem fq_rt {f : Fr} (h : low f) : fq (rt f) = f := rt_eq (low_fq _) h (rt_fq _)
def bits (r : Rat) : Nat := wt (fq r)
def Fv (K : PySem.W.Frag) (H : Hp) (a : Addr) (r : Rat) : Prop := Pr K H a (fq r).1 (fq r).2
theorem fr_fq (P : Int) {Q : Int} (h : Q ≠ 0) : (frP P Q, frQ P Q) = fq (Rat.divInt P Q) := by
  obtain ⟨a, b⟩ := rt_fr P h
  rw [← a, fq_rt b]
theorem den0 (r : Rat) : (fq r).2 ≠ 0 := by have := (low_fq r).1; omega
theorem plus_fq (r s : Rat) : plusF (fq r) (fq s) = fq (r + s) := by
  obtain ⟨a, b⟩ := rt_plus (low_fq r) (low_fq s)
  rw [rt_fq, rt_fq] at a
  rw [← a, fq_rt b]
theorem div_fq (r : Rat) : r = Rat.divInt (fq r).1 (fq r).2 := (rt_fq r).symm
theorem sub_fq (r s : Rat) : r - s = Rat.divInt ((fq r).1 * (fq s).2 - (fq s).1 * (fq r).2) ((fq r).2 * (fq s).2) := by
  conv => lhs; rw [div_fq r, div_fq s]
  rw [Rat.divInt_sub_divInt _ _ (den0 r) (den0 s)]
theorem add_fq (r s : Rat) : r + s = Rat.divInt ((fq r).1 * (fq s).2 + (fq s).1 * (fq r).2) ((fq r).2 * (fq s).2) := by
  conv => lhs; rw [div_fq r, div_fq s]
  rw [Rat.divInt_add_divInt _ _ (den0 r) (den0 s)]
theorem mul_fq (r s : Rat) : r * s = Rat.divInt ((fq r).1 * (fq s).1) ((fq r).2 * (fq s).2) := by
  conv => lhs; rw [div_fq r, div_fq s]
  rw [Rat.divInt_mul_divInt]
theorem num0 {s : Rat} (h : s ≠ 0) : (fq s).1 ≠ 0 := fun e => h (by rw [div_fq s, e, Rat.zero_divInt])
theorem quo_fq (r : Rat) {s : Rat} (h : s ≠ 0) : r / s = Rat.divInt ((fq r).1 * (fq s).2) ((fq r).2 * (fq s).1) := by
  conv => lhs; rw [div_fq r, div_fq s]
  rw [Rat.div_def, Rat.inv_divInt, Rat.divInt_mul_divInt]
theorem bits_le {r : Rat} {P Q : Int} {k : Nat} (e : r = Rat.divInt P Q) (hQ : Q ≠ 0) (hk : 0 < k) (h1 : P.natAbs < 2 ^ k) (h2 : Q.natAbs < 2 ^ k) : bits r ≤ k := by
  obtain ⟨_, _, _, _, e5, e6, _⟩ := fr_spec P hQ
  have e2 := fr_fq P hQ
  unfold bits
  rw [e, ← e2]
  exact wt_le hk (Nat.lt_of_le_of_lt e5 h1) (Nat.lt_of_le_of_lt e6 h2)
theorem bits_lt (r : Rat) : (fq r).1.natAbs < 2 ^ bits r ∧ (fq r).2.natAbs < 2 ^ bits r := wt_lt (fq r)
theorem bits_pos (r : Rat) : 0 < bits r := wt_pos _
theorem bits_add (r s : Rat) : bits (r + s) ≤ bits r + bits s + 1 := by
  unfold bits
  rw [← plus_fq]
  exact wt_plus (low_fq r) (low_fq s)
theorem neg_fq (r : Rat) : fq (-r) = (-(fq r).1, (fq r).2) := by
  obtain ⟨a, b⟩ := rt_neg (low_fq r)
  rw [rt_fq] at a
  rw [← a, fq_rt b]
theorem bits_neg (r : Rat) : bits (-r) = bits r := by
  unfold bits
  rw [neg_fq]
  unfold wt
  rw [Int.natAbs_neg]
theorem bits_sub (r s : Rat) : bits (r - s) ≤ bits r + bits s + 1 := by
  rw [Rat.sub_eq_add_neg]
  have := bits_add r (-s)
  rw [bits_neg] at this
  exact this
theorem bits_mul (r s : Rat) : bits (r * s) ≤ bits r + bits s := by
  obtain ⟨a1, a2⟩ := bits_lt r
  obtain ⟨b1, b2⟩ := bits_lt s
  have := bits_pos r
  exact bits_le (mul_fq r s) (Int.mul_ne_zero (den0 r) (den0 s)) (by omega) (wide_lt a1 b1) (wide_lt a2 b2)
theorem bits_quo (r : Rat) {s : Rat} (h : s ≠ 0) : bits (r / s) ≤ bits r + bits s := by
  obtain ⟨a1, a2⟩ := bits_lt r
  obtain ⟨b1, b2⟩ := bits_lt s
  have := bits_pos r
  exact bits_le (quo_fq r h) (Int.mul_ne_zero (den0 r) (num0 h)) (by omega) (wide_lt a1 b2) (wide_lt a2 b1)
theorem bits_int {n : Int} {k : Nat} (hk : 0 < k) (h : n.natAbs < 2 ^ k) : bits (n : Rat) ≤ k := wt_le hk h (Nat.one_lt_two_pow (by omega))
theorem fq_int (n : Int) : fq (n : Rat) = (n, 1) := rfl
/-- parts of a common denominator -/
theorem bits_parts {r : Rat} {L X : Int} {k : Nat} (hL : 0 < L) (e : r * (L : Rat) = (X : Rat)) (hk : 0 < k) (h1 : X.natAbs < 2 ^ k) (h2 : L.natAbs < 2 ^ k) : bits r ≤ k := by
  have l0 : (L : Rat) ≠ 0 := by
    have : (L : Rat) ≠ ((0 : Int) : Rat) := fun z => by have := Rat.intCast_inj.mp z; omega
    exact this
  refine bits_le (P := X) (Q := L) ?_ (by omega) hk h1 h2
  rw [Rat.divInt_eq_div, ← e]
  grind
/-- signs of differences -/
theorem gap_neg (r s : Rat) : (fq r).1 * (fq s).2 - (fq s).1 * (fq r).2 ≤ 0 ↔ r ≤ s := by
  show r.num * (s.den : Int) - s.num * (r.den : Int) ≤ 0 ↔ r ≤ s
  rw [Rat.le_iff]
  omega
theorem gap_pos (r s : Rat) : 0 ≤ (fq r).1 * (fq s).2 - (fq s).1 * (fq r).2 ↔ s ≤ r := by
  rw [← gap_neg s r]
  omega
theorem num_pos (r : Rat) : 0 < (fq r).1 ↔ 0 < r := by
  have h := gap_neg r 0
  have e : fq (0 : Rat) = (0, 1) := rfl
  rw [e] at h
  simp only [Int.mul_one, Int.zero_mul, Int.sub_zero] at h
  rw [← Rat.not_le, ← h]
  omega
section
variable {P : Program} {w : World} {K : PySem.W.Frag} {mg : Str → Option Value} {base : Heap}
def sp_bin (K : PySem.W.Frag) (op : Rat → Rat → Rat) (C : Rat → Rat → Prop) : Sp := fun vs H Q _ => ∃ (a b : Addr) (r s : Rat), vs = [.ref a, .ref b] ∧ Fv K H a r ∧ Fv K H b s ∧ bits r ≤ 3990 ∧ bits s ≤ 3990 ∧ C r s ∧
  ∀ t H', Same H H' → H t = none → H' t = some (.tup [.int (fq (op r s)).1, .int (fq (op r s)).2]) → Q (.ref t) H'
end
end LK

set_option Elab.async false
set_option linter.all false
set_option maxRecDepth 100000
namespace LK
open PySem PySem.Spec PyProof.Rows L2
local macro_rules | `(tactic| walk_at "rs") => `(tactic| simp only [cxK, cxNK, tCallZ, tAsg, tOp, rI0, rS0, rB0, rI, rU, tUn, rEq, rNe, rIxL, rIxT, rIxS, rSetL, rSlLU, rSlS, rSlU, rCatL, rCatU, rRepL, rIn, tVar, tC, gName, gSub, tIfS, tTest, tB, tAnd, tOr, tNot, tNotV, tAndV, tOrV, tIf, tCall, tCons, tNil, tCB, tDrop, tRet, tRetN, tNext, tLstU, tTupU, tM0, tM1, tPar, tPar3, tAug, ipI, tBM, tBM0, rAppend, rPop, tBreak, sDPut, tDGet, tDGet2, tCont, tChain, tSl, tPart, tNoPart, L2.start, List.map, List.length_cons, List.length_nil, List.replicate, List.cons_append, List.nil_append, List.append_nil, List.getElem?_cons_zero, List.getElem?_cons_succ, List.set_cons_zero, List.set_cons_succ, Option.some.injEq, V.int.injEq, V.ref.injEq, V.str.injEq, V.bl.injEq, exists_eq_left', exists_eq_left, exists_and_left, decide_eq_true_eq, List.cons.injEq, and_true, true_and, scal, Bool.not_eq_true', decide_eq_false_iff_not, Nat.zero_add, Nat.reduceAdd, Nat.reduceSub, reduceCtorEq, false_and, exists_false, false_or, or_false, CPow, CPowW, CMul, CDiv, Int.reduceToNat, ↓reduceIte, wipe, sw, rv3, tListKeys, tDIn, tDNotIn, List.nil_append, List.singleton_append])
local macro_rules | `(tactic| walk_at "st") => `(tactic| (refine seq_op fun N hN => ?_; walk_at "rs"))
local macro_rules | `(tactic| walk_at "sd") => `(tactic| first | assumption | decide | omega)
local macro_rules | `(tactic| walk_at "rd") => `(tactic| repeat (first
  | refine ⟨_, SqL.of (by assumption), ?_⟩ | refine ⟨_, SqL.of upd_same, ?_⟩ | refine ⟨_, .inl (SqL.of (by assumption)), ?_⟩ | refine ⟨_, (by assumption : _ = some (HO.lst _)), ?_⟩ | refine ⟨_, upd_same, ?_⟩
  | refine ⟨_, rfl, ?_⟩ | refine And.intro (by walk_at "sd") ?_))

theorem b4000 {r : Rat} (h : bits r ≤ 3990) : (fq r).1.natAbs < 2 ^ 4000 ∧ (fq r).2.natAbs < 2 ^ 4000 := ⟨pow_le (bits_lt r).1 (by omega), pow_le (bits_lt r).2 (by omega)⟩
theorem dd0 (r s : Rat) : (fq r).2 * (fq s).2 ≠ 0 := Int.mul_ne_zero (den0 r) (den0 s)
theorem fq_add (r s : Rat) : fq (r + s) = (frP ((fq r).1 * (fq s).2 + (fq s).1 * (fq r).2) ((fq r).2 * (fq s).2), frQ ((fq r).1 * (fq s).2 + (fq s).1 * (fq r).2) ((fq r).2 * (fq s).2)) := (congrArg fq (add_fq r s)).trans (fr_fq _ (dd0 r s)).symm
theorem fq_sub (r s : Rat) : fq (r - s) = (frP ((fq r).1 * (fq s).2 - (fq s).1 * (fq r).2) ((fq r).2 * (fq s).2), frQ ((fq r).1 * (fq s).2 - (fq s).1 * (fq r).2) ((fq r).2 * (fq s).2)) := (congrArg fq (sub_fq r s)).trans (fr_fq _ (dd0 r s)).symm
theorem fq_mul (r s : Rat) : fq (r * s) = (frP ((fq r).1 * (fq s).1) ((fq r).2 * (fq s).2), frQ ((fq r).1 * (fq s).1) ((fq r).2 * (fq s).2)) := (congrArg fq (mul_fq r s)).trans (fr_fq _ (dd0 r s)).symm
theorem dn0 (r : Rat) {s : Rat} (h : s ≠ 0) : (fq r).2 * (fq s).1 ≠ 0 := Int.mul_ne_zero (den0 r) (num0 h)
theorem fq_quo (r : Rat) {s : Rat} (h : s ≠ 0) : fq (r / s) = (frP ((fq r).1 * (fq s).2) ((fq r).2 * (fq s).1), frQ ((fq r).1 * (fq s).2) ((fq r).2 * (fq s).1)) := (congrArg fq (quo_fq r h)).trans (fr_fq _ (dn0 r h)).symm
section
variable {P : Program} {w : World} {K : PySem.W.Frag} {mg : Str → Option Value} {base : Heap}
theorem ok_is_fraction (T : Txt w K mg) : FnOk P w K mg base CX0 2 T.a_is_fraction T.d_is_fraction ["value"] (fun vs H Q _ => ∃ (b : Addr) (f : Fr), vs = [.ref b] ∧ Pr K H b f.1 f.2 ∧ low f ∧ ∀ H', Same H H' → Q (.bl true) H') := by
  refine T.F_is_fraction.ok sc_is_fraction (fun vs H Q E h => ?_) (fun cdv A outer s H vs Q E hr h => ?_)
  · obtain ⟨b, f, rfl, _⟩ := h
    rfl
  · obtain ⟨b, f, rfl, hb, lf, k⟩ := h
    have hr_is_number : Room 1 _ := hr
    have G_is_number := ok_is_number (P := P) (base := base) T
    refine ⟨_, (pss_cons (ps_if (PW.pt (pw_or (pt_not (pt_val (pe_callB (call_isiDK (K := K) rfl) (by rfl) T.n_isinstance (by decide +kernel) (pa_cons (pv 0) (pa_cons (pe_bltn (v := .ty "tuple") (u := .type "tuple") (by rfl) T.n_tuple (by decide +kernel) rfl) pa_nil))))) (pw_or1 (pt_cmpR op_neI (pe_callB call_lenD (by rfl) T.n_len (by decide +kernel) (pa_cons (pv 0) pa_nil)) pe_int (nomark _))))) (pss_one (ps_ret pe_bl)) pss_nil)
      (pss_cons (ps_asg (pv 0) (pg_tup rfl (pgs_cons (pg_name (i := 1) sc_is_fraction.nd rfl (Or.inl rfl)) (pgs_cons (pg_name (i := 2) sc_is_fraction.nd rfl (Or.inl rfl)) pgs_nil))))
      (pss_one (ps_ret (pe_and (pe_call G_is_number hr_is_number (by rfl) T.m_is_number T.F_is_number.kp T.B_is_number .nil pass0 (pa_cons (pv 1) pa_nil)) (pe_and (pe_call G_is_number hr_is_number (by rfl) T.m_is_number T.F_is_number.kp T.B_is_number .nil pass0 (pa_cons (pv 2) pa_nil)) (pe_and (pe_cmpR op_ge (pv 2) pe_int (nomark _)) (pe_one (pe_cmpR op_eqI (pe_callBfun cr_gcd (by rfl) T.m_gcd (pa_cons (pv 1) (pa_cons (pv 2) pa_nil))) pe_int (nomark _)))))))))), ?_⟩
    refine seq_op fun N hN => ?_
    walk_at "rs"
    refine ⟨_, _, ⟨rfl, rfl⟩, _, dp_pair hb, by decide, iteFF (fun z => by cases z) ⟨_, dp_pair hb, .inl ⟨_, .inr rfl, iteFF (fun z => z rfl) (hN _ _ ?_)⟩⟩⟩
    clear hN N
    refine seq_op fun N hN => ?_
    walk_at "rs"
    refine ⟨b, _, rfl, hb, rfl, ?_⟩
    unfold gCons gNil
    walk_at "rs"
    refine ⟨_, _, ⟨rfl, rfl⟩, _, _, rfl, rfl, hN _ _ ?_⟩
    clear hN N
    walk_at "rs"
    have e : decide (((Nat.gcd f.1.natAbs f.2.natAbs : Nat) : Int) = 1) = true := decide_eq_true (by rw [lf.2]; rfl)
    refine ⟨_, .int f.1, rfl, .int _, fun H1 s1 => ⟨true, rfl, iteTT rfl ⟨_, .int f.2, rfl, .int _, fun H2 s2 => ⟨true, rfl, iteTT rfl (iteTT lf.1 ⟨f.1, f.2, rfl, _, rfl, ?_⟩)⟩⟩⟩⟩
    have q := k H2 (Same.trans s1 s2)
    rw [← e] at q
    exact q
def sp_quotient (K : PySem.W.Frag) : Sp := fun vs H Q _ => ∃ (a b : Addr) (p q r s : Int), vs = [.ref a, .ref b] ∧ Pr K H a p q ∧ Pr K H b r s ∧ p.natAbs < 2 ^ 4000 ∧ q.natAbs < 2 ^ 4000 ∧ r.natAbs < 2 ^ 4000 ∧ s.natAbs < 2 ^ 4000 ∧ q ≠ 0 ∧ r ≠ 0 ∧ 1 ≤ s ∧ Nat.gcd r.natAbs s.natAbs = 1 ∧
  (∀ t H', Same H H' → H t = none → H' t = some (.tup [.int (frP (p * s) (q * r)), .int (frQ (p * s) (q * r))]) → Q (.ref t) H')
theorem ok_quotient (T : Txt w K mg) : FnOk P w K mg base (L2.CX P w) 4 T.a_quotient T.d_quotient ["a", "b"] (sp_quotient K) := by
  refine T.F_quotient.okX sc_quotient (fun vs H Q E h => ?_) (fun cdv A outer s H vs Q E hr h => ?_)
  · obtain ⟨a, b, p, q, r, s', rfl, _⟩ := h
    rfl
  · obtain ⟨a, b, p, q, r, s', rfl, ha, hb, lp, lq, lr, ls, q0, r0, s1, hg, k⟩ := h
    have hr_is_fraction : Room 2 _ := hr.mono (by decide)
    have G_is_fraction := ok_is_fraction (P := P) (base := base) T
    have hr_fraction : Room 3 _ := hr.mono (by decide)
    have G_fraction := ok_fraction (P := P) (base := base) T
    have hr_BadValue : Room 2 _ := hr.mono (by decide)
    have G_BadValue := ok_BadValue (P := P) (base := base) T
    refine ⟨_, (pss_cons (ps_if (PW.pt (pw_or (pt_not (pt_val (pe_call G_is_fraction hr_is_fraction (by rfl) T.m_is_fraction T.F_is_fraction.kp T.B_is_fraction .nil pass0 (pa_cons (pv 1) pa_nil)))) (pw_or1 (pt_cmpR (op_eqD hr.units) (pv 1) (pe_glob (v := .ref T.a_ZERO) (by rfl) T.m_ZERO rfl) (nomark _))))) (pss_one (ps_raise rfl (takes_of rfl rfl rfl rfl) (pmk_oex T.X_BadValue T.i_BadValue T.t_BadValue G_BadValue hr_BadValue T.B_BadValue__init .nil pass0 (by rfl) T.m_BadValue (pa_cons (pv 1) pa_nil)))) pss_nil)
      (pss_one (ps_ret (pe_call G_fraction hr_fraction (by rfl) T.m_fraction T.F_fraction.kp T.B_fraction .nil passL (pa_cons (pe_op op_mulW (pe_ix ix_tup (pv 0) pe_int (fun _ _ => rfl)) (pe_ix ix_tup (pv 1) pe_int (fun _ _ => rfl))) (pa_cons (pe_op op_mulW (pe_ix ix_tup (pv 0) pe_int (fun _ _ => rfl)) (pe_ix ix_tup (pv 1) pe_int (fun _ _ => rfl))) pa_nil)))))), ?_⟩
    refine seq_op fun N hN => ?_
    walk_at "rs"
    refine ⟨(r, s'), hb, ⟨s1, hg⟩, fun H1 e1 => ⟨.tuple [.int r, .int s'], .tuple [.int 0, .int 1], dp_same e1 (dp_pair hb), dp_pair (T.s_ZERO H1), rfl, by decide +kernel, _, rfl, ?_⟩⟩
    rw [eqv_zero]
    have n0 : (decide (r = 0) && decide (s' = 1)) = false := by rw [decide_eq_false r0, Bool.false_and]
    rw [n0]
    refine iteFF (fun z => by cases z) (hN _ _ ?_)
    clear hN N
    replace ha := Same.seqT e1 ha
    replace hb := Same.seqT e1 hb
    walk_at "rs"
    refine ⟨_, ha, _, rfl, _, hb, _, rfl, _, rfl, _, rfl, mulW lp ls, _, ha, _, rfl, _, hb, _, rfl, _, rfl, _, rfl, mulW lq lr, ?_⟩
    exact ⟨_, _, rfl, logL (mulL lp ls) (by decide) (by decide), logL (mulL lq lr) (by decide) (by decide), fun _ t H' s2 h0 h2 => k t H' (Same.trans e1 s2) (Same.dom e1 t h0) h2, fun e => absurd e (Int.mul_ne_zero q0 r0)⟩
theorem ok_minus (T : Txt w K mg) : FnOk P w K mg base CX0 4 T.a_minus T.d_minus ["a", "b"] (sp_two K (fun p q r s => p * s - r * q) (fun _ q _ s => q * s)) := by
  refine T.F_minus.ok sc_minus (fun vs H Q E h => ?_) (fun cdv A outer s H vs Q E hr h => ?_)
  · obtain ⟨a, b, p, q, r, s', rfl, _⟩ := h
    rfl
  · obtain ⟨a, b, p, q, r, s', rfl, ha, hb, lp, lq, lr, ls, n0, k⟩ := h
    have hr_fraction : Room 3 _ := hr.mono (by decide)
    have G_fraction := ok_fraction (P := P) (base := base) T
    refine ⟨_, (pss_one (ps_ret (pe_call G_fraction hr_fraction (by rfl) T.m_fraction T.F_fraction.kp T.B_fraction .nil passL (pa_cons (pe_op op_sub (pe_op op_mulW (pe_ix ix_tup (pv 0) pe_int (fun _ _ => rfl)) (pe_ix ix_tup (pv 1) pe_int (fun _ _ => rfl))) (pe_op op_mulW (pe_ix ix_tup (pv 1) pe_int (fun _ _ => rfl)) (pe_ix ix_tup (pv 0) pe_int (fun _ _ => rfl)))) (pa_cons (pe_op op_mulW (pe_ix ix_tup (pv 0) pe_int (fun _ _ => rfl)) (pe_ix ix_tup (pv 1) pe_int (fun _ _ => rfl))) pa_nil))))), ?_⟩
    walk_at "rs"
    refine ⟨_, ha, _, rfl, _, hb, _, rfl, _, rfl, _, rfl, mulW lp ls, _, hb, _, rfl, _, ha, _, rfl, _, rfl, _, rfl, mulW lr lq, _, ha, _, rfl, _, hb, _, rfl, _, rfl, _, rfl, mulW lq ls, ?_⟩
    exact ⟨_, _, rfl, logL (two_sub (mulL lp ls) (mulL lr lq)) (by decide) (by decide), logL (mulL lq ls) (by decide) (by decide), fun _ => k, fun e => absurd e n0⟩
theorem ok_floor_of (T : Txt w K mg) : FnOk P w K mg base CX0 1 T.a_floor_of T.d_floor_of ["a"] (fun vs H Q _ => ∃ (a : Addr) (p q : Int), vs = [.ref a] ∧ Pr K H a p q ∧ q ≠ 0 ∧ q.natAbs < 2 ^ 4000 ∧ Q (.int (p.fdiv q)) H) := by
  refine T.F_floor_of.ok sc_floor_of (fun vs H Q E h => ?_) (fun cdv A outer s H vs Q E hr h => ?_)
  · obtain ⟨a, p, q, rfl, _⟩ := h
    rfl
  · obtain ⟨a, p, q, rfl, ha, n0, lq, k⟩ := h
    refine ⟨_, (pss_one (ps_ret (pe_op op_fdivF (pe_ix ix_tup (pv 0) pe_int (fun _ _ => rfl)) (pe_ix ix_tup (pv 0) pe_int (fun _ _ => rfl))))), ?_⟩
    walk_at "rs"
    exact ⟨_, ha, _, rfl, _, ha, _, rfl, _, rfl, _, rfl, ⟨n0, logL lq (by decide) (by decide)⟩, k⟩
theorem ok_plusR (T : Txt w K mg) : FnOk P w K mg base CX0 4 T.a_plus T.d_plus ["a", "b"] (sp_bin K (fun r s => r + s) fun _ _ => True) :=
  (ok_plus (P := P) (base := base) T).imp fun vs H Q E ⟨a, b, r, s, e, ha, hb, br, bs, _, k⟩ => ⟨a, b, _, _, _, _, e, ha, hb, (b4000 br).1, (b4000 br).2, (b4000 bs).1, (b4000 bs).2, dd0 r s, fun t H' s2 t0 t1 => k t H' s2 t0 (by rw [fq_add]; exact t1)⟩
theorem ok_minusR (T : Txt w K mg) : FnOk P w K mg base CX0 4 T.a_minus T.d_minus ["a", "b"] (sp_bin K (fun r s => r - s) fun _ _ => True) :=
  (ok_minus (P := P) (base := base) T).imp fun vs H Q E ⟨a, b, r, s, e, ha, hb, br, bs, _, k⟩ => ⟨a, b, _, _, _, _, e, ha, hb, (b4000 br).1, (b4000 br).2, (b4000 bs).1, (b4000 bs).2, dd0 r s, fun t H' s2 t0 t1 => k t H' s2 t0 (by rw [fq_sub]; exact t1)⟩
theorem ok_quotientR (T : Txt w K mg) : FnOk P w K mg base (L2.CX P w) 4 T.a_quotient T.d_quotient ["a", "b"] (sp_bin K (fun r s => r / s) fun _ s => s ≠ 0) :=
  (ok_quotient (P := P) (base := base) T).imp fun vs H Q E ⟨a, b, r, s, e, ha, hb, br, bs, n0, k⟩ => ⟨a, b, _, _, _, _, e, ha, hb, (b4000 br).1, (b4000 br).2, (b4000 bs).1, (b4000 bs).2, den0 r, num0 n0, (low_fq s).1, (low_fq s).2, fun t H' s2 t0 t1 => k t H' s2 t0 (by rw [fq_quo r n0]; exact t1)⟩
end
end LK

set_option Elab.async false
set_option linter.all false
set_option maxRecDepth 100000
namespace LK
open PySem PySem.Spec PyProof.Rows L2
local macro_rules | `(tactic| walk_at "rs") => `(tactic| simp only [cxK, cxNK, tCallZ, tAsg, tOp, rI0, rS0, rB0, rI, rU, tUn, rEq, rNe, rIxL, rIxT, rIxS, rSetL, rSlLU, rSlS, rSlU, rCatL, rCatU, rRepL, rIn, tVar, tC, gName, gSub, tIfS, tTest, tB, tAnd, tOr, tNot, tNotV, tAndV, tOrV, tIf, tCall, tCons, tNil, tCB, tDrop, tRet, tRetN, tNext, tLstU, tTupU, tM0, tM1, tPar, tPar3, tAug, ipI, tBM, tBM0, rAppend, rPop, tBreak, sDPut, tDGet, tDGet2, tCont, tChain, tSl, tPart, tNoPart, L2.start, List.map, List.length_cons, List.length_nil, List.replicate, List.cons_append, List.nil_append, List.append_nil, List.getElem?_cons_zero, List.getElem?_cons_succ, List.set_cons_zero, List.set_cons_succ, Option.some.injEq, V.int.injEq, V.ref.injEq, V.str.injEq, V.bl.injEq, exists_eq_left', exists_eq_left, exists_and_left, decide_eq_true_eq, List.cons.injEq, and_true, true_and, scal, Bool.not_eq_true', decide_eq_false_iff_not, Nat.zero_add, Nat.reduceAdd, Nat.reduceSub, reduceCtorEq, false_and, exists_false, false_or, or_false, CPow, CPowW, CMul, CDiv, Int.reduceToNat, ↓reduceIte, wipe, sw, rv3, tListKeys, tDIn, tDNotIn, List.nil_append, List.singleton_append])
local macro_rules | `(tactic| walk_at "st") => `(tactic| (refine seq_op fun N hN => ?_; walk_at "rs"))
local macro_rules | `(tactic| walk_at "sd") => `(tactic| first | assumption | decide | omega)
local macro_rules | `(tactic| walk_at "rd") => `(tactic| repeat (first
  | refine ⟨_, SqL.of (by assumption), ?_⟩ | refine ⟨_, SqL.of upd_same, ?_⟩ | refine ⟨_, .inl (SqL.of (by assumption)), ?_⟩ | refine ⟨_, (by assumption : _ = some (HO.lst _)), ?_⟩ | refine ⟨_, upd_same, ?_⟩
  | refine ⟨_, rfl, ?_⟩ | refine And.intro (by walk_at "sd") ?_))

/-! ### the law's own arithmetic -/
section
variable {P : Program} {w : World} {K : PySem.W.Frag} {mg : Str → Option Value} {base : Heap}
def sp_low : Sp := fun vs H Q _ => ∃ p q : Int, vs = [.int p, .int q] ∧ 1 ≤ q ∧ p.natAbs < 2 ^ 8001 ∧ q.natAbs < 2 ^ 8001 ∧ ∀ t H', Same H H' → H t = none → H' t = some (.tup [.int (frP p q), .int (frQ p q)]) → Q (.ref t) H'
theorem ok__law_low (T : Txt w K mg) : FnOk P w K mg base CX0 1 T.a__law_low T.d__law_low ["top", "low"] sp_low := by
  refine T.F__law_low.ok sc__law_low (fun vs H Q E h => ?_) (fun cdv A outer s H vs Q E hr h => ?_)
  · obtain ⟨p, q, rfl, _⟩ := h
    rfl
  · obtain ⟨p, q, rfl, q1, lp, lq, k⟩ := h
    refine ⟨_, (pss_cons (ps_if (pt_cmpR op_eqI (pv 1) pe_int (nomark _)) (pss_one (ps_ret (pe_tupU (pa_cons (pv 0) (pa_cons pe_int pa_nil))))) pss_nil)
      (pss_cons (ps_par (i := 2) (j := 3) (by rfl) sc__law_low.nd rfl rfl (by decide) rfl rfl (pa_cons (pe_callB call_abs (by rfl) T.n_abs (by decide +kernel) (pa_cons (pv 0) pa_nil)) (pa_cons (pv 1) pa_nil)) (by rfl))
      (pss_cons (ps_while PassesOwn.never (pt_cmpR op_neI (pv 3) pe_int (nomark _)) (pss_one (ps_par (i := 2) (j := 3) (by rfl) sc__law_low.nd rfl rfl (by decide) rfl rfl (pa_cons (pv 3) (pa_cons (pe_op op_mod (pe_callTy call_intI (by rfl) T.n_int (by decide +kernel) (pa_cons (pv 2) pa_nil)) (pv 3)) pa_nil)) (by rfl))))
      (pss_one (ps_ret (pe_tupU (pa_cons (pe_op op_fdivF (pv 0) (pv 2)) (pa_cons (pe_op op_fdivF (pv 1) (pv 2)) pa_nil)))))))), ?_⟩
    refine seq_op fun N hN => ?_
    walk_at "rs"
    have q0 : q ≠ 0 := by omega
    refine ite2 (fun z => ?_) (fun _ => hN _ _ ?_)
    · subst z
      obtain ⟨e1, e2⟩ := fr_low (p := p) (q := 1) (Int.le_refl 1) (Nat.gcd_one_right _)
      refine ⟨by decide, fun t H1 s1 t0 t1 => k t H1 s1 t0 (by rw [e1, e2]; exact t1)⟩
    clear hN N
    refine seq_op fun N hN => ?_
    walk_at "rs"
    refine ⟨_, _, ⟨rfl, rfl⟩, hN _ _ ?_⟩
    clear hN N
    refine cut_seq (fun σ H2 => σ = [some (.int p), some (.int q), some (.int ((Nat.gcd p.natAbs q.natAbs : Nat) : Int)), some (.int 0)] ∧ H2 = H) (fun N hN => ?_) ?_
    · refine while_by (fun σ H2 => ∃ a b : Nat, σ = [some (.int p), some (.int q), some (.int (a : Int)), some (.int (b : Int))] ∧ H2 = H ∧ Nat.gcd a b = Nat.gcd p.natAbs q.natAbs) (fun (σ : L2.St) (_ : Hp) => match σ[3]? with
          | some (some (V.int b)) => b.toNat
          | _ => 0) ⟨p.natAbs, q.natAbs, by rw [abs_if, show ((q.natAbs : Nat) : Int) = q by omega], rfl, rfl⟩ ?_ ?_
      · rintro σ H2 ⟨a, b, rfl, rfl, hg⟩
        walk_at "rs"
        refine ite2 (fun hb => ?_) (fun hb => ?_)
        · refine ⟨by omega, _, _, ⟨rfl, rfl⟩, ⟨b, a % b, ⟨rfl, rfl⟩, ?_⟩, ?_⟩
          · rw [← hg, Nat.gcd_comm a b, Nat.gcd_rec b a, Nat.gcd_comm]
          · show ((a : Int) % (b : Int)).toNat < (b : Int).toNat
            have := Int.emod_lt_of_pos (a : Int) (show (0 : Int) < (b : Int) by omega)
            have := Int.emod_nonneg (a : Int) hb
            omega
        · have b0 : b = 0 := by omega
          subst b0
          rw [Nat.gcd_zero_right] at hg
          rw [hg]
          exact hN _ _ ⟨rfl, rfl⟩
      · intro σ H2 Q1 Q2 h hq
        revert hq
        walk_at "rs"
        rintro ⟨v, e, i, rfl, hq⟩
        exact ⟨_, e, i, rfl, h _ _ hq⟩
    · rintro σ H2 ⟨rfl, rfl⟩
      have g0 : (Nat.gcd p.natAbs q.natAbs : Nat) ≠ 0 := fun z => q0 (by have := Nat.eq_zero_of_gcd_eq_zero_right z; omega)
      have gl := gcd_log (p := p) q0
      have ql := logL lq (by decide) (by decide)
      have eg : frG p q = ((Nat.gcd p.natAbs q.natAbs : Nat) : Int) := by
        unfold frG
        rw [if_neg (by omega)]
      walk_at "rs"
      have n0 : ((Nat.gcd p.natAbs q.natAbs : Nat) : Int) ≠ 0 := by omega
      have nl : ((Nat.gcd p.natAbs q.natAbs : Nat) : Int).natAbs.log2 < 9000 := by
        rw [Int.natAbs_natCast]; omega
      refine ⟨⟨n0, nl⟩, ⟨n0, nl⟩, by decide, ?_⟩
      rw [← eg]
      exact k
theorem lows {p q : Int} {H : Hp} {Q : VK} {E : XK} (hq : 1 ≤ q) (lp : p.natAbs < 2 ^ 8001) (lq : q.natAbs < 2 ^ 8001) (k : ∀ t H', Same H H' → H t = none → H' t = some (.tup [.int (frP p q), .int (frQ p q)]) → Q (.ref t) H') : sp_low [.int p, .int q] H Q E := ⟨p, q, rfl, hq, lp, lq, k⟩
def sp_plus2 (K : PySem.W.Frag) : Sp := fun vs H Q _ => ∃ (a b : Addr) (f g : Fr), vs = [.ref a, .ref b] ∧ Pr K H a f.1 f.2 ∧ Pr K H b g.1 g.2 ∧ low f ∧ low g ∧ wt f ≤ 3990 ∧ wt g ≤ 3990 ∧
  ∀ t H', Same H H' → H t = none → H' t = some (.tup [.int (plusF f g).1, .int (plusF f g).2]) → Q (.ref t) H'
theorem plus_whole {f g : Fr} (h1 : f.2 = 1) (h2 : g.2 = 1) : plusF f g = (f.1 + g.1, 1) := by
  unfold plusF
  rw [h1, h2, Int.mul_one, Int.mul_one, Int.mul_one]
  obtain ⟨e1, e2⟩ := fr_low (p := f.1 + g.1) (q := 1) (Int.le_refl 1) (Nat.gcd_one_right _)
  rw [e1, e2]
theorem ok__law_plus (T : Txt w K mg) : FnOk P w K mg base CX0 2 T.a__law_plus T.d__law_plus ["one", "two"] (sp_plus2 K) := by
  refine T.F__law_plus.ok sc__law_plus (fun vs H Q E h => ?_) (fun cdv A outer s H vs Q E hr h => ?_)
  · obtain ⟨a, b, f, g, rfl, _⟩ := h
    rfl
  · obtain ⟨a, b, f, g, rfl, ha, hb, lf, lg, wf, wg, k⟩ := h
    have hr__law_low : Room 1 _ := hr
    have G__law_low := ok__law_low (P := P) (base := base) T
    refine ⟨_, (pss_cons (ps_if (PW.pt (pw_and (pt_cmpR op_eqI (pe_ix ix_tup (pv 0) pe_int (fun _ _ => rfl)) pe_int (nomark _)) (pw_and1 (pt_cmpR op_eqI (pe_ix ix_tup (pv 1) pe_int (fun _ _ => rfl)) pe_int (nomark _))))) (pss_one (ps_ret (pe_tupU (pa_cons (pe_op op_add (pe_ix ix_tup (pv 0) pe_int (fun _ _ => rfl)) (pe_ix ix_tup (pv 1) pe_int (fun _ _ => rfl))) (pa_cons pe_int pa_nil))))) pss_nil)
      (pss_one (ps_ret (pe_call G__law_low hr__law_low (by rfl) T.m__law_low T.F__law_low.kp T.B__law_low .nil pass0 (pa_cons (pe_op op_add (pe_op op_mulW (pe_ix ix_tup (pv 0) pe_int (fun _ _ => rfl)) (pe_ix ix_tup (pv 1) pe_int (fun _ _ => rfl))) (pe_op op_mulW (pe_ix ix_tup (pv 1) pe_int (fun _ _ => rfl)) (pe_ix ix_tup (pv 0) pe_int (fun _ _ => rfl)))) (pa_cons (pe_op op_mulW (pe_ix ix_tup (pv 0) pe_int (fun _ _ => rfl)) (pe_ix ix_tup (pv 1) pe_int (fun _ _ => rfl))) pa_nil)))))), ?_⟩
    obtain ⟨a1, a2⟩ := wt_lt f
    obtain ⟨b1, b2⟩ := wt_lt g
    have lp : f.1.natAbs < 2 ^ 4000 := pow_le a1 (by omega)
    have lq : f.2.natAbs < 2 ^ 4000 := pow_le a2 (by omega)
    have lr : g.1.natAbs < 2 ^ 4000 := pow_le b1 (by omega)
    have ls : g.2.natAbs < 2 ^ 4000 := pow_le b2 (by omega)
    have go : sp_low [.int (f.1 * g.2 + g.1 * f.2), .int (f.2 * g.2)] H Q E0 := lows (by have := Int.mul_le_mul lf.1 lg.1 (by decide) (by have := lf.1; omega); omega) (two_add (mulL lp ls) (mulL lr lq)) (pow_le (mulL lq ls) (by decide)) k
    refine seq_op fun N hN => ?_
    walk_at "rs"
    have rest : N [some (.ref a), some (.ref b)] H := hN _ _ (by
      walk_at "rs"
      refine ⟨_, ha, _, rfl, _, hb, _, rfl, _, rfl, _, rfl, mulW lp ls, _, hb, _, rfl, _, ha, _, rfl, _, rfl, _, rfl, mulW lr lq, _, ha, _, rfl, _, hb, _, rfl, _, rfl, _, rfl, mulW lq ls, ?_⟩
      exact go)
    refine ⟨_, ha, _, rfl, _, rfl, ite2 (fun z1 => ⟨_, hb, _, rfl, _, rfl, ite2 (fun z2 => ?_) (fun _ => rest)⟩) (fun _ => rest)⟩
    refine ⟨_, ha, _, rfl, _, hb, _, rfl, _, rfl, _, rfl, by decide, fun t H1 s1 t0 t1 => k t H1 s1 t0 ?_⟩
    rw [plus_whole z1 z2]
    exact t1
def sp_times2 (K : PySem.W.Frag) : Sp := fun vs H Q _ => ∃ (a b : Addr) (f g : Fr), vs = [.ref a, .ref b] ∧ Pr K H a f.1 f.2 ∧ Pr K H b g.1 g.2 ∧ low f ∧ low g ∧ wt f ≤ 3990 ∧ wt g ≤ 3990 ∧
  ∀ t H', Same H H' → H t = none → H' t = some (.tup [.int (frP (f.1 * g.1) (f.2 * g.2)), .int (frQ (f.1 * g.1) (f.2 * g.2))]) → Q (.ref t) H'
theorem ok__law_times (T : Txt w K mg) : FnOk P w K mg base CX0 2 T.a__law_times T.d__law_times ["one", "two"] (sp_times2 K) := by
  refine T.F__law_times.ok sc__law_times (fun vs H Q E h => ?_) (fun cdv A outer s H vs Q E hr h => ?_)
  · obtain ⟨a, b, f, g, rfl, _⟩ := h
    rfl
  · obtain ⟨a, b, f, g, rfl, ha, hb, lf, lg, wf, wg, k⟩ := h
    have hr__law_low : Room 1 _ := hr
    have G__law_low := ok__law_low (P := P) (base := base) T
    refine ⟨_, (pss_one (ps_ret (pe_call G__law_low hr__law_low (by rfl) T.m__law_low T.F__law_low.kp T.B__law_low .nil pass0 (pa_cons (pe_op op_mulW (pe_ix ix_tup (pv 0) pe_int (fun _ _ => rfl)) (pe_ix ix_tup (pv 1) pe_int (fun _ _ => rfl))) (pa_cons (pe_op op_mulW (pe_ix ix_tup (pv 0) pe_int (fun _ _ => rfl)) (pe_ix ix_tup (pv 1) pe_int (fun _ _ => rfl))) pa_nil))))), ?_⟩
    obtain ⟨a1, a2⟩ := wt_lt f
    obtain ⟨b1, b2⟩ := wt_lt g
    have lp : f.1.natAbs < 2 ^ 4000 := pow_le a1 (by omega)
    have lq : f.2.natAbs < 2 ^ 4000 := pow_le a2 (by omega)
    have lr : g.1.natAbs < 2 ^ 4000 := pow_le b1 (by omega)
    have ls : g.2.natAbs < 2 ^ 4000 := pow_le b2 (by omega)
    walk_at "rs"
    refine ⟨_, ha, _, rfl, _, hb, _, rfl, _, rfl, _, rfl, mulW lp lr, _, ha, _, rfl, _, hb, _, rfl, _, rfl, _, rfl, mulW lq ls, ?_⟩
    exact lows (by have := Int.mul_le_mul lf.1 lg.1 (by decide) (by have := lf.1; omega); omega) (pow_le (mulL lp lr) (by decide)) (pow_le (mulL lq ls) (by decide)) k
end
end LK

set_option Elab.async false
set_option linter.all false
set_option maxRecDepth 100000
namespace LK
open PySem PySem.Spec PyProof.Rows L2
local macro_rules | `(tactic| walk_at "rs") => `(tactic| simp only [cxK, cxNK, tCallZ, tAsg, tOp, rI0, rS0, rB0, rI, rU, tUn, rEq, rNe, rIxL, rIxT, rIxS, rSetL, rSlLU, rSlS, rSlU, rCatL, rCatU, rRepL, rIn, tVar, tC, gName, gSub, tIfS, tTest, tB, tAnd, tOr, tNot, tNotV, tAndV, tOrV, tIf, tCall, tCons, tNil, tCB, tDrop, tRet, tRetN, tNext, tLstU, tTupU, tM0, tM1, tPar, tPar3, tAug, ipI, tBM, tBM0, rAppend, rPop, tBreak, sDPut, tDGet, tDGet2, tCont, tChain, tSl, tPart, tNoPart, L2.start, List.map, List.length_cons, List.length_nil, List.replicate, List.cons_append, List.nil_append, List.append_nil, List.getElem?_cons_zero, List.getElem?_cons_succ, List.set_cons_zero, List.set_cons_succ, Option.some.injEq, V.int.injEq, V.ref.injEq, V.str.injEq, V.bl.injEq, exists_eq_left', exists_eq_left, exists_and_left, decide_eq_true_eq, List.cons.injEq, and_true, true_and, scal, Bool.not_eq_true', decide_eq_false_iff_not, Nat.zero_add, Nat.reduceAdd, Nat.reduceSub, reduceCtorEq, false_and, exists_false, false_or, or_false, CPow, CPowW, CMul, CDiv, Int.reduceToNat, ↓reduceIte, wipe, sw, rv3, tListKeys, tDIn, tDNotIn, List.nil_append, List.singleton_append])
local macro_rules | `(tactic| walk_at "st") => `(tactic| (refine seq_op fun N hN => ?_; walk_at "rs"))
local macro_rules | `(tactic| walk_at "sd") => `(tactic| first | assumption | decide | omega)
local macro_rules | `(tactic| walk_at "rd") => `(tactic| repeat (first
  | refine ⟨_, SqL.of (by assumption), ?_⟩ | refine ⟨_, SqL.of upd_same, ?_⟩ | refine ⟨_, .inl (SqL.of (by assumption)), ?_⟩ | refine ⟨_, (by assumption : _ = some (HO.lst _)), ?_⟩ | refine ⟨_, upd_same, ?_⟩
  | refine ⟨_, rfl, ?_⟩ | refine And.intro (by walk_at "sd") ?_))

section
variable {P : Program} {w : World} {K : PySem.W.Frag} {mg : Str → Option Value} {base : Heap}
theorem ok__law_plusR (T : Txt w K mg) : FnOk P w K mg base CX0 2 T.a__law_plus T.d__law_plus ["one", "two"] (sp_bin K (fun r s => r + s) fun _ _ => True) :=
  (ok__law_plus (P := P) (base := base) T).imp fun vs H Q E ⟨a, b, r, s, e, ha, hb, br, bs, _, k⟩ => ⟨a, b, fq r, fq s, e, ha, hb, low_fq r, low_fq s, br, bs, fun t H' s2 t0 t1 => k t H' s2 t0 (by rw [plus_fq] at t1; exact t1)⟩
theorem ok__law_timesR (T : Txt w K mg) : FnOk P w K mg base CX0 2 T.a__law_times T.d__law_times ["one", "two"] (sp_bin K (fun r s => r * s) fun _ _ => True) :=
  (ok__law_times (P := P) (base := base) T).imp fun vs H Q E ⟨a, b, r, s, e, ha, hb, br, bs, _, k⟩ => ⟨a, b, fq r, fq s, e, ha, hb, low_fq r, low_fq s, br, bs, fun t H' s2 t0 t1 => k t H' s2 t0 (by rw [fq_mul]; exact t1)⟩
theorem ok__law_over (T : Txt w K mg) : FnOk P w K mg base CX0 2 T.a__law_over T.d__law_over ["one", "two"] (sp_bin K (fun r s => r / s) fun _ s => 0 < s) := by
  refine T.F__law_over.ok sc__law_over (fun vs H Q E h => ?_) (fun cdv A outer s H vs Q E hr h => ?_)
  · obtain ⟨a, b, f, g, rfl, _⟩ := h
    rfl
  · obtain ⟨a, b, f, g, rfl, ha, hb, wf, wg, g0, k⟩ := h
    have hr__law_low : Room 1 _ := hr
    have G__law_low := ok__law_low (P := P) (base := base) T
    have n0 : g ≠ 0 := fun e => by rw [e] at g0; exact absurd g0 (by decide)
    refine ⟨_, (pss_one (ps_ret (pe_call G__law_low hr__law_low (by rfl) T.m__law_low T.F__law_low.kp T.B__law_low .nil pass0 (pa_cons (pe_op op_mulW (pe_ix ix_tup (pv 0) pe_int (fun _ _ => rfl)) (pe_ix ix_tup (pv 1) pe_int (fun _ _ => rfl))) (pa_cons (pe_op op_mulW (pe_ix ix_tup (pv 0) pe_int (fun _ _ => rfl)) (pe_ix ix_tup (pv 1) pe_int (fun _ _ => rfl))) pa_nil))))), ?_⟩
    obtain ⟨lp, lq⟩ := b4000 wf
    obtain ⟨lr, ls⟩ := b4000 wg
    have q1 : 1 ≤ (fq f).2 * (fq g).1 := by
      have := Int.mul_le_mul (low_fq f).1 (show 1 ≤ (fq g).1 from (num_pos g).mpr g0) (by decide) (by have := (low_fq f).1; omega)
      omega
    walk_at "rs"
    refine ⟨_, ha, _, rfl, _, hb, _, rfl, _, rfl, _, rfl, mulW lp ls, _, ha, _, rfl, _, hb, _, rfl, _, rfl, _, rfl, mulW lq lr, ?_⟩
    exact lows q1 (pow_le (mulL lp ls) (by decide)) (pow_le (mulL lq lr) (by decide)) fun t H' s2 t0 t1 => k t H' s2 t0 (by rw [fq_quo f n0]; exact t1)
theorem ok__law_minus (T : Txt w K mg) : FnOk P w K mg base CX0 3 T.a__law_minus T.d__law_minus ["one", "two"] (sp_bin K (fun r s => r - s) fun _ _ => True) := by
  refine T.F__law_minus.ok sc__law_minus (fun vs H Q E h => ?_) (fun cdv A outer s H vs Q E hr h => ?_)
  · obtain ⟨a, b, f, g, rfl, _⟩ := h
    rfl
  · obtain ⟨a, b, f, g, rfl, ha, hb, wf, wg, _, k⟩ := h
    have hr__law_plus : Room 2 _ := hr
    have G__law_plus := ok__law_plusR (P := P) (base := base) T
    refine ⟨_, (pss_one (ps_ret (pe_call G__law_plus hr__law_plus (by rfl) T.m__law_plus T.F__law_plus.kp T.B__law_plus .nil pass0 (pa_cons (pv 0) (pa_cons (pe_tupU (pa_cons (pe_op op_sub pe_int (pe_ix ix_tup (pv 1) pe_int (fun _ _ => rfl))) (pa_cons (pe_ix ix_tup (pv 1) pe_int (fun _ _ => rfl)) pa_nil))) pa_nil))))), ?_⟩
    walk_at "rs"
    refine ⟨_, hb, _, rfl, _, rfl, _, hb, _, rfl, by decide, fun p H1 s1 n1 t1 => ?_⟩
    have e : fq (-g) = (0 - (fq g).1, (fq g).2) := by rw [neg_fq, Int.zero_sub]
    refine ⟨a, p, f, -g, rfl, Same.seqT s1 ha, ?_, wf, by rw [bits_neg]; exact wg, trivial, fun t H' s2 t0 t2 => k t H' (Same.trans s1 s2) (Same.dom s1 _ t0) (by show H' t = some (.tup [.int (fq (f - g)).1, .int (fq (f - g)).2]); rw [Rat.sub_eq_add_neg]; exact t2)⟩
    unfold Fv
    rw [e]
    exact .inl (.inl t1)
theorem ok__law_gap (T : Txt w K mg) : FnOk P w K mg base CX0 1 T.a__law_gap T.d__law_gap ["one", "two"] (fun vs H Q _ => ∃ (a b : Addr) (r s : Rat), vs = [.ref a, .ref b] ∧ Fv K H a r ∧ Fv K H b s ∧ bits r ≤ 3990 ∧ bits s ≤ 3990 ∧ Q (.int ((fq r).1 * (fq s).2 - (fq s).1 * (fq r).2)) H) := by
  refine T.F__law_gap.ok sc__law_gap (fun vs H Q E h => ?_) (fun cdv A outer s H vs Q E hr h => ?_)
  · obtain ⟨a, b, f, g, rfl, _⟩ := h
    rfl
  · obtain ⟨a, b, f, g, rfl, ha, hb, wf, wg, k⟩ := h
    refine ⟨_, (pss_one (ps_ret (pe_op op_sub (pe_op op_mulW (pe_ix ix_tup (pv 0) pe_int (fun _ _ => rfl)) (pe_ix ix_tup (pv 1) pe_int (fun _ _ => rfl))) (pe_op op_mulW (pe_ix ix_tup (pv 1) pe_int (fun _ _ => rfl)) (pe_ix ix_tup (pv 0) pe_int (fun _ _ => rfl)))))), ?_⟩
    obtain ⟨lp, lq⟩ := b4000 wf
    obtain ⟨lr, ls⟩ := b4000 wg
    walk_at "rs"
    exact ⟨_, ha, _, rfl, _, hb, _, rfl, _, rfl, _, rfl, mulW lp ls, _, hb, _, rfl, _, ha, _, rfl, _, rfl, _, rfl, mulW lr lq, k⟩
end
end LK

set_option Elab.async false
set_option linter.all false
set_option maxRecDepth 100000
namespace LK
open PySem PySem.Spec PyProof.Rows L2
local macro_rules | `(tactic| walk_at "rs") => `(tactic| simp only [cxK, cxNK, tCallZ, tAsg, tOp, rI0, rS0, rB0, rI, rU, tUn, rEq, rNe, rIxL, rIxT, rIxS, rSetL, rSlLU, rSlS, rSlU, rCatL, rCatU, rRepL, rIn, tVar, tC, gName, gSub, tIfS, tTest, tB, tAnd, tOr, tNot, tNotV, tAndV, tOrV, tIf, tCall, tCons, tNil, tCB, tDrop, tRet, tRetN, tNext, tLstU, tTupU, tM0, tM1, tPar, tPar3, tAug, ipI, tBM, tBM0, rAppend, rPop, tBreak, sDPut, tDGet, tDGet2, tCont, tChain, tSl, tPart, tNoPart, L2.start, List.map, List.length_cons, List.length_nil, List.replicate, List.cons_append, List.nil_append, List.append_nil, List.getElem?_cons_zero, List.getElem?_cons_succ, List.set_cons_zero, List.set_cons_succ, Option.some.injEq, V.int.injEq, V.ref.injEq, V.str.injEq, V.bl.injEq, exists_eq_left', exists_eq_left, exists_and_left, decide_eq_true_eq, List.cons.injEq, and_true, true_and, scal, Bool.not_eq_true', decide_eq_false_iff_not, Nat.zero_add, Nat.reduceAdd, Nat.reduceSub, reduceCtorEq, false_and, exists_false, false_or, or_false, CPow, CPowW, CMul, CDiv, Int.reduceToNat, ↓reduceIte, wipe, sw, rv3, tListKeys, tDIn, tDNotIn, List.nil_append, List.singleton_append])
local macro_rules | `(tactic| walk_at "st") => `(tactic| (refine seq_op fun N hN => ?_; walk_at "rs"))
local macro_rules | `(tactic| walk_at "sd") => `(tactic| first | assumption | decide | omega)
local macro_rules | `(tactic| walk_at "rd") => `(tactic| repeat (first
  | refine ⟨_, SqL.of (by assumption), ?_⟩ | refine ⟨_, SqL.of upd_same, ?_⟩ | refine ⟨_, .inl (SqL.of (by assumption)), ?_⟩ | refine ⟨_, (by assumption : _ = some (HO.lst _)), ?_⟩ | refine ⟨_, upd_same, ?_⟩
  | refine ⟨_, rfl, ?_⟩ | refine And.intro (by walk_at "sd") ?_))

/-! ### units -/
def SeqI (K : PySem.W.Frag) (H : Hp) (a : Addr) (xs : List V) : Prop := SqL K H a xs ∨ SqT K H a xs
theorem SeqI.same {K : PySem.W.Frag} {H H' : Hp} {a : Addr} {xs : List V} (s : Same H H') (h : SeqI K H a xs) : SeqI K H' a xs := h.imp s.seq (Same.seqT s)
theorem wtS_cons (x : It) (b : List It) (k : List Int) : wtS (x :: b) k = (if x.1 = k then wt x.2 + 1 else 0) + wtS b k := by
  have key : ∀ (b : List It) (n : Nat), b.foldl (fun acc it => if it.1 = k then acc + (wt it.2 + 1) else acc) n + 1 = n + wtS b k := by
    intro b
    induction b with
    | nil => intro n; rfl
    | cons it b ih =>
      intro n
      unfold wtS
      simp only [List.foldl_cons]
      by_cases e : it.1 = k
      · rw [if_pos e, if_pos e]
        have h1 := ih (n + (wt it.2 + 1))
        have h2 := ih (1 + (wt it.2 + 1))
        omega
      · rw [if_neg e, if_neg e]
        exact ih n
  have h := key b (1 + (if x.1 = k then wt x.2 + 1 else 0))
  have e : wtS (x :: b) k = b.foldl (fun acc it => if it.1 = k then acc + (wt it.2 + 1) else acc) (1 + (if x.1 = k then wt x.2 + 1 else 0)) := by
    show (x :: b).foldl _ 1 = _
    rw [List.foldl_cons]
    split <;> rfl
  omega
theorem wtS_le {B : Nat} (k : List Int) : ∀ {l : List It}, (∀ x ∈ l, wt x.2 ≤ B) → wtS l k ≤ l.length * (B + 1) + 1
  | [], _ => by show 1 ≤ _; omega
  | a :: l, h => by
    have ih := wtS_le k (l := l) fun x hx => h x (List.mem_cons_of_mem _ hx)
    have := h a List.mem_cons_self
    rw [wtS_cons, List.length_cons, Nat.add_mul, Nat.one_mul]
    split <;> omega
def one1 : Fr := (1, 1)
theorem low_one : low (1, 1) := ⟨by decide, by decide⟩
/-- the terms of a row -/
def tms (cols : List Int) (rest m : Int) : List It := cols.map (fun c => ([c], ((1, 1) : Fr))) ++ [([rest], (-m, 1))]
theorem low_int (m : Int) : low (m, 1) := ⟨Int.le_refl 1, Nat.gcd_one_right _⟩
def InR (c : Int) : Prop := 0 ≤ c ∧ c < 2000
theorem bd_one {c : Int} (h : InR c) : TS.Bd 2000 [c] := fun m hm => by
  obtain rfl := List.mem_singleton.mp hm
  exact h
theorem wt_int {m : Int} (h : m.natAbs < 2 ^ 60) : wt (m, 1) ≤ 60 := wt_le (by decide) h (by show (1 : Int).natAbs < 2 ^ 60; decide)
theorem tms_fit {cols : List Int} {rest m : Int} (hc : ∀ c ∈ cols, InR c) (hr : InR rest) (l : cols.length ≤ 30) (hm : m.natAbs < 2 ^ 60) : Fit 1 (tms cols rest m) := by
  have mem : ∀ x ∈ tms cols rest m, low x.2 ∧ wt x.2 ≤ 60 ∧ x.1.length = 1 ∧ TS.Bd 2000 x.1 := fun x hx => by
    rcases List.mem_append.mp hx with hx | hx
    · obtain ⟨c, hcm, rfl⟩ := List.mem_map.mp hx
      exact ⟨low_one, wt_int (by decide), rfl, bd_one (hc c hcm)⟩
    · obtain rfl := List.mem_singleton.mp hx
      exact ⟨low_int _, wt_int (by rw [Int.natAbs_neg]; exact hm), rfl, bd_one hr⟩
  have len : (tms cols rest m).length ≤ 31 := by
    unfold tms
    rw [List.length_append, List.length_map]
    simp only [List.length_cons, List.length_nil]
    omega
  refine ⟨fun x hx => ⟨(mem x hx).1, Nat.le_trans (mem x hx).2.1 (by decide), (mem x hx).2.2⟩, fun k => ?_, ⟨(tms cols rest m).map (·.1), by rw [List.length_map]; omega, fun x hx => List.mem_map_of_mem hx⟩, by omega⟩
  have := wtS_le (B := 60) k fun x hx => (mem x hx).2.1
  omega
/-- a unit at the heap: normal terms, shift, normal givings -/
def UnitAt (K : PySem.W.Frag) (H : Hp) (v : V) (R : List Int → Rat) (f : Fr) (G : List Int → Rat) : Prop := ∃ (p a s g : Addr) (ys gs : List V) (its gits : List It), v = .ref p ∧ SqT K H p [.ref a, .ref s, .ref g] ∧ SqT K H a ys ∧ Its K H ys its ∧ Norm R its ∧ its.length < 64 ∧ Pr K H s f.1 f.2 ∧ SqT K H g gs ∧ Its K H gs gits ∧ Norm G gits ∧ gits.length < 64
theorem UnitAt.same {K : PySem.W.Frag} {H H' : Hp} {v : V} {R G : List Int → Rat} {f : Fr} (s : Same H H') : UnitAt K H v R f G → UnitAt K H' v R f G := fun ⟨p, a, c, g, ys, gs, its, gits, e, h1, h2, h3, h4, h5, h6, h7, h8, h9⟩ => ⟨p, a, c, g, ys, gs, its, gits, e, Same.seqT s h1, Same.seqT s h2, h3.same s, h4, h5, Same.seqT s h6, Same.seqT s h7, h8.same s, h9⟩
section
variable {P : Program} {w : World} {K : PySem.W.Frag} {mg : Str → Option Value} {base : Heap}
def sp_part (K : PySem.W.Frag) : Sp := fun vs H Q _ => ∃ (p a s g : Addr) (xs gs : List V) (items gits : List It) (f : Fr), vs = [.str "bend", .ref p] ∧ SqT K H p [.ref a, .ref s, .ref g] ∧ SeqI K H a xs ∧ Its K H xs items ∧ Fit 1 items ∧ Pr K H s f.1 f.2 ∧ SeqI K H g gs ∧ Its K H gs gits ∧ Fit 1 gits ∧
  ∀ v H', Same H H' → UnitAt K H' v (accR items) f (accR gits) → Q v H'
theorem ok_normal_part (T : Txt w K mg) : FnOk P w K mg base CX0 6 T.a_normal_part T.d_normal_part ["kind", "part"] (sp_part K) := by
  refine T.F_normal_part.ok sc_normal_part (fun vs H Q E h => ?_) (fun cdv A outer s H vs Q E hr h => ?_)
  · obtain ⟨p, a, s, g, xs, gs, items, gits, f, rfl, _⟩ := h
    rfl
  · obtain ⟨p, a, sh, g, xs, gs, items, gits, f, rfl, hp, ha, ia, fa, hs, hg, ig, fg, k⟩ := h
    have hr_normal_entries : Room 5 _ := hr
    have G_normal_entries := ok_normal_entries (P := P) (base := base) T
    have hr_normal_triples : Room 5 _ := hr
    have G_normal_triples := ok_normal_triples (P := P) (base := base) T
    refine ⟨_, (pss_cons (ps_if (pt_cmpR op_eqS (pv 0) pe_str (nomark _)) (pss_one (ps_ret (pe_tupU (pa_cons (pe_call G_normal_triples hr_normal_triples (by rfl) T.m_normal_triples T.F_normal_triples.kp T.B_normal_triples .nil pass0 (pa_cons (pe_ix ix_tup (pv 1) pe_int (fun _ _ => rfl)) pa_nil)) (pa_cons (pe_call G_normal_triples hr_normal_triples (by rfl) T.m_normal_triples T.F_normal_triples.kp T.B_normal_triples .nil pass0 (pa_cons (pe_ix ix_tup (pv 1) pe_int (fun _ _ => rfl)) pa_nil)) pa_nil))))) pss_nil)
      (pss_one (ps_ret (pe_tupU (pa_cons (pe_call G_normal_entries hr_normal_entries (by rfl) T.m_normal_entries T.F_normal_entries.kp T.B_normal_entries .nil pass0 (pa_cons (pe_ix ix_tup (pv 1) pe_int (fun _ _ => rfl)) pa_nil)) (pa_cons (pe_ix ix_tup (pv 1) pe_int (fun _ _ => rfl)) (pa_cons (pe_call G_normal_entries hr_normal_entries (by rfl) T.m_normal_entries T.F_normal_entries.kp T.B_normal_entries .nil pass0 (pa_cons (pe_ix ix_tup (pv 1) pe_int (fun _ _ => rfl)) pa_nil)) pa_nil))))))), ?_⟩
    refine seq_op fun N hN => ?_
    walk_at "rs"
    refine iteFF (by decide) (hN _ _ ?_)
    clear hN N
    walk_at "rs"
    refine ⟨_, hp, _, rfl, a, xs, items, rfl, ha, ia, fa, fun t1 ys its1 H1 s1 h1 i1 n1 l1 => ⟨_, Same.seqT s1 hp, _, rfl, _, Same.seqT s1 hp, _, rfl, g, gs, gits, rfl, hg.same s1, ig.same s1, fg, fun t2 zs its2 H2 s2 h2 i2 n2 l2 => ⟨by decide, fun p3 H3 s3 n3 t3 => ?_⟩⟩⟩
    have s23 := Same.trans s2 s3
    exact k _ _ (Same.trans s1 s23) ⟨p3, t1, sh, t2, ys, zs, its1, its2, rfl, .inl (.inl t3), Same.seqT s23 h1, i1.same s23, n1, l1, Same.seqT (Same.trans s1 s23) hs, Same.seqT s3 h2, i2.same s3, n2, l2⟩
def sp_unit (K : PySem.W.Frag) : Sp := fun vs H Q _ => ∃ (c s g : Addr) (cols : List Int) (gs : List V) (gits : List It) (rest steep : Int) (f : Fr), vs = [.ref c, .int rest, .int steep, .ref s, .ref g] ∧ SeqI K H c (cols.map V.int) ∧ (∀ x ∈ cols, InR x) ∧ cols.length ≤ 30 ∧ InR rest ∧ steep.natAbs < 2 ^ 60 ∧ Pr K H s f.1 f.2 ∧ SeqI K H g gs ∧ Its K H gs gits ∧ Fit 1 gits ∧
  ∀ v H', Same H H' → UnitAt K H' v (accR (tms cols rest steep)) f (accR gits) → Q v H'
theorem fraction_whole (T : Txt w K mg) {H : Hp} {Q : VK} {E : XK} {p : Int} (hp : p.natAbs < 2 ^ 61) (k : ∀ t H', Same H H' → H t = none → H' t = some (.tup [.int p, .int 1]) → Q (.ref t) H') : sp_fraction T.C_BadValue [.int p, .int 1] H Q E := by
  obtain ⟨e1, e2⟩ := fr_low (p := p) (q := 1) (Int.le_refl 1) (Nat.gcd_one_right _)
  refine ⟨p, 1, rfl, Nat.lt_trans (log_lt (by decide) hp) (by decide), by decide, fun _ t H' s h0 h1 => k t H' s h0 (by rw [e1, e2] at h1; exact h1), fun z => absurd z (by decide)⟩
theorem lc_itn {K : PySem.W.Frag} {a : Addr} {xs : List V} {tl te : TE} {i0 : Nat} {σ : L2.St} {H1 : Hp} {Q : VK} (hv : ∀ Q : VK, Q (.ref a) H1 → tl σ H1 Q) (h : SeqI K H1 a xs) (F : Nat → Hp → List V → Prop) (n : xs.length ≤ 1000000)
    (mono : ∀ i H H' ys, Same H H' → F i H ys → F i H' ys) (up : ∀ D i H ys zs o, H D = some (.lst zs) → F i H ys → F i (L2.upd H D o) ys) (r0 : ∀ H, F 0 H [])
    (hs : ∀ i x G, xs[i]? = some x → Same H1 G → ∀ Q2 : VK, (∀ v G2, Same G G2 → (∀ ys, F i G2 ys → F (i + 1) G2 (ys ++ [v])) → Q2 v G2) → te ((wipe σ [i0]).set i0 (some x)) G Q2)
    (hq : ∀ (D : Addr) H2 ys, Same H1 H2 → H1 D = none → H2 D = some (.lst ys) → ys.length = xs.length → F xs.length H2 ys → Q (.ref D) H2) : tLc (iLT K tl) (gName i0) tYes te [i0] σ H1 Q := by
  refine lc_lt2 (K := K) (a := a) (xs := xs) hv h F n mono up r0 (fun i x G hi s e => ?_) (gm_name i0) hq
  refine ⟨Same.refl _, ?_, fun Q2 k => hs i x G e s Q2 fun v G2 s2 st => k v G2 s2 st⟩
  show ((σ.set i0 none).set i0 (some x)).set i0 none = σ.set i0 none
  rw [List.set_set, List.set_set]
theorem ok_unit_of (T : Txt w K mg) : FnOk P w K mg base CX0 7 T.a_unit_of T.d_unit_of ["columns", "rest", "steep", "shift", "givings"] (sp_unit K) := by
  refine T.F_unit_of.ok sc_unit_of (fun vs H Q E h => ?_) (fun cdv A outer s H vs Q E hr h => ?_)
  · obtain ⟨c, s, g, cols, gs, gits, rest, steep, f, rfl, _⟩ := h
    rfl
  · obtain ⟨c, sh, g, cols, gs, gits, rest, steep, f, rfl, hc, rc, lc, rr, st, hs, hg, ig, fg, k⟩ := h
    have hr_fraction : Room 3 _ := hr.mono (by decide)
    have G_fraction := ok_fraction (P := P) (base := base) T
    obtain ⟨ds_fraction, dv_fraction, Db_fraction⟩ := T.D_fraction
    have hr_normal_part : Room 6 _ := hr
    have G_normal_part := ok_normal_part (P := P) (base := base) T
    refine ⟨_, (pss_cons (ps_set (i := 5) sc_unit_of.nd rfl (Or.inl rfl) (pe_op op_catL (pe_lc (own := [("column", 6)]) (g := gName 6) (tt := tYes) rfl sc_unit_of.nd (pi_lt (pv 0)) (blkOk_by (own := [("column", 6)]) (N := N_unit_of) (sc := defScope s_unit_of) (by decide +kernel)) (fun _ _ _ _ _ => pg_name (i := 6) sc_unit_of.nd rfl (Or.inl rfl)) (fun _ _ _ _ _ => pts_nil) (fun _ _ _ _ _ => (pe_tupU (pa_cons (pv 6) (pa_cons (pe_glob (v := .ref T.a_ONE) (by rfl) T.m_ONE rfl) pa_nil))))) (pe_lstU (pa_cons (pe_tupU (pa_cons (pv 1) (pa_cons (pe_call G_fraction hr_fraction (by rfl) T.m_fraction T.F_fraction.kp Db_fraction dv_fraction passL (pa_cons (pe_un un_neg (pv 2)) pa_nil)) pa_nil))) pa_nil))))
      (pss_one (ps_ret (pe_call G_normal_part hr_normal_part (by rfl) T.m_normal_part T.F_normal_part.kp T.B_normal_part .nil pass0 (pa_cons pe_str (pa_cons (pe_tupU (pa_cons (pv 5) (pa_cons (pv 3) (pa_cons (pv 4) pa_nil)))) pa_nil)))))), ?_⟩
    refine seq_op fun N hN => ?_
    walk_at "rs"
    have lcols : cols.length ≤ 1000000 := by omega
    refine lc_itn (fun Q q => ⟨_, rfl, q⟩) hc (fun i H ys => Its K H ys ((cols.take i).map fun c => ([c], ((1, 1) : Fr)))) (by rw [List.length_map]; exact lcols) (fun i H H' ys s h => h.same s) (fun D i H ys zs o hp h => h.updO (notT_lst hp)) (fun H => .nil) (fun i x G ex s1 Q2 hq => ?_) fun D1 H1 ys s1 D10 D11 ly iy => ?_
    · obtain ⟨cc, rfl, ei⟩ : ∃ cc, x = V.int cc ∧ cols[i]? = some cc := by
        rw [List.getElem?_map] at ex
        obtain ⟨cc, h1, h2⟩ := Option.map_eq_some_iff.mp ex
        exact ⟨cc, h2.symm, h1⟩
      walk_at "rs"
      refine ⟨by decide, fun p G2 s2 n2 t2 => hq _ G2 s2 fun ys h => ?_⟩
      have et : cols.take (i + 1) = cols.take i ++ [cc] := by
        obtain ⟨hk, e⟩ := List.getElem?_eq_some_iff.mp ei
        rw [← List.take_append_getElem hk, e]
      rw [et, List.map_append]
      exact h.app (.cons (k := [cc]) (f := (1, 1)) (.inl (.inl t2)) (T.s_ONE _) .nil)
    · rw [List.length_map, List.take_length] at iy
      rw [List.length_map] at ly
      refine fraction_whole T (by rw [Int.natAbs_neg]; exact Nat.lt_trans st (by decide)) fun t H2 s2 t0 t1 => ⟨by decide, fun p3 H3 s3 n3 t3 => ⟨by decide, fun p4 H4 s4 n4 t4 => ?_⟩⟩
      have s24 := Same.trans s2 (Same.trans s3 s4)
      refine ⟨D1, rfl, ys, s24 _ _ D11, _, t4, Nat.le_trans (show ys.length + 1 ≤ 31 by omega) (by decide), fun p5 H5 s5 n5 t5 => hN _ _ ?_⟩
      clear hN N
      have s25 := Same.trans s24 s5
      have s15 := Same.trans s1 s25
      have it5 : Its K H5 (ys ++ [.ref p3]) (tms cols rest steep) := (iy.same s25).app (.cons (k := [rest]) (f := (-steep, 1)) (.inl (.inl (s5 _ _ (s4 _ _ t3)))) (.inl (.inl (s5 _ _ (s4 _ _ (s3 _ _ t1))))) .nil)
      walk_at "rs"
      refine ⟨by decide, fun p6 H6 s6 n6 t6 => ?_⟩
      have s16 := Same.trans s15 s6
      exact ⟨p6, p5, sh, g, _, gs, tms cols rest steep, gits, f, rfl, .inl (.inl t6), .inl (SqL.of (s6 _ _ t5)), it5.same s6, tms_fit rc rr lc st, Same.seqT s16 hs, hg.same s16, ig.same s16, fg, fun v H7 s7 u => k v H7 (Same.trans s16 s7) u⟩
end
end LK

set_option Elab.async false
set_option linter.all false
set_option maxRecDepth 100000
namespace LK
open PySem PySem.Spec PyProof.Rows L2
local macro_rules | `(tactic| walk_at "rs") => `(tactic| simp only [cxK, cxNK, tCallZ, tAsg, tOp, rI0, rS0, rB0, rI, rU, tUn, rEq, rNe, rIxL, rIxT, rIxS, rSetL, rSlLU, rSlS, rSlU, rCatL, rCatU, rRepL, rIn, tVar, tC, gName, gSub, tIfS, tTest, tB, tAnd, tOr, tNot, tNotV, tAndV, tOrV, tIf, tCall, tCons, tNil, tCB, tDrop, tRet, tRetN, tNext, tLstU, tTupU, tM0, tM1, tPar, tPar3, tAug, ipI, tBM, tBM0, rAppend, rPop, tBreak, sDPut, tDGet, tDGet2, tCont, tChain, tSl, tPart, tNoPart, L2.start, List.map, List.length_cons, List.length_nil, List.replicate, List.cons_append, List.nil_append, List.append_nil, List.getElem?_cons_zero, List.getElem?_cons_succ, List.set_cons_zero, List.set_cons_succ, Option.some.injEq, V.int.injEq, V.ref.injEq, V.str.injEq, V.bl.injEq, exists_eq_left', exists_eq_left, exists_and_left, decide_eq_true_eq, List.cons.injEq, and_true, true_and, scal, Bool.not_eq_true', decide_eq_false_iff_not, Nat.zero_add, Nat.reduceAdd, Nat.reduceSub, reduceCtorEq, false_and, exists_false, false_or, or_false, CPow, CPowW, CMul, CDiv, Int.reduceToNat, ↓reduceIte, wipe, sw, rv3, tListKeys, tDIn, tDNotIn, List.nil_append, List.singleton_append])
local macro_rules | `(tactic| walk_at "st") => `(tactic| (refine seq_op fun N hN => ?_; walk_at "rs"))
local macro_rules | `(tactic| walk_at "sd") => `(tactic| first | assumption | decide | omega)
local macro_rules | `(tactic| walk_at "rd") => `(tactic| repeat (first
  | refine ⟨_, SqL.of (by assumption), ?_⟩ | refine ⟨_, SqL.of upd_same, ?_⟩ | refine ⟨_, .inl (SqL.of (by assumption)), ?_⟩ | refine ⟨_, (by assumption : _ = some (HO.lst _)), ?_⟩ | refine ⟨_, upd_same, ?_⟩
  | refine ⟨_, rfl, ?_⟩ | refine And.intro (by walk_at "sd") ?_))

/-! ### the entries of peaks -/
theorem wtS_snoc (b : List It) (x : It) (k : List Int) : wtS (b ++ [x]) k = wtS b k + if x.1 = k then wt x.2 + 1 else 0 := by
  unfold wtS
  rw [List.foldl_append]
  simp only [List.foldl_cons, List.foldl_nil]
  split <;> rfl
theorem accR_snoc (b : List It) (x : It) (k : List Int) : accR (b ++ [x]) k = accR b k + if x.1 = k then rt x.2 else 0 := by
  unfold accR
  rw [List.foldl_append]
  simp only [List.foldl_cons, List.foldl_nil]
  split
  · rfl
  · exact (Rat.add_zero _).symm
def putE (F : Nat → List It) (j : Nat) (it : It) : Nat → List It := fun i => if i = j then F j ++ [it] else F i
def pu (l : Nat → Rat) (m : Nat) : Rat := 1 / (l (m + 1) - l m)
def gvs (l : Nat → Rat) (c : Nat → Int) : Nat → Nat → List It
  | 0 => fun _ => []
  | m + 1 => putE (putE (putE (gvs l c m) m ([c m], fq (pu l m))) (m + 1) ([c m], fq (0 - (pu l m + pu l (m + 1))))) (m + 2) ([c m], fq (pu l (m + 1)))
/-- what point m gives to place j -/
def gve (l : Nat → Rat) (c : Nat → Int) (m j : Nat) : List It :=
  if j = m then [([c m], fq (pu l m))] else if j = m + 1 then [([c m], fq (0 - (pu l m + pu l (m + 1))))] else if j = m + 2 then [([c m], fq (pu l (m + 1)))] else []
theorem gvs_succ (l : Nat → Rat) (c : Nat → Int) (m j : Nat) : gvs l c (m + 1) j = gvs l c m j ++ gve l c m j := by
  show putE (putE (putE (gvs l c m) m _) (m + 1) _) (m + 2) _ j = _
  unfold putE gve
  by_cases h0 : j = m
  · subst h0
    rw [if_neg (by omega), if_neg (by omega), if_pos rfl, if_pos rfl]
  · by_cases h1 : j = m + 1
    · subst h1
      rw [if_neg (by omega), if_pos rfl, if_neg (by omega), if_neg h0, if_pos rfl]
    · by_cases h2 : j = m + 2
      · subst h2
        rw [if_pos rfl, if_neg (by omega), if_neg (by omega), if_neg h0, if_neg h1, if_pos rfl]
      · rw [if_neg h2, if_neg h1, if_neg h0, if_neg h0, if_neg h1, if_neg h2, List.append_nil]
def coef (l : Nat → Rat) (m j : Nat) : Rat := if j = m then pu l m else if j = m + 1 then 0 - (pu l m + pu l (m + 1)) else if j = m + 2 then pu l (m + 1) else 0
theorem gvs_acc (l : Nat → Rat) (c : Nat → Int) (m j : Nat) (k : List Int) : accR (gvs l c (m + 1) j) k = accR (gvs l c m j) k + if [c m] = k then coef l m j else 0 := by
  rw [gvs_succ]
  unfold gve coef
  by_cases h0 : j = m
  · rw [if_pos h0, if_pos h0, accR_snoc, rt_fq]
  · rw [if_neg h0, if_neg h0]
    by_cases h1 : j = m + 1
    · rw [if_pos h1, if_pos h1, accR_snoc, rt_fq]
    · rw [if_neg h1, if_neg h1]
      by_cases h2 : j = m + 2
      · rw [if_pos h2, if_pos h2, accR_snoc, rt_fq]
      · rw [if_neg h2, if_neg h2, List.append_nil]
        split
        · exact (Rat.add_zero _).symm
        · exact (Rat.add_zero _).symm
/-- sizes of the steps between levels -/
def Steps (l : Nat → Rat) (n : Nat) : Prop := ∀ m, m ≤ n → bits (pu l m) ≤ 49
theorem bits_mid {l : Nat → Rat} {n m : Nat} (h : Steps l n) (hm : m + 1 ≤ n) : bits (0 - (pu l m + pu l (m + 1))) ≤ 99 := by
  rw [show (0 : Rat) - (pu l m + pu l (m + 1)) = -(pu l m + pu l (m + 1)) by grind, bits_neg]
  have h1 := bits_add (pu l m) (pu l (m + 1))
  have h2 := h m (by omega)
  have h3 := h (m + 1) hm
  omega
theorem gvs_wt {l : Nat → Rat} {c : Nat → Int} {n : Nat} (h : Steps l n) (k : List Int) (j : Nat) : ∀ m, m ≤ n → wtS (gvs l c m j) k ≤ 1 + (if j < m then 50 else 0) + (if 1 ≤ j ∧ j ≤ m then 100 else 0) + (if 2 ≤ j ∧ j ≤ m + 1 then 50 else 0)
  | 0, _ => by
    show 1 ≤ _
    omega
  | m + 1, hm => by
    have ih := gvs_wt h k j m (by omega) (c := c)
    have b1 : wt (fq (pu l m)) ≤ 49 := h m (by omega)
    have b2 : wt (fq (0 - (pu l m + pu l (m + 1)))) ≤ 99 := bits_mid h (by omega)
    have b3 : wt (fq (pu l (m + 1))) ≤ 49 := h (m + 1) hm
    have le : ∀ (x : It) (B : Nat), wt x.2 ≤ B → wtS (gvs l c m j ++ [x]) k ≤ wtS (gvs l c m j) k + (B + 1) := fun x B hB => by
      rw [wtS_snoc]
      split <;> omega
    rw [gvs_succ]
    unfold gve
    by_cases h0 : j = m
    · rw [if_pos h0]
      have := le ([c m], fq (pu l m)) 49 b1
      split at ih <;> split at ih <;> split at ih <;> split <;> split <;> split <;> omega
    · rw [if_neg h0]
      by_cases h1 : j = m + 1
      · rw [if_pos h1]
        have := le ([c m], fq (0 - (pu l m + pu l (m + 1)))) 99 b2
        split at ih <;> split at ih <;> split at ih <;> split <;> split <;> split <;> omega
      · rw [if_neg h1]
        by_cases h2 : j = m + 2
        · rw [if_pos h2]
          have := le ([c m], fq (pu l (m + 1))) 49 b3
          split at ih <;> split at ih <;> split at ih <;> split <;> split <;> split <;> omega
        · rw [if_neg h2, List.append_nil]
          split at ih <;> split at ih <;> split at ih <;> split <;> split <;> split <;> omega
theorem gvs_201 {l : Nat → Rat} {c : Nat → Int} {n : Nat} (h : Steps l n) (k : List Int) (j m : Nat) (hm : m ≤ n) : wtS (gvs l c m j) k ≤ 201 := by
  have := gvs_wt (c := c) h k j m hm
  split at this <;> split at this <;> split at this <;> omega
theorem gvs_mem {l : Nat → Rat} {c : Nat → Int} {n : Nat} (h : Steps l n) (j : Nat) : ∀ m, m ≤ n → (gvs l c m j).length ≤ 3 * m ∧ ∀ x ∈ gvs l c m j, low x.2 ∧ wt x.2 ≤ 99 ∧ ∃ i, i < m ∧ x.1 = [c i]
  | 0, _ => ⟨Nat.le_refl _, fun x hx => by cases hx⟩
  | m + 1, hm => by
    obtain ⟨l1, ih⟩ := gvs_mem h j m (by omega) (c := c)
    have b1 : wt (fq (pu l m)) ≤ 49 := h m (by omega)
    have b2 : wt (fq (0 - (pu l m + pu l (m + 1)))) ≤ 99 := bits_mid h (by omega)
    have b3 : wt (fq (pu l (m + 1))) ≤ 49 := h (m + 1) hm
    rw [gvs_succ]
    have l2 : (gve l c m j).length ≤ 1 := by
      unfold gve
      split
      · exact Nat.le_refl _
      · split
        · exact Nat.le_refl _
        · split
          · exact Nat.le_refl _
          · exact Nat.zero_le _
    refine ⟨by rw [List.length_append]; omega, fun x hx => ?_⟩
    rcases List.mem_append.mp hx with hx | hx
    · obtain ⟨a1, a2, i, a3, a4⟩ := ih x hx
      exact ⟨a1, a2, i, by omega, a4⟩
    · unfold gve at hx
      split at hx
      · rw [List.mem_singleton.mp hx]
        exact ⟨low_fq _, Nat.le_trans b1 (by decide), m, by omega, rfl⟩
      · split at hx
        · rw [List.mem_singleton.mp hx]
          exact ⟨low_fq _, b2, m, by omega, rfl⟩
        · split at hx
          · rw [List.mem_singleton.mp hx]
            exact ⟨low_fq _, Nat.le_trans b3 (by decide), m, by omega, rfl⟩
          · cases hx
theorem gvs_fit {l : Nat → Rat} {c : Nat → Int} {n : Nat} (h : Steps l n) (n8 : n ≤ 8) (hc : ∀ i, i < n → InR (c i)) (j : Nat) : Fit 1 (gvs l c n j) := by
  obtain ⟨l1, hx⟩ := gvs_mem (c := c) h j n (Nat.le_refl _)
  refine ⟨fun x hm => ?_, fun k => ?_, ⟨(List.range n).map fun i => [c i], by rw [List.length_map, List.length_range]; omega, fun x hm => ?_⟩, by omega⟩
  · obtain ⟨a1, a2, i, a3, a4⟩ := hx x hm
    exact ⟨a1, by omega, by rw [a4]; rfl, by rw [a4]; exact bd_one (hc i a3)⟩
  · have := gvs_201 (c := c) h k j n (Nat.le_refl _)
    omega
  · obtain ⟨a1, a2, i, a3, a4⟩ := hx x hm
    exact List.mem_map.mpr ⟨i, List.mem_range.mpr a3, a4.symm⟩
end LK

set_option Elab.async false
set_option linter.all false
set_option maxRecDepth 100000
namespace LK
open PySem PySem.Spec PyProof.Rows L2
local macro_rules | `(tactic| walk_at "rs") => `(tactic| simp only [cxK, cxNK, tCallZ, tAsg, tOp, rI0, rS0, rB0, rI, rU, tUn, rEq, rNe, rIxL, rIxT, rIxS, rSetL, rSlLU, rSlS, rSlU, rCatL, rCatU, rRepL, rIn, tVar, tC, gName, gSub, tIfS, tTest, tB, tAnd, tOr, tNot, tNotV, tAndV, tOrV, tIf, tCall, tCons, tNil, tCB, tDrop, tRet, tRetN, tNext, tLstU, tTupU, tM0, tM1, tPar, tPar3, tAug, ipI, tBM, tBM0, rAppend, rPop, tBreak, sDPut, tDGet, tDGet2, tCont, tChain, tSl, tPart, tNoPart, L2.start, List.map, List.length_cons, List.length_nil, List.replicate, List.cons_append, List.nil_append, List.append_nil, List.getElem?_cons_zero, List.getElem?_cons_succ, List.set_cons_zero, List.set_cons_succ, Option.some.injEq, V.int.injEq, V.ref.injEq, V.str.injEq, V.bl.injEq, exists_eq_left', exists_eq_left, exists_and_left, decide_eq_true_eq, List.cons.injEq, and_true, true_and, scal, Bool.not_eq_true', decide_eq_false_iff_not, Nat.zero_add, Nat.reduceAdd, Nat.reduceSub, reduceCtorEq, false_and, exists_false, false_or, or_false, CPow, CPowW, CMul, CDiv, Int.reduceToNat, ↓reduceIte, wipe, sw, rv3, tListKeys, tDIn, tDNotIn, List.nil_append, List.singleton_append])
local macro_rules | `(tactic| walk_at "st") => `(tactic| (refine seq_op fun N hN => ?_; walk_at "rs"))
local macro_rules | `(tactic| walk_at "sd") => `(tactic| first | assumption | decide | omega)
local macro_rules | `(tactic| walk_at "rd") => `(tactic| repeat (first
  | refine ⟨_, SqL.of (by assumption), ?_⟩ | refine ⟨_, SqL.of upd_same, ?_⟩ | refine ⟨_, .inl (SqL.of (by assumption)), ?_⟩ | refine ⟨_, (by assumption : _ = some (HO.lst _)), ?_⟩ | refine ⟨_, upd_same, ?_⟩
  | refine ⟨_, rfl, ?_⟩ | refine And.intro (by walk_at "sd") ?_))

/-- a comprehension over a list whose items may change other objects -/
theorem lc_lsI {K : PySem.W.Frag} {a : Addr} {xs : List V} {tl te : TE} {i0 : Nat} {σ : L2.St} {H1 : Hp} {Q : VK} (hv : ∀ Q : VK, Q (.ref a) H1 → tl σ H1 Q) (h : SqL K H1 a xs) (F : Addr → Nat → Hp → List V → Prop) (n : xs.length ≤ 1000000) (hl : ∀ D i H ys, F D i H ys → SqL K H a xs) (f0 : ∀ D, H1 D = none → F D 0 (L2.upd H1 D (.lst [])) [])
    (hs : ∀ D i x G ys, H1 D = none → xs[i]? = some x → G D = some (.lst ys) → ys.length = i → F D i G ys → ∀ Q2 : VK, (∀ y G4, G4 D = some (.lst ys) → F D (i + 1) (L2.upd G4 D (.lst (ys ++ [y]))) (ys ++ [y]) → Q2 y G4) → te ((wipe σ [i0]).set i0 (some x)) G Q2)
    (hq : ∀ D G ys, H1 D = none → G D = some (.lst ys) → ys.length = xs.length → F D xs.length G ys → Q (.ref D) G) : tLc (iList K tl) (gName i0) tYes te [i0] σ H1 Q := by
  refine hv _ ⟨a, rfl, ⟨xs, h⟩, fun D hD => lc_it walk_list (fun i H => ∃ ys, H D = some (.lst ys) ∧ ys.length = i ∧ F D i H ys) ⟨[], upd_same, rfl, f0 D hD⟩ (fun i H _ ⟨ys, _, _, f⟩ => hl D i H ys f) (fun i x H H' hi ⟨ys, h1, l, f⟩ y => ?_) (fun H ⟨ys, h1, l, f⟩ => hq D H ys hD h1 l f)⟩
  obtain ⟨rfl, hx⟩ := y
  refine ⟨?_, ?_⟩
  · show ((σ.set i0 none).set i0 (some _)).set i0 none = σ.set i0 none
    rw [List.set_set, List.set_set]
  · simp only [tYes, eq_self, ite_true]
    refine hs D i x H' ys hD hx h1 l f _ fun y G4 e f4 => ⟨ys, e, ?_, ys ++ [y], upd_same, by rw [List.length_append, l]; rfl, f4⟩
    rw [l]
    exact Nat.lt_of_lt_of_le (Nat.lt_of_lt_of_le hi n) (by decide)
/-! ### fractions and points at the heap -/
inductive Rats (K : PySem.W.Frag) (H : Hp) : List V → List Rat → Prop
  | nil : Rats K H [] []
  | cons {a : Addr} {r : Rat} {xs : List V} {rs : List Rat} : Fv K H a r → Rats K H xs rs → Rats K H (.ref a :: xs) (r :: rs)
theorem Fv.same {K : PySem.W.Frag} {H H' : Hp} {a : Addr} {r : Rat} (s : Same H H') (h : Fv K H a r) : Fv K H' a r := Same.seqT s h
theorem Fv.of {K : PySem.W.Frag} {H : Hp} {a : Addr} {r : Rat} (h : H a = some (.tup [.int (fq r).1, .int (fq r).2])) : Fv K H a r := .inl (.inl h)
theorem Rats.same {K : PySem.W.Frag} {H H' : Hp} (s : Same H H') : ∀ {xs : List V} {rs : List Rat}, Rats K H xs rs → Rats K H' xs rs
  | _, _, .nil => .nil
  | _, _, .cons h q => .cons (h.same s) (q.same s)
theorem Rats.len {K : PySem.W.Frag} {H : Hp} : ∀ {xs : List V} {rs : List Rat}, Rats K H xs rs → xs.length = rs.length
  | _, _, .nil => rfl
  | _, _, .cons _ q => congrArg Nat.succ q.len
theorem Rats.app {K : PySem.W.Frag} {H : Hp} : ∀ {xs ys : List V} {rs ss : List Rat}, Rats K H xs rs → Rats K H ys ss → Rats K H (xs ++ ys) (rs ++ ss)
  | _, _, _, _, .nil, r => r
  | _, _, _, _, .cons h q, r => .cons h (q.app r)
theorem Rats.updO {K : PySem.W.Frag} {H : Hp} {p : Addr} {o : HO} (hp : ∀ ys, ¬ Rd H p (.tup ys)) : ∀ {xs : List V} {rs : List Rat}, Rats K H xs rs → Rats K (L2.upd H p o) xs rs
  | _, _, .nil => .nil
  | _, _, .cons h q => .cons (seqT_updO hp h) (q.updO hp)
theorem Rats.kp {K : PySem.W.Frag} {N : Nat} {H H' : Hp} {b c : Addr} (B : Bag N H b c) (k : Kp b H H') : ∀ {xs : List V} {rs : List Rat}, Rats K H xs rs → Rats K H' xs rs
  | _, _, .nil => .nil
  | _, _, .cons h q => .cons (seqT_kp B k h) (q.kp B k)
theorem Rats.get {K : PySem.W.Frag} {H : Hp} : ∀ {xs : List V} {rs : List Rat} {i : Nat} {x : V}, Rats K H xs rs → xs[i]? = some x → ∃ (a : Addr) (r : Rat), x = .ref a ∧ rs[i]? = some r ∧ Fv K H a r
  | _, _, _, _, .nil, h => by simp at h
  | _, _, 0, _, .cons h _, e => ⟨_, _, (Option.some.inj e).symm, rfl, h⟩
  | _, _, i + 1, _, .cons _ q, e => by
    obtain ⟨a, r, h1, h2, h3⟩ := q.get (i := i) e
    exact ⟨a, r, h1, h2, h3⟩
theorem Rats.has {K : PySem.W.Frag} {H : Hp} : ∀ {xs : List V} {rs : List Rat} {i : Nat} {r : Rat}, Rats K H xs rs → rs[i]? = some r → ∃ a : Addr, xs[i]? = some (.ref a) ∧ Fv K H a r
  | _, _, _, _, .nil, h => by simp at h
  | _, _, 0, _, .cons h _, e => by obtain rfl := Option.some.inj e; exact ⟨_, rfl, h⟩
  | _, _, i + 1, _, .cons _ q, e => q.has (i := i) e
inductive Pts (K : PySem.W.Frag) (H : Hp) : List V → List (Rat × Int) → Prop
  | nil : Pts K H [] []
  | cons {a u : Addr} {r : Rat} {c : Int} {xs : List V} {ps : List (Rat × Int)} : SqT K H a [.ref u, .int c] → Fv K H u r → Pts K H xs ps → Pts K H (.ref a :: xs) ((r, c) :: ps)
theorem Pts.same {K : PySem.W.Frag} {H H' : Hp} (s : Same H H') : ∀ {xs : List V} {ps : List (Rat × Int)}, Pts K H xs ps → Pts K H' xs ps
  | _, _, .nil => .nil
  | _, _, .cons h g q => .cons (Same.seqT s h) (g.same s) (q.same s)
theorem Pts.len {K : PySem.W.Frag} {H : Hp} : ∀ {xs : List V} {ps : List (Rat × Int)}, Pts K H xs ps → xs.length = ps.length
  | _, _, .nil => rfl
  | _, _, .cons _ _ q => congrArg Nat.succ q.len
theorem Pts.app {K : PySem.W.Frag} {H : Hp} : ∀ {xs ys : List V} {rs ss : List (Rat × Int)}, Pts K H xs rs → Pts K H ys ss → Pts K H (xs ++ ys) (rs ++ ss)
  | _, _, _, _, .nil, r => r
  | _, _, _, _, .cons h g q, r => .cons h g (q.app r)
theorem Pts.updO {K : PySem.W.Frag} {H : Hp} {p : Addr} {o : HO} (hp : ∀ ys, ¬ Rd H p (.tup ys)) : ∀ {xs : List V} {rs : List (Rat × Int)}, Pts K H xs rs → Pts K (L2.upd H p o) xs rs
  | _, _, .nil => .nil
  | _, _, .cons h g q => .cons (seqT_updO hp h) (seqT_updO hp g) (q.updO hp)
theorem Pts.kp {K : PySem.W.Frag} {N : Nat} {H H' : Hp} {b c : Addr} (B : Bag N H b c) (k : Kp b H H') : ∀ {xs : List V} {rs : List (Rat × Int)}, Pts K H xs rs → Pts K H' xs rs
  | _, _, .nil => .nil
  | _, _, .cons h g q => .cons (seqT_kp B k h) (seqT_kp B k g) (q.kp B k)
theorem Pts.get {K : PySem.W.Frag} {H : Hp} : ∀ {xs : List V} {ps : List (Rat × Int)} {i : Nat} {x : V}, Pts K H xs ps → xs[i]? = some x → ∃ (a u : Addr) (r : Rat) (c : Int), x = .ref a ∧ ps[i]? = some (r, c) ∧ SqT K H a [.ref u, .int c] ∧ Fv K H u r
  | _, _, _, _, .nil, h => by simp at h
  | _, _, 0, _, .cons h g _, e => ⟨_, _, _, _, (Option.some.inj e).symm, rfl, h, g⟩
  | _, _, i + 1, _, .cons _ _ q, e => by
    obtain ⟨a, u, r, c, h1, h2, h3, h4⟩ := q.get (i := i) e
    exact ⟨a, u, r, c, h1, h2, h3, h4⟩
/-! ### lists of entries at the heap -/
structure Gs (K : PySem.W.Frag) (H : Hp) (as : List Addr) (F : Nat → List It) : Prop where
  nd : as.Nodup
  at_ : ∀ j a, as[j]? = some a → ∃ xs, H a = some (.lst xs) ∧ Its K H xs (F j)
theorem Gs.same {K : PySem.W.Frag} {H H' : Hp} {as : List Addr} {F : Nat → List It} (s : Same H H') (g : Gs K H as F) : Gs K H' as F := ⟨g.nd, fun j a h => by
  obtain ⟨xs, h1, h2⟩ := g.at_ j a h
  exact ⟨xs, s _ _ h1, h2.same s⟩⟩
theorem Gs.put {K : PySem.W.Frag} {H : Hp} {as : List Addr} {F : Nat → List It} (g : Gs K H as F) {j : Nat} {a : Addr} {xs : List V} {p u : Addr} {k : List Int} {r : Rat} (ha : as[j]? = some a) (hx : H a = some (.lst xs)) (hp : SqT K H p (k.map V.int ++ [.ref u])) (hu : Fv K H u r) : Gs K (L2.upd H a (.lst (xs ++ [.ref p]))) as (putE F j (k, fq r)) := by
  have nt := notT_lst hx
  refine ⟨g.nd, fun i e he => ?_⟩
  unfold putE
  by_cases ij : i = j
  · subst ij
    rw [ha] at he
    obtain rfl := Option.some.inj he
    obtain ⟨xs', h1, h2⟩ := g.at_ i a ha
    rw [hx] at h1
    obtain rfl : xs' = xs := by injection h1 with h1; injection h1 with h1; exact h1.symm
    rw [if_pos rfl]
    exact ⟨_, upd_same, (h2.updO nt).app (.cons (seqT_updO nt hp) (seqT_updO nt hu) .nil)⟩
  · rw [if_neg ij]
    have ne : e ≠ a := fun z => by
      subst z
      obtain ⟨k1, e1⟩ := List.getElem?_eq_some_iff.mp he
      exact ij ((List.getElem?_inj k1 g.nd).mp (he.trans ha.symm))
    obtain ⟨ys, h1, h2⟩ := g.at_ i e he
    exact ⟨ys, by rw [upd_ne ne]; exact h1, h2.updO nt⟩
end LK

set_option Elab.async false
set_option linter.all false
set_option maxRecDepth 100000
namespace LK
open PySem PySem.Spec PyProof.Rows L2
local macro_rules | `(tactic| walk_at "rs") => `(tactic| simp only [cxK, cxNK, tCallZ, tAsg, tOp, rI0, rS0, rB0, rI, rU, tUn, rEq, rNe, rIxL, rIxT, rIxS, rSetL, rSlLU, rSlS, rSlU, rCatL, rCatU, rRepL, rIn, tVar, tC, gName, gSub, tIfS, tTest, tB, tAnd, tOr, tNot, tNotV, tAndV, tOrV, tIf, tCall, tCons, tNil, tCB, tDrop, tRet, tRetN, tNext, tLstU, tTupU, tM0, tM1, tPar, tPar3, tAug, ipI, tBM, tBM0, rAppend, rPop, tBreak, sDPut, tDGet, tDGet2, tCont, tChain, tSl, tPart, tNoPart, L2.start, List.map, List.length_cons, List.length_nil, List.replicate, List.cons_append, List.nil_append, List.append_nil, List.getElem?_cons_zero, List.getElem?_cons_succ, List.set_cons_zero, List.set_cons_succ, Option.some.injEq, V.int.injEq, V.ref.injEq, V.str.injEq, V.bl.injEq, exists_eq_left', exists_eq_left, exists_and_left, decide_eq_true_eq, List.cons.injEq, and_true, true_and, scal, Bool.not_eq_true', decide_eq_false_iff_not, Nat.zero_add, Nat.reduceAdd, Nat.reduceSub, reduceCtorEq, false_and, exists_false, false_or, or_false, CPow, CPowW, CMul, CDiv, Int.reduceToNat, ↓reduceIte, wipe, sw, rv3, tListKeys, tDIn, tDNotIn, List.nil_append, List.singleton_append])
local macro_rules | `(tactic| walk_at "st") => `(tactic| (refine seq_op fun N hN => ?_; walk_at "rs"))
local macro_rules | `(tactic| walk_at "sd") => `(tactic| first | assumption | decide | omega)
local macro_rules | `(tactic| walk_at "rd") => `(tactic| repeat (first
  | refine ⟨_, SqL.of (by assumption), ?_⟩ | refine ⟨_, SqL.of upd_same, ?_⟩ | refine ⟨_, .inl (SqL.of (by assumption)), ?_⟩ | refine ⟨_, (by assumption : _ = some (HO.lst _)), ?_⟩ | refine ⟨_, upd_same, ?_⟩
  | refine ⟨_, rfl, ?_⟩ | refine And.intro (by walk_at "sd") ?_))

/-- a level: parts of D, within 1001 -/
def Lv (D : Int) (r : Rat) : Prop := (∃ X : Int, r * (D : Rat) = (X : Rat)) ∧ -1001 ≤ r ∧ r ≤ 1001
theorem abs_parts {D X : Int} {r : Rat} {k : Nat} (hD : 0 < D) (e : r * (D : Rat) = (X : Rat)) (h1 : -((k : Int) : Rat) ≤ r) (h2 : r ≤ ((k : Int) : Rat)) : X.natAbs ≤ k * D.natAbs := by
  have d0 : (0 : Rat) ≤ (D : Rat) := by
    have : ((0 : Int) : Rat) ≤ (D : Rat) := Rat.intCast_le_intCast.mpr (by omega)
    exact this
  have a := Rat.mul_le_mul_of_nonneg_right h1 d0
  have b := Rat.mul_le_mul_of_nonneg_right h2 d0
  rw [e] at a b
  have a1 : ((-(k : Int) * D : Int) : Rat) ≤ (X : Rat) := by rw [Rat.intCast_mul, Rat.intCast_neg]; exact a
  have b1 : (X : Rat) ≤ (((k : Int) * D : Int) : Rat) := by rw [Rat.intCast_mul]; exact b
  have a2 := Rat.intCast_le_intCast.mp a1
  have b2 := Rat.intCast_le_intCast.mp b1
  rw [Int.neg_mul] at a2
  have e3 : ((k * D.natAbs : Nat) : Int) = (k : Int) * D := by rw [Int.natCast_mul]; congr 1; omega
  omega
theorem Lv.bits {D : Int} {r : Rat} (hD : 0 < D) (hD2 : D < 2 ^ 38) (h : Lv D r) : bits r ≤ 49 := by
  obtain ⟨⟨X, e⟩, h1, h2⟩ := h
  have := abs_parts (k := 1001) hD e h1 h2
  refine bits_parts hD e (by decide) (Nat.lt_of_le_of_lt this ?_) ?_
  · have : D.natAbs < 2 ^ 38 := by omega
    omega
  · have : D.natAbs < 2 ^ 38 := by omega
    omega
theorem Lv.sub_bits {D : Int} {r s : Rat} (hD : 0 < D) (hD2 : D < 2 ^ 38) (h : Lv D r) (g : Lv D s) : LK.bits (r - s) ≤ 49 := by
  obtain ⟨⟨X, e⟩, h1, h2⟩ := h
  obtain ⟨⟨Y, f⟩, g1, g2⟩ := g
  have e2 : (r - s) * (D : Rat) = ((X - Y : Int) : Rat) := by
    rw [Rat.intCast_sub, ← e, ← f]
    grind
  have := abs_parts (k := 2002) hD e2 (by show (-2002 : Rat) ≤ r - s; grind) (by show r - s ≤ (2002 : Rat); grind)
  refine bits_parts hD e2 (by decide) (Nat.lt_of_le_of_lt this ?_) ?_
  · have : D.natAbs < 2 ^ 38 := by omega
    omega
  · have : D.natAbs < 2 ^ 38 := by omega
    omega
/-- what points keep -/
structure PtsOk (ps : List (Rat × Int)) (D : Int) (scratch rest : Int) : Prop where
  l1 : 1 ≤ ps.length
  l8 : ps.length ≤ 8
  d0 : 0 < D
  d1 : D < 2 ^ 38
  lv : ∀ p ∈ ps, (∃ X : Int, p.1 * (D : Rat) = (X : Rat)) ∧ -1000 ≤ p.1 ∧ p.1 ≤ 1000
  up : (ps.map (·.1)).Pairwise (· < ·)
  cl : ∀ p ∈ ps, InR p.2
  sc : InR scratch
  rs : InR rest
  ne : scratch ≠ rest
/-- the levels: one below, the points', one above -/
def lvs (rs : List Rat) : List Rat := (rs.getD 0 0 - 1) :: (rs ++ [rs.getD (rs.length - 1) 0 + 1])
theorem lvs_len (rs : List Rat) : (lvs rs).length = rs.length + 2 := by
  unfold lvs
  rw [List.length_cons, List.length_append]
  rfl
theorem lvs_up {rs : List Rat} (h1 : 1 ≤ rs.length) (h : rs.Pairwise (· < ·)) : (lvs rs).Pairwise (· < ·) := by
  have e0 : ∀ r ∈ rs, rs.getD 0 0 ≤ r := fun r hr => by
    obtain ⟨i, hi, e⟩ := List.getElem_of_mem hr
    have z : rs.getD 0 0 = rs[0] := by simp [List.getD, show 0 < rs.length by omega]
    rw [z]
    rcases Nat.eq_zero_or_pos i with i0 | ip
    · subst i0
      rw [e]
      exact Rat.le_refl
    · have := List.pairwise_iff_getElem.mp h 0 i (by omega) hi ip
      rw [e] at this
      exact Rat.le_of_lt this
  have e1 : ∀ r ∈ rs, r ≤ rs.getD (rs.length - 1) 0 := fun r hr => by
    obtain ⟨i, hi, e⟩ := List.getElem_of_mem hr
    have z : rs.getD (rs.length - 1) 0 = rs[rs.length - 1] := by simp [List.getD, show rs.length - 1 < rs.length by omega]
    rw [z]
    rcases Nat.lt_or_ge i (rs.length - 1) with ip | i0
    · have := List.pairwise_iff_getElem.mp h i (rs.length - 1) hi (by omega) ip
      rw [e] at this
      exact Rat.le_of_lt this
    · have : i = rs.length - 1 := by omega
      subst this
      rw [e]
      exact Rat.le_refl
  refine List.pairwise_cons.mpr ⟨fun r hr => ?_, List.pairwise_append.mpr ⟨h, List.pairwise_singleton _ _, fun a ha b hb => ?_⟩⟩
  · rcases List.mem_append.mp hr with hr | hr
    · have := e0 r hr
      grind
    · obtain rfl := List.mem_singleton.mp hr
      have hm : rs[0] ∈ rs := List.getElem_mem (by omega)
      have a := e0 _ hm
      have b := e1 _ hm
      grind
  · obtain rfl := List.mem_singleton.mp hb
    have := e1 a ha
    grind
theorem lvs_lv {ps : List (Rat × Int)} {D scratch rest : Int} (ok : PtsOk ps D scratch rest) : ∀ r ∈ lvs (ps.map (·.1)), Lv D r := by
  have key : ∀ r ∈ ps.map (·.1), (∃ X : Int, r * (D : Rat) = (X : Rat)) ∧ -1000 ≤ r ∧ r ≤ 1000 := fun r hr => by
    obtain ⟨p, hp, rfl⟩ := List.mem_map.mp hr
    exact ok.lv p hp
  have l1 : 1 ≤ (ps.map (·.1)).length := by rw [List.length_map]; exact ok.l1
  generalize ps.map (·.1) = rs at key l1
  have g : ∀ i, i < rs.length → rs.getD i 0 ∈ rs := fun i hi => by
    have : rs.getD i 0 = rs[i] := by simp [List.getD, hi]
    rw [this]
    exact List.getElem_mem hi
  intro r hr
  rcases List.mem_cons.mp hr with rfl | hr
  · obtain ⟨⟨X, e⟩, h1, h2⟩ := key _ (g 0 (by omega))
    refine ⟨⟨X - D, ?_⟩, ?_, ?_⟩
    · rw [Rat.intCast_sub, ← e]; grind
    · grind
    · grind
  · rcases List.mem_append.mp hr with hr | hr
    · obtain ⟨e, h1, h2⟩ := key r hr
      exact ⟨e, by grind, by grind⟩
    · obtain rfl := List.mem_singleton.mp hr
      obtain ⟨⟨X, e⟩, h1, h2⟩ := key _ (g (rs.length - 1) (by omega))
      refine ⟨⟨X + D, ?_⟩, ?_, ?_⟩
      · rw [Rat.intCast_add, ← e]; grind
      · grind
      · grind
/-- the levels as a function, the columns as a function -/
def lvf (ps : List (Rat × Int)) (j : Nat) : Rat := (lvs (ps.map (·.1))).getD j 0
def clf (ps : List (Rat × Int)) (j : Nat) : Int := (ps.map (·.2)).getD j 0
theorem lvf_lv {ps : List (Rat × Int)} {D scratch rest : Int} (ok : PtsOk ps D scratch rest) {j : Nat} (h : j < ps.length + 2) : Lv D (lvf ps j) := by
  refine lvs_lv ok _ ?_
  unfold lvf
  have hj : j < (lvs (ps.map (·.1))).length := by rw [lvs_len, List.length_map]; exact h
  have : (lvs (ps.map (·.1))).getD j 0 = (lvs (ps.map (·.1)))[j] := by simp [List.getD, hj]
  rw [this]
  exact List.getElem_mem hj
theorem lvf_up {ps : List (Rat × Int)} {D scratch rest : Int} (ok : PtsOk ps D scratch rest) {i j : Nat} (hij : i < j) (h : j < ps.length + 2) : lvf ps i < lvf ps j := by
  have up := lvs_up (by rw [List.length_map]; exact ok.l1) ok.up
  have hj : j < (lvs (ps.map (·.1))).length := by rw [lvs_len, List.length_map]; exact h
  have := List.pairwise_iff_getElem.mp up i j (by omega) hj hij
  unfold lvf
  have e1 : (lvs (ps.map (·.1))).getD j 0 = (lvs (ps.map (·.1)))[j] := by simp [List.getD, hj]
  have e2 : (lvs (ps.map (·.1))).getD i 0 = (lvs (ps.map (·.1)))[i]'(by omega) := by simp [List.getD, show i < (lvs (ps.map (·.1))).length by omega]
  rw [e1, e2]
  exact this
theorem bits_inv {x : Rat} (h : x ≠ 0) : bits (1 / x) ≤ bits x := by
  obtain ⟨a1, a2⟩ := bits_lt x
  have e := quo_fq 1 h
  rw [show fq 1 = (1, 1) from rfl] at e
  simp only [Int.one_mul] at e
  exact bits_le e (num0 h) (bits_pos x) a2 a1
theorem steps_ok {ps : List (Rat × Int)} {D scratch rest : Int} (ok : PtsOk ps D scratch rest) : Steps (lvf ps) ps.length := fun m hm => by
  have a := lvf_lv ok (j := m) (by omega)
  have b := lvf_lv ok (j := m + 1) (by omega)
  have up := lvf_up ok (i := m) (j := m + 1) (by omega) (by omega)
  have n0 : lvf ps (m + 1) - lvf ps m ≠ 0 := by grind
  have h := Lv.sub_bits ok.d0 ok.d1 b a
  exact Nat.le_trans (bits_inv n0) h
/-- the steepness of the rest -/
def stp (ps : List (Rat × Int)) : Int := 3 + (fq (lvf ps (ps.length + 1) - lvf ps 0)).1.fdiv (fq (lvf ps (ps.length + 1) - lvf ps 0)).2
theorem floor_in {r : Rat} {k : Int} (h0 : 0 ≤ r) (h1 : r ≤ (k : Rat)) : 0 ≤ (fq r).1.fdiv (fq r).2 ∧ (fq r).1.fdiv (fq r).2 ≤ k ∧ r < (((fq r).1.fdiv (fq r).2 : Int) : Rat) + 1 := by
  have d := (low_fq r).1
  have n0 : 0 ≤ (fq r).1 := by
    have := (Rat.le_iff (a := 0) (b := r)).mp h0
    rw [show (0 : Rat).num = 0 from rfl, show (0 : Rat).den = 1 from rfl] at this
    show 0 ≤ r.num
    omega
  have n1 : (fq r).1 ≤ k * (fq r).2 := by
    have := (Rat.le_iff (a := r) (b := (k : Rat))).mp h1
    rw [show ((k : Rat)).num = k from rfl, show ((k : Rat)).den = 1 from rfl] at this
    show r.num ≤ k * (r.den : Int)
    omega
  have e : (fq r).1.fdiv (fq r).2 = (fq r).1 / (fq r).2 := Int.fdiv_eq_ediv_of_nonneg _ (by omega)
  rw [e]
  have hm := Int.emod_add_mul_ediv (fq r).1 (fq r).2
  have m0 := Int.emod_nonneg (fq r).1 (show (fq r).2 ≠ 0 by omega)
  have m1 := Int.emod_lt_of_pos (fq r).1 (show 0 < (fq r).2 by omega)
  refine ⟨Int.ediv_nonneg n0 (by omega), ?_, ?_⟩
  · exact Int.ediv_le_of_le_mul (by omega) n1
  · have hl : (fq r).1 < ((fq r).1 / (fq r).2 + 1) * (fq r).2 := by
      rw [Int.add_mul, Int.one_mul, Int.mul_comm]
      omega
    have : r < ((((fq r).1 / (fq r).2 + 1 : Int)) : Rat) := by
      rw [Rat.lt_iff]
      show r.num * 1 < _ * (r.den : Int)
      rw [Int.mul_one]
      exact hl
    rw [Rat.intCast_add] at this
    exact this
theorem span_in {ps : List (Rat × Int)} {D scratch rest : Int} (ok : PtsOk ps D scratch rest) : 0 ≤ lvf ps (ps.length + 1) - lvf ps 0 ∧ lvf ps (ps.length + 1) - lvf ps 0 ≤ ((2002 : Int) : Rat) := by
  have a := lvf_lv ok (j := ps.length + 1) (by omega)
  have b := lvf_lv ok (j := 0) (by omega)
  have up := lvf_up ok (i := 0) (j := ps.length + 1) (by omega) (by omega)
  obtain ⟨_, a1, a2⟩ := a
  obtain ⟨_, b1, b2⟩ := b
  refine ⟨by grind, ?_⟩
  show _ ≤ (2002 : Rat)
  grind
theorem stp_in {ps : List (Rat × Int)} {D scratch rest : Int} (ok : PtsOk ps D scratch rest) : 3 ≤ stp ps ∧ stp ps ≤ 2005 ∧ lvf ps (ps.length + 1) - lvf ps 0 < (stp ps : Rat) := by
  obtain ⟨h0, h1⟩ := span_in ok
  obtain ⟨f0, f1, f2⟩ := floor_in h0 h1
  unfold stp
  refine ⟨by omega, by omega, ?_⟩
  rw [Rat.intCast_add]
  have : ((3 : Int) : Rat) = 3 := rfl
  rw [this]
  grind
end LK

set_option Elab.async false
set_option linter.all false
set_option maxRecDepth 100000
namespace LK
open PySem PySem.Spec PyProof.Rows L2
local macro_rules | `(tactic| walk_at "rs") => `(tactic| simp only [cxK, cxNK, tCallZ, tAsg, tOp, rI0, rS0, rB0, rI, rU, tUn, rEq, rNe, rIxL, rIxT, rIxS, rSetL, rSlLU, rSlS, rSlU, rCatL, rCatU, rRepL, rIn, tVar, tC, gName, gSub, tIfS, tTest, tB, tAnd, tOr, tNot, tNotV, tAndV, tOrV, tIf, tCall, tCons, tNil, tCB, tDrop, tRet, tRetN, tNext, tLstU, tTupU, tM0, tM1, tPar, tPar3, tAug, ipI, tBM, tBM0, rAppend, rPop, tBreak, sDPut, tDGet, tDGet2, tCont, tChain, tSl, tPart, tNoPart, L2.start, List.map, List.length_cons, List.length_nil, List.replicate, List.cons_append, List.nil_append, List.append_nil, List.getElem?_cons_zero, List.getElem?_cons_succ, List.set_cons_zero, List.set_cons_succ, Option.some.injEq, V.int.injEq, V.ref.injEq, V.str.injEq, V.bl.injEq, exists_eq_left', exists_eq_left, exists_and_left, decide_eq_true_eq, List.cons.injEq, and_true, true_and, scal, Bool.not_eq_true', decide_eq_false_iff_not, Nat.zero_add, Nat.reduceAdd, Nat.reduceSub, reduceCtorEq, false_and, exists_false, false_or, or_false, CPow, CPowW, CMul, CDiv, Int.reduceToNat, ↓reduceIte, wipe, sw, rv3, tListKeys, tDIn, tDNotIn, List.nil_append, List.singleton_append])
local macro_rules | `(tactic| walk_at "st") => `(tactic| (refine seq_op fun N hN => ?_; walk_at "rs"))
local macro_rules | `(tactic| walk_at "sd") => `(tactic| first | assumption | decide | omega)
local macro_rules | `(tactic| walk_at "rd") => `(tactic| repeat (first
  | refine ⟨_, SqL.of (by assumption), ?_⟩ | refine ⟨_, SqL.of upd_same, ?_⟩ | refine ⟨_, .inl (SqL.of (by assumption)), ?_⟩ | refine ⟨_, (by assumption : _ = some (HO.lst _)), ?_⟩ | refine ⟨_, upd_same, ?_⟩
  | refine ⟨_, rfl, ?_⟩ | refine And.intro (by walk_at "sd") ?_))

/-- the units of peaks -/
structure PU (K : PySem.W.Frag) (H : Hp) (us : List V) (ps : List (Rat × Int)) (scratch rest : Int) : Prop where
  ln : us.length = ps.length + 2
  at_ : ∀ j v, us[j]? = some v → UnitAt K H v (accR (tms [scratch] rest (stp ps))) (fq (0 - lvf ps j)) (accR (gvs (lvf ps) (clf ps) ps.length j))
theorem PU.same {K : PySem.W.Frag} {H H' : Hp} {us : List V} {ps : List (Rat × Int)} {scratch rest : Int} (s : Same H H') (q : PU K H us ps scratch rest) : PU K H' us ps scratch rest := ⟨q.ln, fun j v h => UnitAt.same s (q.at_ j v h)⟩
theorem clf_in {ps : List (Rat × Int)} {D scratch rest : Int} (ok : PtsOk ps D scratch rest) : ∀ i, i < ps.length → InR (clf ps i) := fun i hi => by
  have e : clf ps i = (ps[i]).2 := by
    unfold clf
    rw [List.getD_eq_getElem?_getD, List.getElem?_map, List.getElem?_eq_getElem hi]
    rfl
  rw [e]
  exact ok.cl _ (List.getElem_mem hi)
theorem UnitAt.updO {K : PySem.W.Frag} {H : Hp} {p : Addr} {o : HO} (hp : ∀ ys, ¬ Rd H p (.tup ys)) {v : V} {R G : List Int → Rat} {f : Fr} : UnitAt K H v R f G → UnitAt K (L2.upd H p o) v R f G := fun ⟨q, a, c, g, ys, gs, its, gits, e, h1, h2, h3, h4, h5, h6, h7, h8, h9⟩ => ⟨q, a, c, g, ys, gs, its, gits, e, seqT_updO hp h1, seqT_updO hp h2, h3.updO hp, h4, h5, seqT_updO hp h6, seqT_updO hp h7, h8.updO hp, h9⟩
theorem UnitAt.kp {K : PySem.W.Frag} {N : Nat} {H H' : Hp} {b c : Addr} (B : Bag N H b c) (k : Kp b H H') {v : V} {R G : List Int → Rat} {f : Fr} : UnitAt K H v R f G → UnitAt K H' v R f G := fun ⟨q, a, c, g, ys, gs, its, gits, e, h1, h2, h3, h4, h5, h6, h7, h8, h9⟩ => ⟨q, a, c, g, ys, gs, its, gits, e, seqT_kp B k h1, seqT_kp B k h2, h3.kp B k, h4, h5, seqT_kp B k h6, seqT_kp B k h7, h8.kp B k, h9⟩
theorem PU.kp {K : PySem.W.Frag} {N : Nat} {H H' : Hp} {b c : Addr} {us : List V} {ps : List (Rat × Int)} {scratch rest : Int} (B : Bag N H b c) (k : Kp b H H') (q : PU K H us ps scratch rest) : PU K H' us ps scratch rest := ⟨q.ln, fun j v h => UnitAt.kp B k (q.at_ j v h)⟩
theorem snoc {α : Type} {l : List α} (h : 0 < l.length) : ∃ a y, l = a ++ [y] := by
  have ne : l ≠ [] := fun e => by subst e; exact Nat.lt_irrefl 0 h
  exact ⟨l.dropLast, l.getLast ne, (List.dropLast_concat_getLast ne).symm⟩
theorem last_snoc {α : Type} {a : List α} {y : α} : (a ++ [y])[(a ++ [y]).length - 1]? = some y := by simp
theorem at_last {xs : List V} {v : V} (h : xs[xs.length - 1]? = some v) : atI xs (-1) = some v := by
  have l : 0 < xs.length := by
    obtain ⟨hk, _⟩ := List.getElem?_eq_some_iff.mp h
    omega
  obtain ⟨a, y, rfl⟩ := snoc l
  rw [last_snoc] at h
  obtain rfl := Option.some.inj h
  exact atI_last _ _
theorem same_updN {H H2 : Hp} {e : Addr} {o : HO} (s : Same H H2) (h : H e = none) : Same H (L2.upd H2 e o) := fun b u hb => by
  rw [upd_ne (ne_of_none hb h)]
  exact s _ _ hb
theorem putE_len (F : Nat → List It) (j : Nat) (it : It) (i : Nat) : (putE F j it i).length ≤ max (F i).length ((F j).length + 1) := by
  unfold putE
  split
  · rw [List.length_append]
    exact Nat.le_max_right _ _
  · exact Nat.le_max_left _ _
theorem Fv.updO {K : PySem.W.Frag} {H : Hp} {p a : Addr} {o : HO} {r : Rat} (hp : ∀ ys, ¬ Rd H p (.tup ys)) (h : Fv K H a r) : Fv K (L2.upd H p o) a r := seqT_updO hp h
section
variable {P : Program} {w : World} {K : PySem.W.Frag} {mg : Str → Option Value} {base : Heap}
def sp_peaks (K : PySem.W.Frag) : Sp := fun vs H Q _ => ∃ (a : Addr) (xs : List V) (ps : List (Rat × Int)) (D scratch rest : Int), vs = [.ref a, .int scratch, .int rest] ∧ SeqI K H a xs ∧ Pts K H xs ps ∧ PtsOk ps D scratch rest ∧
  ∀ (t : Addr) (us : List V) H', Same H H' → H' t = some (.tup us) → PU K H' us ps scratch rest → Q (.ref t) H'
theorem ok_peak_units (T : Txt w K mg) : FnOk P w K mg base CX0 8 T.a_peak_units T.d_peak_units ["points", "scratch", "rest"] (sp_peaks K) := by
  refine T.F_peak_units.ok sc_peak_units (fun vs H Q E h => ?_) (fun cdv A outer s H vs Q E hr h => ?_)
  · obtain ⟨a, xs, ps, D, scratch, rest, rfl, _⟩ := h
    rfl
  · obtain ⟨a, xs, ps, D, scratch, rest, rfl, ha, hp, ok, k⟩ := h
    have hr_plus : Room 4 _ := hr.mono (by decide)
    have G_plus := ok_plusR (P := P) (base := base) T
    have hr_minus : Room 4 _ := hr.mono (by decide)
    have G_minus := ok_minusR (P := P) (base := base) T
    have hr_quotient : Room 4 _ := hr.mono (by decide)
    have G_quotient := ok_quotientR (P := P) (base := base) T
    have hr_floor_of : Room 1 _ := hr.mono (by decide)
    have G_floor_of := ok_floor_of (P := P) (base := base) T
    have hr_unit_of : Room 7 _ := hr
    have G_unit_of := ok_unit_of (P := P) (base := base) T
    have lx := hp.len
    have l1 := ok.l1
    have l8 := ok.l8
    refine ⟨_, (pss_cons (ps_setLc (i := 3) (own := [("point", 11), ("_", 13)]) (g := gTup K 2 (gCons (gName 11) (gCons (gName 13) (gNil)))) (tt := tYes) rfl sc_peak_units.nd rfl rfl (sw_true rfl rfl rfl (by decide +kernel)) (pi_lt (pv 0)) (blkOk_by (own := [("point", 11), ("_", 13)]) (N := N_peak_units) (sc := defScope s_peak_units) (by decide +kernel)) (fun _ _ _ _ _ => by exact (pg_tup rfl (pgs_cons (pg_name (i := 11) sc_peak_units.nd rfl (Or.inl rfl)) (pgs_cons (pg_name (i := 13) sc_peak_units.nd rfl (Or.inl rfl)) pgs_nil)))) (fun _ _ _ _ _ => pts_nil) (fun _ _ _ _ _ => (pv 11)))
      (pss_cons (ps_set (i := 3) sc_peak_units.nd rfl (Or.inl rfl) (pe_op op_catL (pe_op op_catL (pe_lstU (pa_cons (pe_call G_minus hr_minus (by rfl) T.m_minus T.F_minus.kp T.B_minus .nil pass0 (pa_cons (pe_ix ix_list (pv 3) pe_int (fun _ _ => rfl)) (pa_cons (pe_glob (v := .ref T.a_ONE) (by rfl) T.m_ONE rfl) pa_nil))) pa_nil)) (pv 3)) (pe_lstU (pa_cons (pe_call G_plus hr_plus (by rfl) T.m_plus T.F_plus.kp T.B_plus .nil pass0 (pa_cons (pe_ix ix_list (pv 3) (pe_un un_neg pe_int) (fun _ _ => rfl)) (pa_cons (pe_glob (v := .ref T.a_ONE) (by rfl) T.m_ONE rfl) pa_nil))) pa_nil))))
      (pss_cons (ps_set (i := 4) sc_peak_units.nd rfl (Or.inl rfl) (pe_op op_add pe_int (pe_call G_floor_of hr_floor_of (by rfl) T.m_floor_of T.F_floor_of.kp T.B_floor_of .nil pass0 (pa_cons (pe_call G_minus hr_minus (by rfl) T.m_minus T.F_minus.kp T.B_minus .nil pass0 (pa_cons (pe_ix ix_list (pv 3) (pe_un un_neg pe_int) (fun _ _ => rfl)) (pa_cons (pe_ix ix_list (pv 3) pe_int (fun _ _ => rfl)) pa_nil))) pa_nil))))
      (pss_cons (ps_setLc (i := 5) (own := [("_", 13)]) (g := gName 13) (tt := tYes) rfl sc_peak_units.nd rfl rfl (sw_true rfl rfl rfl (by decide +kernel)) (pi_list (pv 3)) (blkOk_by (own := [("_", 13)]) (N := N_peak_units) (sc := defScope s_peak_units) (by decide +kernel)) (fun _ _ _ _ _ => pg_name (i := 13) sc_peak_units.nd rfl (Or.inl rfl)) (fun _ _ _ _ _ => pts_nil) (fun _ _ _ _ _ => (pe_lstU pa_nil)))
      (pss_cons (ps_for PassesOwn.never rfl (pi_range2 (by rfl) T.n_range (pa_cons pe_int (pa_cons (pe_op op_sub (pe_callB call_len_seq (by rfl) T.n_len (by decide +kernel) (pa_cons (pv 3) pa_nil)) pe_int) pa_nil))) (pg_name (i := 6) sc_peak_units.nd rfl (Or.inl rfl)) (pss_cons (ps_set (i := 7) sc_peak_units.nd rfl (Or.inl rfl) (pe_ix ix_tup (pe_ix ix_lt (pv 0) (pe_op op_sub (pv 6) pe_int) (fun _ _ => rfl)) pe_int (fun _ _ => rfl)))
      (pss_cons (ps_set (i := 8) sc_peak_units.nd rfl (Or.inl rfl) (pe_call G_quotient hr_quotient (by rfl) T.m_quotient T.F_quotient.kp T.B_quotient .nil passL (pa_cons (pe_glob (v := .ref T.a_ONE) (by rfl) T.m_ONE rfl) (pa_cons (pe_call G_minus hr_minus (by rfl) T.m_minus T.F_minus.kp T.B_minus .nil pass0 (pa_cons (pe_ix ix_list (pv 3) (pv 6) (fun _ _ => rfl)) (pa_cons (pe_ix ix_list (pv 3) (pe_op op_sub (pv 6) pe_int) (fun _ _ => rfl)) pa_nil))) pa_nil))))
      (pss_cons (ps_set (i := 9) sc_peak_units.nd rfl (Or.inl rfl) (pe_call G_quotient hr_quotient (by rfl) T.m_quotient T.F_quotient.kp T.B_quotient .nil passL (pa_cons (pe_glob (v := .ref T.a_ONE) (by rfl) T.m_ONE rfl) (pa_cons (pe_call G_minus hr_minus (by rfl) T.m_minus T.F_minus.kp T.B_minus .nil pass0 (pa_cons (pe_ix ix_list (pv 3) (pe_op op_add (pv 6) pe_int) (fun _ _ => rfl)) (pa_cons (pe_ix ix_list (pv 3) (pv 6) (fun _ _ => rfl)) pa_nil))) pa_nil))))
      (pss_cons (ps_expr (pe_bm PySem.F.plainAttrs_list PySem.F.slot_list_append PySem.F.type_list_append mt_append (pe_ix ix_list (pv 5) (pe_op op_sub (pv 6) pe_int) (fun _ _ => rfl)) (pa_cons (pe_tupU (pa_cons (pv 7) (pa_cons (pv 8) pa_nil))) pa_nil)))
      (pss_cons (ps_expr (pe_bm PySem.F.plainAttrs_list PySem.F.slot_list_append PySem.F.type_list_append mt_append (pe_ix ix_list (pv 5) (pv 6) (fun _ _ => rfl)) (pa_cons (pe_tupU (pa_cons (pv 7) (pa_cons (pe_call G_minus hr_minus (by rfl) T.m_minus T.F_minus.kp T.B_minus .nil pass0 (pa_cons (pe_glob (v := .ref T.a_ZERO) (by rfl) T.m_ZERO rfl) (pa_cons (pe_call G_plus hr_plus (by rfl) T.m_plus T.F_plus.kp T.B_plus .nil pass0 (pa_cons (pv 8) (pa_cons (pv 9) pa_nil))) pa_nil))) pa_nil))) pa_nil)))
      (pss_one (ps_expr (pe_bm PySem.F.plainAttrs_list PySem.F.slot_list_append PySem.F.type_list_append mt_append (pe_ix ix_list (pv 5) (pe_op op_add (pv 6) pe_int) (fun _ _ => rfl)) (pa_cons (pe_tupU (pa_cons (pv 7) (pa_cons (pv 9) pa_nil))) pa_nil))))))))))
      (pss_cons (ps_set (i := 10) sc_peak_units.nd rfl (Or.inl rfl) (pe_lstU pa_nil))
      (pss_cons (ps_for PassesOwn.never rfl (pi_zip (by rfl) T.n_zip (pa_cons (pv 3) (pa_cons (pv 5) pa_nil))) (pg_tup rfl (pgs_cons (pg_name (i := 11) sc_peak_units.nd rfl (Or.inl rfl)) (pgs_cons (pg_name (i := 12) sc_peak_units.nd rfl (Or.inl rfl)) pgs_nil))) (pss_one (ps_expr (pe_bm PySem.F.plainAttrs_list PySem.F.slot_list_append PySem.F.type_list_append mt_append (pv 10) (pa_cons (pe_call G_unit_of hr_unit_of (by rfl) T.m_unit_of T.F_unit_of.kp T.B_unit_of .nil pass0 (pa_cons (pe_lstU (pa_cons (pv 1) pa_nil)) (pa_cons (pv 2) (pa_cons (pv 4) (pa_cons (pe_call G_minus hr_minus (by rfl) T.m_minus T.F_minus.kp T.B_minus .nil pass0 (pa_cons (pe_glob (v := .ref T.a_ZERO) (by rfl) T.m_ZERO rfl) (pa_cons (pv 11) pa_nil))) (pa_cons (pv 12) pa_nil)))))) pa_nil)))))
      (pss_one (ps_ret (pe_callTy call_tupleN (by rfl) T.n_tuple (by decide +kernel) (pa_cons (pv 10) pa_nil))))))))))), ?_⟩
    refine seq_op fun N hN => ?_
    walk_at "rs"
    refine lc_lt2 (K := K) (a := a) (xs := xs) (fun Q q => ⟨_, rfl, q⟩) ha (fun i H ys => Rats K H ys ((ps.take i).map fun p : Rat × Int => p.1)) (by omega) (fun i H H' ys s h => h.same s) (fun D i H ys zs o hp h => h.updO (notT_lst hp)) (fun H => .nil) (fun i x G hi sG e => ?_) (gm2 11 13) fun D1 H1 rx s1 D10 D11 ly iy => hN _ _ ?_
    · obtain ⟨pa, u, r, c, rfl, ei, h1, h2⟩ := hp.get e
      refine g2_at (Same.seqT sG h1) ⟨Same.refl _, rfl, fun Q2 hq => ⟨_, rfl, hq _ _ (Same.refl _) fun ys h => ?_⟩⟩
      have et : ps.take (i + 1) = ps.take i ++ [(r, c)] := by
        obtain ⟨hk, e⟩ := List.getElem?_eq_some_iff.mp ei
        rw [← List.take_append_getElem hk, e]
      rw [et, List.map_append]
      exact h.app (.cons (h2.same sG) .nil)
    clear hN N
    rw [lx, List.take_length] at iy
    have lr := iy.len
    rw [List.length_map] at lr
    refine seq_op fun N hN => ?_
    walk_at "rs"
    generalize er : ps.map (fun p : Rat × Int => p.1) = rs at iy
    have lrs : rs.length = ps.length := by rw [← er, List.length_map]
    have g0 : rs[0]? = some (rs.getD 0 0) := by
      rw [List.getElem?_eq_getElem (by omega)]
      simp [List.getD, show 0 < rs.length by omega]
    have g1 : rs[rs.length - 1]? = some (rs.getD (rs.length - 1) 0) := by
      rw [List.getElem?_eq_getElem (by omega)]
      simp [List.getD, show rs.length - 1 < rs.length by omega]
    have lvr : ∀ i r, rs[i]? = some r → Lv D r := fun i r h => by
      have hm := List.mem_of_getElem? h
      rw [← er] at hm
      exact lvs_lv ok r (List.mem_cons_of_mem _ (List.mem_append_left _ hm))
    obtain ⟨u0, eu0, hu0⟩ := iy.has g0
    obtain ⟨u1, eu1, hu1⟩ := iy.has g1
    have one : bits 1 ≤ 3990 := by decide
    have lrx : rx.length = rs.length := iy.len
    refine ⟨rx, SqL.of D11, _, at_ofN (j := 0) rfl eu0, u0, T.a_ONE, _, 1, rfl, hu0, T.s_ONE _, Nat.le_trans ((lvr _ _ g0).bits ok.d0 ok.d1) (by decide), one, trivial, fun t2 H2 s2 n2 t21 => ⟨by decide, fun p3 H3 s3 n3 t3 => ⟨_, t3, _, s3 _ _ (s2 _ _ D11), Nat.le_trans (show 1 + rx.length ≤ 9 by omega) (by decide), fun p4 H4 s4 n4 t4 => ?_⟩⟩⟩
    have s14 := Same.trans s2 (Same.trans s3 s4)
    refine ⟨rx, SqL.of (s14 _ _ D11), _, at_last (by rw [lrx]; exact eu1), u1, T.a_ONE, _, 1, rfl, hu1.same s14, T.s_ONE _, Nat.le_trans ((lvr _ _ g1).bits ok.d0 ok.d1) (by decide), one, trivial, fun t5 H5 s5 n5 t51 => ⟨by decide, fun p6 H6 s6 n6 t6 => ⟨_, s6 _ _ (s5 _ _ t4), _, t6, Nat.le_trans (show ([V.ref t2] ++ rx).length + 1 ≤ 10 by rw [List.length_append, List.length_singleton]; omega) (by decide), fun D7 H7 s7 n7 t7 => hN _ _ ?_⟩⟩⟩
    clear hN N
    have s57 := Same.trans s5 (Same.trans s6 s7)
    have s17 := Same.trans s14 s57
    have rl : Rats K H7 ([V.ref t2] ++ rx ++ [V.ref t5]) (lvs rs) := (Rats.cons (Fv.of (Same.trans s3 (Same.trans s4 s57) _ _ t21)) (iy.same s17)).app (.cons (Fv.of (Same.trans s6 s7 _ _ t51)) .nil)
    generalize [V.ref t2] ++ rx ++ [V.ref t5] = lx2 at rl t7
    have sH7 := Same.trans s1 s17
    refine seq_op fun N hN => ?_
    walk_at "rs"
    have en : (lvs rs).length = ps.length + 2 := by rw [lvs_len, lrs]
    have lf : ∀ j, j < ps.length + 2 → (lvs rs)[j]? = some (lvf ps j) := fun j hj => by
      unfold lvf
      rw [er, List.getElem?_eq_getElem (by omega)]
      simp [List.getD, show j < (lvs rs).length by omega]
    have lx2n : lx2.length = ps.length + 2 := by rw [rl.len, en]
    obtain ⟨v0, ev0, hv0⟩ := rl.has (lf 0 (by omega))
    obtain ⟨v1, ev1, hv1⟩ := rl.has (lf (ps.length + 1) (by omega))
    have lvl : ∀ j, j < ps.length + 2 → Lv D (lvf ps j) := fun j hj => lvf_lv ok hj
    have b90 : ∀ {r : Rat}, bits r ≤ 49 → bits r ≤ 3990 := fun h => Nat.le_trans h (by decide)
    have bl : ∀ j, j < ps.length + 2 → bits (lvf ps j) ≤ 3990 := fun j hj => b90 ((lvl j hj).bits ok.d0 ok.d1)
    refine ⟨lx2, SqL.of t7, _, at_last (by rw [lx2n]; exact ev1), lx2, SqL.of t7, _, at_ofN (j := 0) rfl ev0, v1, v0, _, _, rfl, hv1, hv0, bl _ (by omega), bl _ (by omega), trivial, fun t8 H8 s8 n8 t81 => ⟨t8, rfl, _, _, .inl (.inl t81), den0 _, (b4000 (b90 (Lv.sub_bits ok.d0 ok.d1 (lvl _ (by omega)) (lvl _ (by omega))))).2, hN _ _ ?_⟩⟩
    clear hN N
    rw [show (3 : Int) + (fq (lvf ps (ps.length + 1) - lvf ps 0)).1.fdiv (fq (lvf ps (ps.length + 1) - lvf ps 0)).2 = stp ps from rfl]
    have t78 := s8 _ _ t7
    have rl8 := rl.same s8
    have sH8 := Same.trans sH7 s8
    clear t7 rl sH7 s57 s14 s17 s1 s2 s3 s4 s5 s6 s7 iy hu0 hu1 eu0 eu1 D11 t21 t3 t4 t51 t6 hv0 hv1 ev0 ev1
    refine seq_op fun N hN => ?_
    walk_at "rs"
    refine lc_lsI (K := K) (a := D7) (xs := lx2) (fun Q q => ⟨_, rfl, q⟩) (SqL.of t78) (fun D i G ys => ∃ as : List Addr, ys = as.map V.ref ∧ as.Nodup ∧ (∀ e ∈ as, e ≠ D ∧ H8 e = none ∧ G e = some (.lst [])) ∧ Same H8 G) (by omega) (fun D i G ys ⟨_, _, _, _, sG⟩ => sG.seq (SqL.of t78)) (fun D hD => ⟨[], rfl, List.nodup_nil, fun e he => (by cases he), same_upd hD⟩) (fun D i x G ys hD ex hG ly ⟨as, ey, nd, ha2, sG⟩ Q2 hq => ?_) fun gv G ys hD hG ly ⟨as, ey, nd, ha2, sG⟩ => hN _ _ ?_
    · walk_at "rs"
      refine ⟨by decide, fun p G4 s4 n4 t4 => hq _ G4 (s4 _ _ hG) ⟨as ++ [p], by rw [ey, List.map_append]; rfl, ?_, fun e he => ?_, ?_⟩⟩
      · refine List.nodup_append.mpr ⟨nd, by simp, fun x hx y hy z => ?_⟩
        obtain rfl := List.mem_singleton.mp hy
        have := (ha2 x hx).2.2
        rw [z, n4] at this
        cases this
      · rcases List.mem_append.mp he with he | he
        · obtain ⟨a1, a2, a3⟩ := ha2 e he
          exact ⟨a1, a2, by rw [upd_ne a1]; exact s4 _ _ a3⟩
        · obtain rfl := List.mem_singleton.mp he
          have ne : e ≠ D := fun z => by rw [z, hG] at n4; cases n4
          exact ⟨ne, Same.dom sG _ n4, by rw [upd_ne ne]; exact t4⟩
      · intro b o e
        rw [upd_ne (ne_of_none e hD)]
        exact s4 _ _ (sG _ _ e)
    clear hN N
    subst ey
    rw [List.length_map, lx2n] at ly
    have gnot : gv ∉ as := fun m => (ha2 gv m).1 rfl
    have afr : ∀ e ∈ as, H8 e = none := fun e he => (ha2 e he).2.1
    have gs0 : Gs K G as (gvs (lvf ps) (clf ps) 0) := ⟨nd, fun j e he => ⟨[], (ha2 e (List.mem_of_getElem? he)).2.2, .nil⟩⟩
    clear ha2 nd
    refine cut_seq (fun σ J => ∃ (x6 x7 x8 x9 : Option V), σ = [some (.ref a), some (.int scratch), some (.int rest), some (.ref D7), some (.int (stp ps)), some (.ref gv), x6, x7, x8, x9, none, none, none, none] ∧ Same H8 J ∧ J gv = some (.lst (as.map V.ref)) ∧ Gs K J as (gvs (lvf ps) (clf ps) ps.length)) (fun N hN => ?_) ?_
    · walk_at "rs"
      have hDG := sG _ _ t78
      refine ⟨_, rfl, D7, rfl, lx2, .inl (SqL.of hDG), (lx2.length : Int), 1, rfl, rfl, 1, ((lx2.length : Int) - 1), rfl, ⟨by decide, by decide, by omega, by omega⟩, for_it (walk_range (lo := 1)) (fun i σ J => ∃ (x6 x7 x8 x9 : Option V), σ = [some (.ref a), some (.int scratch), some (.int rest), some (.ref D7), some (.int (stp ps)), some (.ref gv), x6, x7, x8, x9, none, none, none, none] ∧ Same H8 J ∧ J gv = some (.lst (as.map V.ref)) ∧ Gs K J as (gvs (lvf ps) (clf ps) i)) ⟨_, _, _, _, rfl, sG, hG, gs0⟩ (fun _ _ _ _ _ => trivial) ?_ ?_⟩
      · rintro m x σ J J' hm ⟨x6, x7, x8, x9, rfl, sJ, hgJ, gsJ⟩ ⟨rfl, rfl⟩
        have hm : m < ps.length := by omega
        show tSeq _ _ _ [some (V.ref a), some (V.int scratch), some (V.int rest), some (V.ref D7), some (V.int (stp ps)), some (V.ref gv), some (V.int (1 + (m : Int))), x7, x8, x9, none, none, none, none] J'
        refine seq_op fun N1 hN1 => ?_
        walk_at "rs"
        have mx : m < xs.length := by omega
        obtain ⟨pa, u, r, cc, ex, ep, h1, h2⟩ := hp.get (List.getElem?_eq_getElem mx)
        have ecl : clf ps m = cc := by
          unfold clf
          rw [List.getD_eq_getElem?_getD, List.getElem?_map, ep]
          rfl
        have sHJ := Same.trans sH8 sJ
        refine ⟨a, xs, _, _, rfl, rfl, ha.same sHJ, at_ofN (j := m) (by omega) (by rw [List.getElem?_eq_getElem mx, ex]), pa, rfl, _, Same.seqT sHJ h1, _, rfl, hN1 _ _ ?_⟩
        clear hN1 N1
        obtain ⟨wa, ea, hwa⟩ := rl8.has (lf m (by omega))
        obtain ⟨wb, eb, hwb⟩ := rl8.has (lf (m + 1) (by omega))
        obtain ⟨wc, ec, hwc⟩ := rl8.has (lf (m + 2) (by omega))
        have stp0 : Steps (lvf ps) ps.length := steps_ok ok
        have n0 : ∀ j, j ≤ ps.length → lvf ps (j + 1) - lvf ps j ≠ 0 := fun j hj => by
          have := lvf_up ok (i := j) (j := j + 1) (by omega) (by omega)
          grind
        have sb : ∀ j, j ≤ ps.length → bits (lvf ps (j + 1) - lvf ps j) ≤ 3990 := fun j hj => b90 (Lv.sub_bits ok.d0 ok.d1 (lvl _ (by omega)) (lvl _ (by omega)))
        have hDJ := sJ _ _ t78
        refine seq_op fun N1 hN1 => ?_
        walk_at "rs"
        refine ⟨lx2, SqL.of hDJ, _, at_ofN (j := m + 1) (by omega) eb, lx2, SqL.of hDJ, _, at_ofN (j := m) (by omega) ea, wb, wa, _, _, rfl, hwb.same sJ, hwa.same sJ, bl _ (by omega), bl _ (by omega), trivial, fun t1 J1 s1 n1 t11 => ⟨T.a_ONE, t1, 1, _, rfl, T.s_ONE _, Fv.of t11, one, sb m (by omega), n0 m (by omega), fun t2 J2 s2 n2 t21 => hN1 _ _ ?_⟩⟩
        clear hN1 N1
        have s12 := Same.trans s1 s2
        have sJ2 := Same.trans sJ s12
        refine seq_op fun N1 hN1 => ?_
        walk_at "rs"
        refine ⟨lx2, SqL.of (s12 _ _ hDJ), _, at_ofN (j := m + 2) (by omega) ec, lx2, SqL.of (s12 _ _ hDJ), _, at_ofN (j := m + 1) (by omega) eb, wc, wb, _, _, rfl, hwc.same sJ2, hwb.same sJ2, bl _ (by omega), bl _ (by omega), trivial, fun t3 J3 s3 n3 t31 => ⟨T.a_ONE, t3, 1, _, rfl, T.s_ONE _, Fv.of t31, one, sb (m + 1) (by omega), n0 (m + 1) (by omega), fun t4 J4 s4 n4 t41 => hN1 _ _ ?_⟩⟩
        clear hN1 N1
        have s34 := Same.trans s3 s4
        have s14 := Same.trans s12 s34
        have g4 := gsJ.same s14
        have hu4 : Fv K J4 t2 (pu (lvf ps) m) := Fv.of (s34 _ _ t21)
        have hd4 : Fv K J4 t4 (pu (lvf ps) (m + 1)) := Fv.of t41
        have hg4 := s14 _ _ hgJ
        have sJ4 := Same.trans sJ s14
        have asl : as.length = ps.length + 2 := ly
        have hgt : ∀ j, j < ps.length + 2 → ∃ e, as[j]? = some e ∧ (as.map V.ref)[j]? = some (.ref e) ∧ e ≠ gv ∧ H8 e = none := fun j hj => by
          refine ⟨as[j], List.getElem?_eq_getElem (by omega), ?_, fun z => gnot (z ▸ List.getElem_mem (by omega)), afr _ (List.getElem_mem (by omega))⟩
          rw [List.getElem?_map, List.getElem?_eq_getElem (by omega)]
          rfl
        clear s1 s2 s3 s4 s12 s34 s14 t11 t21 t31 t41 gsJ hgJ n1 n2 n3 n4 hDJ sJ sJ2 sHJ
        refine seq_op fun N1 hN1 => ?_
        walk_at "rs"
        have gl : ∀ j, (gvs (lvf ps) (clf ps) m j).length ≤ 24 := fun j => by
          have := (gvs_mem (c := clf ps) stp0 j m (by omega)).1
          omega
        obtain ⟨e0, a0, b0, ne0, f0⟩ := hgt m (by omega)
        obtain ⟨xs0, x0, i0⟩ := g4.at_ m e0 a0
        have l0 := i0.len
        have := gl m
        refine ⟨_, SqL.of hg4, _, at_ofN (j := m) (by omega) b0, .inl ⟨rfl, _, SqL.of x0⟩, by decide, fun p5 J5 s5 n5 t5 => ⟨e0, rfl, xs0, s5 _ _ x0, Nat.lt_of_le_of_lt (show xs0.length ≤ 24 by omega) (by decide), hN1 _ _ ?_⟩⟩
        clear hN1 N1
        have nt5 := notT_lst (s5 _ _ x0)
        have g5 := (g4.same s5).put a0 (s5 _ _ x0) (k := [cc]) (.inl (.inl t5)) (hu4.same s5)
        have hu5 := (hu4.same s5).updO (o := .lst (xs0 ++ [.ref p5])) nt5
        have hd5 := (hd4.same s5).updO (o := .lst (xs0 ++ [.ref p5])) nt5
        have hg5 : (L2.upd J5 e0 (.lst (xs0 ++ [.ref p5]))) gv = some (.lst (as.map V.ref)) := by rw [upd_ne ne0.symm]; exact s5 _ _ hg4
        have sJ5 : Same H8 (L2.upd J5 e0 (.lst (xs0 ++ [.ref p5]))) := same_updN (Same.trans sJ4 s5) f0
        have gl5 := fun j => Nat.le_trans (putE_len (gvs (lvf ps) (clf ps) m) m ([cc], fq (pu (lvf ps) m)) j) (Nat.max_le.mpr ⟨Nat.le_trans (gl j) (by decide : 24 ≤ 25), Nat.succ_le_succ (gl m)⟩)
        generalize L2.upd J5 e0 (.lst (xs0 ++ [.ref p5])) = G5 at g5 hu5 hd5 hg5 sJ5 ⊢
        clear g4 hu4 hd4 hg4 sJ4 nt5 s5 t5 n5 x0 i0 l0 J4
        refine seq_op fun N1 hN1 => ?_
        walk_at "rs"
        obtain ⟨e1, a1, b1, ne1, f1⟩ := hgt (m + 1) (by omega)
        obtain ⟨xs1, x1, i1⟩ := g5.at_ (m + 1) e1 a1
        have l1' := i1.len
        have := gl5 (m + 1)
        have bu := b90 (stp0 m (by omega))
        have bd := b90 (stp0 (m + 1) (by omega))
        have bm : bits (pu (lvf ps) m + pu (lvf ps) (m + 1)) ≤ 3990 := Nat.le_trans (bits_add _ _) (by have h1 := stp0 m (by omega); have h2 := stp0 (m + 1) (by omega); omega)
        refine ⟨_, SqL.of hg5, _, at_ofN (j := m + 1) (by omega) b1, .inl ⟨rfl, _, SqL.of x1⟩, t2, t4, _, _, rfl, hu5, hd5, bu, bd, trivial, fun t6 J6 s6 n6 t61 => ⟨T.a_ZERO, t6, 0, _, rfl, T.s_ZERO _, Fv.of t61, by decide, bm, trivial, fun t7 J7 s7 n7 t71 => ⟨by decide, fun p8 J8 s8 n8 t8 => ⟨e1, rfl, xs1, s8 _ _ (s7 _ _ (s6 _ _ x1)), Nat.lt_of_le_of_lt (show xs1.length ≤ 25 by omega) (by decide), hN1 _ _ ?_⟩⟩⟩⟩
        clear hN1 N1
        have s68 := Same.trans s6 (Same.trans s7 s8)
        have nt8 := notT_lst (s68 _ _ x1)
        have hm8 : Fv K J8 t7 (0 - (pu (lvf ps) m + pu (lvf ps) (m + 1))) := Fv.of (s8 _ _ t71)
        have g8 := (g5.same s68).put a1 (s68 _ _ x1) (k := [cc]) (.inl (.inl t8)) hm8
        have hd8 := (hd5.same s68).updO (o := .lst (xs1 ++ [.ref p8])) nt8
        have hg8 : (L2.upd J8 e1 (.lst (xs1 ++ [.ref p8]))) gv = some (.lst (as.map V.ref)) := by rw [upd_ne ne1.symm]; exact s68 _ _ hg5
        have sJ8 : Same H8 (L2.upd J8 e1 (.lst (xs1 ++ [.ref p8]))) := same_updN (Same.trans sJ5 s68) f1
        have gl8 := fun j => Nat.le_trans (putE_len (putE (gvs (lvf ps) (clf ps) m) m ([cc], fq (pu (lvf ps) m))) (m + 1) ([cc], fq (0 - (pu (lvf ps) m + pu (lvf ps) (m + 1)))) j) (Nat.max_le.mpr ⟨Nat.le_trans (gl5 j) (by decide : 25 ≤ 26), Nat.succ_le_succ (gl5 (m + 1))⟩)
        generalize L2.upd J8 e1 (.lst (xs1 ++ [.ref p8])) = G8 at g8 hd8 hg8 sJ8 ⊢
        clear g5 hu5 hd5 hg5 sJ5 nt8 s6 s7 s8 s68 t61 t71 t8 n6 n7 n8 x1 i1 l1' G5
        walk_at "rs"
        obtain ⟨e2, a2, b2, ne2, f2⟩ := hgt (m + 2) (by omega)
        obtain ⟨xs2, x2, i2⟩ := g8.at_ (m + 2) e2 a2
        have l2' := i2.len
        have := gl8 (m + 2)
        refine ⟨_, SqL.of hg8, _, at_ofN (j := m + 2) (by omega) b2, .inl ⟨rfl, _, SqL.of x2⟩, by decide, fun p9 J9 s9 n9 t9 => ⟨e2, rfl, xs2, s9 _ _ x2, Nat.lt_of_le_of_lt (show xs2.length ≤ 26 by omega) (by decide), ?_⟩⟩
        have g9 := (g8.same s9).put a2 (s9 _ _ x2) (k := [cc]) (.inl (.inl t9)) (hd8.same s9)
        rw [← ecl] at g9
        refine ⟨_, _, _, _, ⟨rfl, rfl, rfl, rfl⟩, same_updN (Same.trans sJ8 s9) f2, by rw [upd_ne ne2.symm]; exact s9 _ _ hg8, g9⟩
      · rintro σ J ⟨x6, x7, x8, x9, rfl, sJ, hgJ, gsJ⟩
        rw [show ((lx2.length : Int) - 1 - 1).toNat = ps.length by omega] at gsJ
        exact hN _ _ ⟨_, _, _, _, rfl, sJ, hgJ, gsJ⟩
    · rintro σ J ⟨x6, x7, x8, x9, rfl, sJ, hgJ, gsJ⟩
      refine seq_op fun N hN => ?_
      walk_at "rs"
      refine ⟨by decide, fun D9 J9 s9 n9 t9 => hN _ _ ?_⟩
      clear hN N
      refine cut_seq (fun σ G => ∃ (x6 x7 x8 x9 x11 x12 : Option V) (us : List V), σ = [some (.ref a), some (.int scratch), some (.int rest), some (.ref D7), some (.int (stp ps)), some (.ref gv), x6, x7, x8, x9, some (.ref D9), x11, x12, none] ∧ Same J G ∧ G D9 = some (.lst us) ∧ PU K G us ps scratch rest) (fun N hN => ?_) ?_
      · walk_at "rs"
        have hDJ := sJ _ _ t78
        have asl : as.length = ps.length + 2 := ly
        refine ⟨_, rfl, _, rfl, D7, gv, lx2, as.map V.ref, rfl, SqL.of (s9 _ _ hDJ), SqL.of (s9 _ _ hgJ), for_it (walk_zip (K := K) (a := D7) (b := gv) (xs := lx2) (ys := as.map V.ref) (n := ps.length + 2) (by rw [List.length_map, lx2n, asl, Nat.min_self])) (fun i σ G => ∃ (x6 x7 x8 x9 x11 x12 : Option V) (us : List V), σ = [some (.ref a), some (.int scratch), some (.int rest), some (.ref D7), some (.int (stp ps)), some (.ref gv), x6, x7, x8, x9, some (.ref D9), x11, x12, none] ∧ Same J G ∧ G D9 = some (.lst us) ∧ us.length = i ∧ ∀ j v, us[j]? = some v → UnitAt K G v (accR (tms [scratch] rest (stp ps))) (fq (0 - lvf ps j)) (accR (gvs (lvf ps) (clf ps) ps.length j))) ⟨_, _, _, _, _, _, [], rfl, s9, t9, rfl, fun j v h => by simp at h⟩ (fun i σ G _ ⟨_, _, _, _, _, _, _, _, s, _⟩ => ⟨SqL.of (s _ _ hDJ), SqL.of (s _ _ hgJ)⟩) ?_ ?_⟩
        · rintro j x σ G G' hj ⟨x6, x7, x8, x9, x11, x12, us, rfl, sG, hus, lus, hu⟩ ⟨T0, y, z, rfl, hT, rfl, e1, e2⟩
          obtain ⟨wa, wr, rfl, ewr, hwa⟩ := rl8.get e1
          obtain rfl : wr = lvf ps j := by
            rw [lf j hj] at ewr
            exact (Option.some.inj ewr).symm
          obtain ⟨e0, ee, rfl⟩ : ∃ e0, as[j]? = some e0 ∧ z = V.ref e0 := by
            have e2 : (as.map V.ref)[j]? = some z := e2
            rw [List.getElem?_map] at e2
            obtain ⟨t, h1, h2⟩ := Option.map_eq_some_iff.mp e2
            exact ⟨t, h1, h2.symm⟩
          obtain ⟨gxs, hx0, hits⟩ := gsJ.at_ j e0 ee
          have sT : Same G (L2.upd G T0 (.tup [.ref wa, .ref e0])) := same_upd hT
          have hT1 : (L2.upd G T0 (.tup [.ref wa, .ref e0])) T0 = some (.tup [.ref wa, .ref e0]) := upd_same
          generalize L2.upd G T0 (.tup [.ref wa, .ref e0]) = G1 at sT hT1 ⊢
          have sG1 := Same.trans sG sT
          refine g2_at (.inl (.inl hT1)) ?_
          walk_at "rs"
          have hDus := sT _ _ hus
          refine ⟨.inl ⟨rfl, _, SqL.of hDus⟩, by decide, fun p5 H5 s5 n5 t5 => ⟨T.a_ZERO, wa, 0, _, rfl, T.s_ZERO _, hwa.same (Same.trans sJ (Same.trans sG1 s5)), by decide, bl j hj, trivial, fun t6 H6 s6 n6 t61 => ?_⟩⟩
          have s56 := Same.trans s5 s6
          have sJ6 := Same.trans sG1 s56
          obtain ⟨st1, st2, _⟩ := stp_in ok
          refine ⟨p5, t6, e0, [scratch], gxs, gvs (lvf ps) (clf ps) ps.length j, rest, stp ps, fq (0 - lvf ps j), rfl, .inl (SqL.of (s6 _ _ t5)), fun x hx => by rw [List.mem_singleton.mp hx]; exact ok.sc, by show 1 ≤ 30; decide, ok.rs, Nat.lt_of_le_of_lt (show (stp ps).natAbs ≤ 2005 by omega) (by decide), .inl (.inl t61), .inl (SqL.of (sJ6 _ _ hx0)), hits.same sJ6, gvs_fit (steps_ok ok) l8 (clf_in ok) j, fun v H7 s7 u => ?_⟩
          have s57 := Same.trans s56 s7
          have hD7 := s57 _ _ hDus
          have nt := notT_lst hD7
          refine ⟨us, hD7, Nat.lt_of_le_of_lt (show us.length ≤ 10 by omega) (by decide), _, _, _, _, _, _, ⟨rfl, rfl, rfl, rfl, rfl, rfl⟩, same_updN (Same.trans sG1 s57) n9, _, upd_same, by rw [List.length_append, lus]; rfl, fun i v' h => ?_⟩
          rcases Nat.lt_or_ge i us.length with l | g
          · rw [List.getElem?_append_left l] at h
            exact UnitAt.updO nt (UnitAt.same (Same.trans sT s57) (hu i v' h))
          · rw [List.getElem?_append_right g] at h
            obtain ⟨z, e⟩ : i - us.length = 0 ∧ v' = v := by
              cases e : i - us.length with
              | zero => rw [e] at h; exact ⟨rfl, (Option.some.inj h).symm⟩
              | succ n => rw [e] at h; simp at h
            obtain rfl : i = j := by omega
            subst e
            exact UnitAt.updO nt u
        · rintro σ G ⟨x6, x7, x8, x9, x11, x12, us, rfl, sG, hus, lus, hu⟩
          exact hN _ _ ⟨x6, x7, x8, x9, x11, x12, us, rfl, sG, hus, lus, hu⟩
      · rintro σ G ⟨x6, x7, x8, x9, x11, x12, us, rfl, sG, hus, hu⟩
        walk_at "rs"
        exact ⟨us, SqL.of hus, fun q H2 s2 n2 t2 => k q us H2 (Same.trans sH8 (Same.trans sJ (Same.trans sG s2))) t2 (hu.same s2)⟩
end
end LK

set_option Elab.async false
set_option linter.all false
set_option maxRecDepth 100000
namespace LK
open PySem PySem.Spec PyProof.Rows L2
local macro_rules | `(tactic| walk_at "rs") => `(tactic| simp only [cxK, cxNK, tCallZ, tAsg, tOp, rI0, rS0, rB0, rI, rU, tUn, rEq, rNe, rIxL, rIxT, rIxS, rSetL, rSlLU, rSlS, rSlU, rCatL, rCatU, rRepL, rIn, tVar, tC, gName, gSub, tIfS, tTest, tB, tAnd, tOr, tNot, tNotV, tAndV, tOrV, tIf, tCall, tCons, tNil, tCB, tDrop, tRet, tRetN, tNext, tLstU, tTupU, tM0, tM1, tPar, tPar3, tAug, ipI, tBM, tBM0, rAppend, rPop, tBreak, sDPut, tDGet, tDGet2, tCont, tChain, tSl, tPart, tNoPart, L2.start, List.map, List.length_cons, List.length_nil, List.replicate, List.cons_append, List.nil_append, List.append_nil, List.getElem?_cons_zero, List.getElem?_cons_succ, List.set_cons_zero, List.set_cons_succ, Option.some.injEq, V.int.injEq, V.ref.injEq, V.str.injEq, V.bl.injEq, exists_eq_left', exists_eq_left, exists_and_left, decide_eq_true_eq, List.cons.injEq, and_true, true_and, scal, Bool.not_eq_true', decide_eq_false_iff_not, Nat.zero_add, Nat.reduceAdd, Nat.reduceSub, reduceCtorEq, false_and, exists_false, false_or, or_false, CPow, CPowW, CMul, CDiv, Int.reduceToNat, ↓reduceIte, wipe, sw, rv3, tListKeys, tDIn, tDNotIn, List.nil_append, List.singleton_append])
local macro_rules | `(tactic| walk_at "st") => `(tactic| (refine seq_op fun N hN => ?_; walk_at "rs"))
local macro_rules | `(tactic| walk_at "sd") => `(tactic| first | assumption | decide | omega)
local macro_rules | `(tactic| walk_at "rd") => `(tactic| repeat (first
  | refine ⟨_, SqL.of (by assumption), ?_⟩ | refine ⟨_, SqL.of upd_same, ?_⟩ | refine ⟨_, .inl (SqL.of (by assumption)), ?_⟩ | refine ⟨_, (by assumption : _ = some (HO.lst _)), ?_⟩ | refine ⟨_, upd_same, ?_⟩
  | refine ⟨_, rfl, ?_⟩ | refine And.intro (by walk_at "sd") ?_))

theorem keys_lift {H : Hp} : ∀ {kvs : List (List L2.Key × V)} {bs : List Addr} {ks : List (List Int)}, IsKeys H kvs bs → kvs.map (·.1) = ks.map (fun k => k.map Sum.inl) → ∃ L : List (Addr × List Int), bs = L.map (·.1) ∧ L.map (·.2) = ks ∧ ∀ q ∈ L, H q.1 = some (.tup (q.2.map V.int))
  | _, _, [], .nil, _ => ⟨[], rfl, rfl, fun q hq => absurd hq (by simp)⟩
  | _, _, _ :: _, .nil, e => by cases e
  | _, _, [], .cons _ _, e => by cases e
  | _, _, k :: ks, .cons (a := p) (b := b) h t, e => by
    injection e with e1 e2
    obtain ⟨L, h1, h2, h3⟩ := keys_lift t e2
    refine ⟨(b, k) :: L, by rw [List.map_cons, ← h1], by rw [List.map_cons, h2], fun q hq => ?_⟩
    rcases List.mem_cons.mp hq with rfl | hq
    · have h : H b = some (.tup (p.1.map kV)) := h
      rw [show p.1 = k.map Sum.inl from e1, kV_inl] at h
      exact h
    · exact h3 q hq
section
variable {P : Program} {w : World} {K : PySem.W.Frag} {mg : Str → Option Value} {base : Heap}
theorem ok__law_normal (T : Txt w K mg) : FnOk P w K mg base CX0 3 T.a__law_normal T.d__law_normal ["things"] (sp_norm K 1) := by
  refine T.F__law_normal.ok sc__law_normal (fun vs H Q E h => ?_) (fun cdv A outer s H vs Q E hr h => ?_)
  · obtain ⟨a, xs, items, rfl, _⟩ := h
    rfl
  · obtain ⟨a, xs, items, rfl, ha, hi, fit, k⟩ := h
    have hr__law_plus : Room 2 _ := hr
    have G__law_plus := ok__law_plus (P := P) (base := base) T
    have hu1 : (A.deeper (envOfC "_law_normal" (defScope s__law_normal) s.heap.objs.size T.a__law_normal cdv)).units + 1 < cLine := Nat.lt_of_le_of_lt (Nat.add_le_add_left (by decide : 1 ≤ 64) _) hr.units
    have lx := hi.len
    refine ⟨_, (pss_cons (ps_set (i := 1) sc__law_normal.nd rfl (Or.inr rfl) pe_dnewT)
      (pss_cons (ps_for PassesOwn.never rfl (pi_lt (pv 0)) (pg_name (i := 2) sc__law_normal.nd rfl (Or.inl rfl)) (pss_cons (ps_set (i := 3) sc__law_normal.nd rfl (Or.inl rfl) (pe_slice sl_tup (pv 2) po_none (po_some (pe_un un_neg pe_int))))
      (pss_one (ps_dput hu1 (pv 1) (pv 3) (pe_call G__law_plus hr__law_plus (by rfl) T.m__law_plus T.F__law_plus.kp T.B__law_plus .nil pass0 (pa_cons (pe_dget2 hu1 (pv 1) (pv 3) (pe_tupU (pa_cons pe_int (pa_cons pe_int pa_nil))) ⟨rfl, rfl, rfl, rfl⟩) (pa_cons (pe_ix ix_tup (pv 2) (pe_un un_neg pe_int) (fun _ _ => rfl)) pa_nil))) rfl))))
      (pss_one (ps_ret (pe_callTy call_tupleN (by rfl) T.n_tuple (by decide +kernel) (pa_cons (pe_lc (own := [("key", 3)]) (g := gName 3) (tt := _) rfl sc__law_normal.nd (pi_list (pe_callB (cr_sortT (d := 1) (B := 2000) (by decide)) (by rfl) T.n_sorted (by decide +kernel) (pa_cons (pe_listKeys rfl (pv 1) (by rfl) T.n_list (by decide +kernel)) pa_nil))) (blkOk_by (own := [("key", 3)]) (N := N__law_normal) (sc := defScope s__law_normal) (by decide +kernel)) (fun _ _ _ _ _ => pg_name (i := 3) sc__law_normal.nd rfl (Or.inl rfl)) (fun _ _ _ _ _ => pts_one (pt_cmpR op_neI (pe_ix (ix_tupK (K := K) rfl) (pe_dget hu1 (pv 1) (pv 3) (fun _ _ => rfl)) pe_int (fun _ _ => rfl)) pe_int (nomark _))) (fun _ _ _ _ _ => (pe_op (op_catUK (K := K) rfl) (pv 3) (pe_tupU (pa_cons (pe_dget hu1 (pv 1) (pv 3) (fun _ _ => rfl)) pa_nil))))) pa_nil)))))), ?_⟩
    refine seq_op fun N hN => ?_
    walk_at "rs"
    refine fun D hD => hN _ _ ?_
    clear hN N
    have s0 : Same H (L2.upd H D (.dT [])) := same_upd hD
    refine cut_seq (fun σ G => ∃ (x2 x3 : Option V) (kvs : List (List L2.Key × V)), σ = [some (.ref a), some (.ref D), x2, x3] ∧ Same H G ∧ G D = some (.dT kvs) ∧ SumD (fun k => k.map (Sum.inl : Int → L2.Key)) 1 K G kvs items) (fun N hN => ?_) ?_
    · refine for_lt (K := K) (a := a) (xs := xs) (fun Q q => ⟨_, rfl, q⟩) ha (fun i σ G => ∃ (x2 x3 : Option V) (kvs : List (List L2.Key × V)), σ = [some (.ref a), some (.ref D), x2, x3] ∧ Same H G ∧ G D = some (.dT kvs) ∧ SumD (fun k => k.map (Sum.inl : Int → L2.Key)) 1 K G kvs (items.take i)) ⟨_, _, [], rfl, s0, upd_same, ⟨?_, ?_, ?_, ?_, ?_⟩⟩ (fun i σ G ⟨_, _, _, _, s1, _⟩ => s1) ?_ ?_
      · intro k k' h1 h2 e
        exact inl_inj e
      · intro it hit; simp at hit
      · simp
      · intro x hx; simp at hx
      · intro it hit; simp at hit
      · rintro i x σ G hx ⟨x2, x3, kvs, rfl, s1, hG, sd⟩
        obtain ⟨p, u, ks, f, ex, ee, h1, h2⟩ := hi.get (n := i) (by rw [← lx]; exact (List.getElem?_eq_some_iff.mp hx).1)
        obtain rfl : x = .ref p := by rw [ex] at hx; exact (Option.some.inj hx).symm
        obtain ⟨lf, wf, ld, bd⟩ := fit.it _ (List.mem_of_getElem? ee)
        dsimp only at lf wf ld bd
        obtain ⟨c, rfl⟩ : ∃ c, ks = [c] := by
          match ks, ld with
          | [c], _ => exact ⟨c, rfl⟩
        show tSeq _ _ _ [some (V.ref a), some (V.ref D), some (V.ref p), x3] G
        refine seq_op fun N1 hN1 => ?_
        walk_at "rs"
        refine ⟨p, _, rfl, Same.seqT s1 h1, (fun z => absurd z.2 (show ¬ HT.sIx 2 2 (some (-1)) = 2 by decide)), fun kq kq0 => hN1 _ _ ?_⟩
        clear hN1 N1
        have s2 : Same G (L2.upd G kq (.tup [.int c])) := same_upd kq0
        have hkq : (L2.upd G kq (.tup [.int c])) kq = some (.tup [.int c]) := upd_same
        have ekc : cutV (List.map V.int [c] ++ [V.ref u]) none (some (-1)) = [.int c] := rfl
        rw [ekc]
        generalize L2.upd G kq (.tup [.int c]) = G1 at s2 hkq ⊢
        walk_at "rs"
        have hl : ∀ it ∈ items.take i, low it.2 := fun it hit => (fit.it it (List.mem_of_mem_take hit)).1
        obtain ⟨la, _, wa⟩ := accF_spec hl [c]
        have wb : wt (accF (items.take i) [c]) ≤ 3900 := Nat.le_trans wa (Nat.le_trans (wtS_take items i [c]) (fit.wt [c]))
        have es : items.take (i + 1) = items.take i ++ [([c], f)] := by
          obtain ⟨hk, e⟩ := List.getElem?_eq_some_iff.mp ee
          rw [← List.take_append_getElem hk, e]
        have kl : kvs.length < sizeLine := by
          have := nodup_len sd.nd (S := items.map fun it => it.1.map (Sum.inl : Int → L2.Key)) fun x hx => by
            obtain ⟨it, hit, e⟩ := sd.key x hx
            exact List.mem_map.mpr ⟨it, List.mem_of_mem_take hit, e.symm⟩
          rw [List.length_map, List.length_map] at this
          exact Nat.lt_of_le_of_lt (Nat.le_trans this fit.len) (by decide)
        have hG1 := s2 _ _ hG
        refine ⟨.inr ⟨kvs, .inl hG1⟩, by decide, fun z0 G2 s3 n3 t3 => ⟨_, DGet.t (k := [Sum.inl c]) (s3 _ _ hG1) (s3 _ _ hkq), _, Same.seqT (Same.trans s1 (Same.trans s2 s3)) h1, _, rfl, ?_⟩⟩
        have s23 := Same.trans s2 s3
        have pz : ∃ v, (valV kvs ([Sum.inl c] : List L2.Key)).getD (V.ref z0) = .ref v ∧ Pr K G2 v (accF (items.take i) [c]).1 (accF (items.take i) [c]).2 := by
          rcases sd.get (k := [c]) rfl with ⟨v, hv, pv⟩ | ⟨hv, ez⟩
          · exact ⟨v, by rw [show valV kvs ([Sum.inl c] : List L2.Key) = some (.ref v) from hv]; rfl, Same.seqT s23 pv⟩
          · exact ⟨_, by rw [show valV kvs ([Sum.inl c] : List L2.Key) = none from hv]; rfl, by rw [ez]; exact .inl (.inl t3)⟩
        obtain ⟨v, ev, pv⟩ := pz
        rw [ev]
        refine ⟨v, u, _, f, rfl, pv, Same.seqT (Same.trans s1 s23) h2, la, lf, by omega, by omega, fun t G3 s4 t0 t1 => ?_⟩
        have hG3 := s4 _ _ (s3 _ _ hG1)
        have s24 := Same.trans s23 s4
        have sp := sd.put (it := ([c], f)) rfl (H' := L2.upd G3 D (.dT (putK kvs [Sum.inl c] (.ref t)))) (t := t) (fun u p q h => seqT_updO (notT_dT hG3) (Same.seqT s24 h)) (seqT_updO (notT_dT hG3) (.inl (.inl t1)))
        refine ⟨_, DPut.t (k := [Sum.inl c]) hG3 (s4 _ _ (s3 _ _ hkq)) kl, _, _, ⟨rfl, rfl⟩, ?_, _, upd_same, ?_⟩
        · intro b o e
          have ne : b ≠ D := fun z => by rw [z, hD] at e; cases e
          rw [upd_ne ne]
          exact s24 _ _ (s1 _ _ e)
        · rw [es]
          exact sp
      · rintro σ G ⟨x2, x3, kvs, rfl, s1, hG, sd⟩
        rw [lx, List.take_length] at sd
        exact hN _ _ ⟨_, _, _, rfl, s1, hG, sd⟩
    · rintro σ G ⟨x2, x3, kvs, rfl, s1, hG, sd⟩
      walk_at "rs"
      have hl : ∀ it ∈ items, low it.2 := fun it hit => (fit.it it hit).1
      obtain ⟨S, sS, mS⟩ := fit.few
      have ksE : ∃ ks : List (List Int), kvs.map (·.1) = ks.map (fun k => k.map Sum.inl) ∧ ∀ k ∈ ks, ∃ it ∈ items, it.1 = k := by
        have : ∀ l : List (List L2.Key), (∀ x ∈ l, ∃ it ∈ items, x = it.1.map (Sum.inl : Int → L2.Key)) → ∃ ks : List (List Int), l = ks.map (fun k => k.map Sum.inl) ∧ ∀ k ∈ ks, ∃ it ∈ items, it.1 = k := by
          intro l
          induction l with
          | nil => intro _; exact ⟨[], rfl, fun k hk => by cases hk⟩
          | cons x l ih =>
            intro h
            obtain ⟨it, hit, e⟩ := h x List.mem_cons_self
            obtain ⟨ks, e2, e3⟩ := ih fun y hy => h y (List.mem_cons_of_mem _ hy)
            refine ⟨it.1 :: ks, by rw [List.map_cons, e, e2], fun k hk => ?_⟩
            rcases List.mem_cons.mp hk with rfl | hk
            · exact ⟨it, hit, rfl⟩
            · exact e3 k hk
        exact this _ sd.key
      obtain ⟨ks, eks, mk1⟩ := ksE
      have ndk : ks.Nodup := by
        have := sd.nd
        rw [eks] at this
        exact (List.pairwise_map.mp this).imp fun h e => h (by rw [e])
      have mk : ∀ c, c ∈ ks ↔ ∃ it ∈ items, it.1 = c := fun c => by
        refine ⟨mk1 c, ?_⟩
        rintro ⟨it, hit, rfl⟩
        obtain ⟨u, h1, _⟩ := sd.val it hit
        have := valV_mem h1
        rw [eks] at this
        obtain ⟨y, hy, e2⟩ := List.mem_map.mp this
        rw [← inl_inj e2]; exact hy
      have lk : ks.length < 64 := by
        have := nodup_len (S := S) ndk fun x hx => by
          obtain ⟨it, hit, e⟩ := (mk x).mp hx
          rw [← e]; exact mS it hit
        omega
      have kb : ∀ k ∈ ks, k.length = 1 ∧ TS.Bd 2000 k := fun k hk => by
        obtain ⟨it, hit, e⟩ := (mk k).mp hk
        obtain ⟨_, _, l1, l2⟩ := fit.it it hit
        rw [← e]; exact ⟨l1, l2⟩
      simp only [iList, tCB, tCons, tNil, tListKeys, tVar, List.getElem?_cons_succ, List.getElem?_cons_zero, Option.some.injEq, exists_eq_left', tLc]
      refine ⟨D, kvs, rfl, .inl hG, fun l bs l0 hbs => ?_⟩
      obtain ⟨L, rfl, eL, hL⟩ := keys_lift hbs eks
      have sl : Same G (L2.upd G l (.lst ((L.map (·.1)).map V.ref))) := same_upd l0
      have hl1 : (L2.upd G l (.lst ((L.map (·.1)).map V.ref))) l = some (.lst ((L.map (·.1)).map V.ref)) := upd_same
      generalize L2.upd G l (.lst ((L.map (·.1)).map V.ref)) = G0 at sl hl1 ⊢
      refine ⟨l, _, rfl, SqL.of hl1, by rw [List.length_map, List.length_map, ← List.length_map (f := (·.2)), eL]; exact lk, fun x hx => ?_, fun yy p pm srt0 p0 => ?_⟩
      · rw [List.map_map] at hx
        obtain ⟨q, hq, rfl⟩ := List.mem_map.mp hx
        have hk2 : q.2 ∈ ks := by rw [← eL]; exact List.mem_map_of_mem hq
        exact ⟨q.2, ⟨q.1, rfl, .inl (.inl (sl _ _ (hL q hq)))⟩, (kb _ hk2).1, (kb _ hk2).2⟩
      rw [List.map_map] at pm
      obtain ⟨ss, rfl, pmL⟩ := perm_lift (f := fun q : Addr × List Int => V.ref q.1) (L := L) pm rfl
      have hs : ∀ q ∈ ss, G0 q.1 = some (.tup (q.2.map V.int)) := fun q hq => sl _ _ (hL q (pmL.mem_iff.mp hq))
      have pm : (ss.map (·.2)).Perm ks := by rw [← eL]; exact pmL.map _
      have pw : ss.Pairwise fun q r => cd q.2 ≤ cd r.2 := by
        have := List.pairwise_map.mp srt0
        exact this.imp_of_mem fun {q r} hq hr h => h q.2 r.2 ⟨q.1, rfl, .inl (.inl (hs q hq))⟩ ⟨r.1, rfl, .inl (.inl (hs r hr))⟩
      clear srt0 pmL hL hbs
      have sG : Same G (L2.upd G0 p (.lst (ss.map fun q => V.ref q.1))) := Same.trans sl (same_upd p0)
      have sg0 : Same G0 (L2.upd G0 p (.lst (ss.map fun q => V.ref q.1))) := same_upd p0
      have hp1 : (L2.upd G0 p (.lst (ss.map fun q => V.ref q.1))) p = some (.lst (ss.map fun q => V.ref q.1)) := upd_same
      generalize L2.upd G0 p (.lst (ss.map fun q => V.ref q.1)) = G1 at *
      have sd1 : SumD (fun k => k.map (Sum.inl : Int → L2.Key)) 1 K G1 kvs items := sd.upd fun u p q h => Same.seqT sG h
      have hG1 := sG _ _ hG
      have lss : ss.length = ks.length := by rw [← pm.length_eq, List.length_map]
      have o : ∀ z : Int, cd [z] = z := fun z => by
        show z * 2000 ^ 0 + 0 = z
        omega
      have srt : (ss.map (·.2)).Pairwise fun a b => cd a < cd b := by
        have nd := pm.nodup_iff.mpr ndk
        have pw2 : (ss.map (·.2)).Pairwise fun a b => cd a ≤ cd b := List.pairwise_map.mpr pw
        refine (pw2.and nd).imp_of_mem fun {x y} hx hy h => ?_
        refine Int.lt_iff_le_and_ne.mpr ⟨h.1, fun e => h.2 ?_⟩
        obtain ⟨l1, b1⟩ := kb x (pm.mem_iff.mp hx)
        obtain ⟨l2, b2⟩ := kb y (pm.mem_iff.mp hy)
        match x, y, l1, l2, e with
        | [u], [v], _, _, e => rw [o, o] at e; rw [e]
      have nm := norm_of (items := items) (L := ss.map (·.2)) hl srt fun it hit => pm.mem_iff.mpr ((mk it.1).mpr ⟨it, hit, rfl⟩)
      refine ⟨p, rfl, ⟨_, SqL.of hp1⟩, fun M hM => lc_filtR (n := (ss.map fun q => V.ref q.1).length) walk_list (fun i H ys => Its K H ys ((((ss.map fun q : Addr × List Int => q.2).take i).filter fun k => decide (accF items k ≠ (0, 1))).map fun k => (k, accF items k))) (fun i => decide (accF items ((ss.map fun q : Addr × List Int => q.2).getD i []) ≠ (0, 1))) hM (by rw [List.length_map]; omega) (fun i H H' ys s h => h.same s) (fun i H ys zs o hp h => h.updO (notT_lst hp)) (fun H => .nil) (fun H2 s2 => s2.seq (SqL.of hp1)) (fun i x H2 H3 hi s2 y => ?_) (gm_name 3) fun H2 ys s2 h2 r2 => ?_⟩
      · obtain ⟨rfl, hx⟩ := y
        rw [List.length_map] at hi
        have eq : ss[i]? = some ss[i] := List.getElem?_eq_getElem hi
        have ei : (ss.map (·.2))[i]? = some ss[i].2 := by rw [List.getElem?_map, eq]; rfl
        obtain rfl : x = .ref ss[i].1 := by
          have hx : (ss.map fun q => V.ref q.1)[i]? = some x := hx
          rw [List.getElem?_map, eq] at hx
          exact (Option.some.inj hx).symm
        have et : (ss.map (·.2)).take (i + 1) = (ss.map (·.2)).take i ++ [ss[i].2] := by
          obtain ⟨hk, e⟩ := List.getElem?_eq_some_iff.mp ei
          rw [← List.take_append_getElem hk, e]
        have eg : (ss.map (·.2)).getD i [] = ss[i].2 := by rw [List.getD_eq_getElem?_getD, ei]; rfl
        rw [eg]
        have hc : ss[i].2 ∈ ks := pm.mem_iff.mp (List.mem_of_getElem? ei)
        have hq1 := hs ss[i] (List.getElem_mem hi)
        generalize ss[i] = q at *
        obtain ⟨qa, c⟩ := q
        dsimp only at *
        obtain ⟨it, hit, ec⟩ := (mk c).mp hc
        obtain ⟨u, hv, pu⟩ := sd1.val it hit
        rw [ec] at hv pu
        have hv : valV kvs (c.map (Sum.inl : Int → L2.Key)) = some (.ref u) := hv
        have hqk : G1 qa = some (.tup ((c.map (Sum.inl : Int → L2.Key)).map kV)) := by rw [kV_inl]; exact sg0 _ _ hq1
        refine ⟨Same.refl _, rfl, fun Qt hq => ?_, fun pf H4 ys h => ?_, fun pt H4 s4 Q2 hq => ?_⟩
        · walk_at "rs"
          have hd := DGet.t (k := c.map (Sum.inl : Int → L2.Key)) (s2 _ _ hG1) (s2 _ _ hqk)
          rw [hv] at hd
          refine ⟨_, hd, u, rfl, _, Same.seqT s2 pu, _, rfl, _, rfl, ?_⟩
          have e : (!decide ((accF items c).1 = 0)) = decide (accF items c ≠ (0, 1)) := by
            by_cases z : accF items c = (0, 1)
            · rw [z]; rfl
            · have n1 : (accF items c).1 ≠ 0 := fun z1 => z ((low_null (accF_spec hl c).1).mp z1)
              rw [decide_eq_true (p := accF items c ≠ (0, 1)) z, decide_eq_false n1]
              rfl
          rw [e]
          exact hq _ (Same.refl _)
        · rw [et, List.filter_append, List.map_append]
          simp only [List.map_nil, List.filter_cons, pf, List.filter_nil]
          simpa using h
        · walk_at "rs"
          have s24 := Same.trans s2 s4
          have hd := DGet.t (k := c.map (Sum.inl : Int → L2.Key)) (s24 _ _ hG1) (s24 _ _ hqk)
          rw [hv] at hd
          refine ⟨_, hd, by decide, fun q5 H5 s5 n5 t5 => ⟨_, .inl (.inl (s5 _ _ (s24 _ _ (sg0 _ _ hq1)))), _, .inl (.inl t5), ?_, fun q6 H6 s6 hq6 => hq _ H6 (Same.trans s5 s6) fun ys h => ?_⟩⟩
          · rw [List.length_map, (kb c hc).1]
            exact (show 1 + 1 ≤ sizeLine by decide)
          · rw [et, List.filter_append, List.map_append]
            refine h.app ?_
            simp only [List.map_cons, List.map_nil, List.filter_cons, pt, List.filter_nil, if_true]
            exact .cons hq6 (Same.seqT (Same.trans s24 (Same.trans s5 s6)) pu) .nil
      · rw [List.length_map, show ss.length = (ss.map (·.2)).length from (List.length_map ..).symm, List.take_length] at r2
        refine ⟨M, rfl, ys, SqL.of h2, fun t H3 s3 t0 t1 => k t ys _ H3 (Same.trans s1 (Same.trans sG (Same.trans s2 s3))) (.inl (.inl t1)) (r2.same s3) nm ?_⟩
        rw [List.length_map]
        exact Nat.lt_of_le_of_lt (List.length_filter_le _ _) (by rw [List.length_map]; omega)
end
end LK

set_option Elab.async false
set_option linter.all false
set_option maxRecDepth 100000
namespace LK
open PySem PySem.Spec PyProof.Rows L2
local macro_rules | `(tactic| walk_at "rs") => `(tactic| simp only [cxK, cxNK, tCallZ, tAsg, tOp, rI0, rS0, rB0, rI, rU, tUn, rEq, rNe, rIxL, rIxT, rIxS, rSetL, rSlLU, rSlS, rSlU, rCatL, rCatU, rRepL, rIn, tVar, tC, gName, gSub, tIfS, tTest, tB, tAnd, tOr, tNot, tNotV, tAndV, tOrV, tIf, tCall, tCons, tNil, tCB, tDrop, tRet, tRetN, tNext, tLstU, tTupU, tM0, tM1, tPar, tPar3, tAug, ipI, tBM, tBM0, rAppend, rPop, tBreak, sDPut, tDGet, tDGet2, tCont, tChain, tSl, tPart, tNoPart, L2.start, List.map, List.length_cons, List.length_nil, List.replicate, List.cons_append, List.nil_append, List.append_nil, List.getElem?_cons_zero, List.getElem?_cons_succ, List.set_cons_zero, List.set_cons_succ, Option.some.injEq, V.int.injEq, V.ref.injEq, V.str.injEq, V.bl.injEq, exists_eq_left', exists_eq_left, exists_and_left, decide_eq_true_eq, List.cons.injEq, and_true, true_and, scal, Bool.not_eq_true', decide_eq_false_iff_not, Nat.zero_add, Nat.reduceAdd, Nat.reduceSub, reduceCtorEq, false_and, exists_false, false_or, or_false, CPow, CPowW, CMul, CDiv, Int.reduceToNat, ↓reduceIte, wipe, sw, rv3, tListKeys, tDIn, tDNotIn, List.nil_append, List.singleton_append])
local macro_rules | `(tactic| walk_at "st") => `(tactic| (refine seq_op fun N hN => ?_; walk_at "rs"))
local macro_rules | `(tactic| walk_at "sd") => `(tactic| first | assumption | decide | omega)
local macro_rules | `(tactic| walk_at "rd") => `(tactic| repeat (first
  | refine ⟨_, SqL.of (by assumption), ?_⟩ | refine ⟨_, SqL.of upd_same, ?_⟩ | refine ⟨_, .inl (SqL.of (by assumption)), ?_⟩ | refine ⟨_, (by assumption : _ = some (HO.lst _)), ?_⟩ | refine ⟨_, upd_same, ?_⟩
  | refine ⟨_, rfl, ?_⟩ | refine And.intro (by walk_at "sd") ?_))

/-! ### dicts of fractions -/
theorem valV_of_nd {κ : Type} [DecidableEq κ] : ∀ {kvs : List (κ × V)} {p : κ × V}, (kvs.map (·.1)).Nodup → p ∈ kvs → valV kvs p.1 = some p.2
  | [], _, _, h => by cases h
  | q :: r, p, nd, h => by
    rw [List.map_cons, List.nodup_cons] at nd
    rcases List.mem_cons.mp h with rfl | h
    · exact valV_pos rfl
    · rw [valV_neg fun e => nd.1 (e ▸ List.mem_map_of_mem h)]
      exact valV_of_nd nd.2 h
theorem valV_none {κ : Type} [DecidableEq κ] : ∀ {kvs : List (κ × V)} {k : κ}, k ∉ kvs.map (·.1) → valV kvs k = none
  | [], _, _ => rfl
  | q :: r, k, h => by
    rw [List.map_cons, List.mem_cons, not_or] at h
    rw [valV_neg (Ne.symm h.1)]
    exact valV_none h.2
/-- the sums so far -/
structure Gvn (K : PySem.W.Frag) (H : Hp) (kvs : List (L2.Key × V)) (R : Int → Rat) : Prop where
  nd : (kvs.map (·.1)).Nodup
  val : ∀ p ∈ kvs, ∃ (c : Int) (u : Addr), p = (Sum.inl c, V.ref u) ∧ Fv K H u (R c)
  out : ∀ c, (Sum.inl c : L2.Key) ∉ kvs.map (·.1) → R c = 0
theorem Gvn.upd {K : PySem.W.Frag} {H H' : Hp} {kvs : List (L2.Key × V)} {R : Int → Rat} (g : Gvn K H kvs R) (carry : ∀ u p q, Pr K H u p q → Pr K H' u p q) : Gvn K H' kvs R := ⟨g.nd, fun p hp => let ⟨c, u, e, h⟩ := g.val p hp; ⟨c, u, e, carry _ _ _ h⟩, g.out⟩
theorem Gvn.get {K : PySem.W.Frag} {H : Hp} {kvs : List (L2.Key × V)} {R : Int → Rat} (g : Gvn K H kvs R) (c : Int) : (∃ u, valV kvs (Sum.inl c) = some (.ref u) ∧ Fv K H u (R c)) ∨ (valV kvs (Sum.inl c) = none ∧ R c = 0) := by
  by_cases h : (Sum.inl c : L2.Key) ∈ kvs.map (·.1)
  · obtain ⟨p, hp, e⟩ := List.mem_map.mp h
    obtain ⟨c2, u, rfl, hu⟩ := g.val p hp
    injection e with e
    obtain rfl : c2 = c := e
    exact .inl ⟨u, valV_of_nd g.nd hp, hu⟩
  · exact .inr ⟨valV_none h, g.out c h⟩
theorem nodup_put {κ : Type} [DecidableEq κ] {kvs : List (κ × V)} {k : κ} {v : V} (nd : (kvs.map (·.1)).Nodup) : ((putK kvs k v).map (·.1)).Nodup := by
  rw [keys_put]
  by_cases c : (valV kvs k).isSome = true
  · rw [if_pos c]; exact nd
  · rw [if_neg c]
    refine List.nodup_append.mpr ⟨nd, by simp, fun x hx y hy e => ?_⟩
    obtain rfl := List.mem_singleton.mp hy
    subst e
    obtain ⟨p, hp, e2⟩ := List.mem_map.mp hx
    rw [← e2, valV_of_nd nd hp] at c
    exact c rfl
theorem mem_put {κ : Type} [DecidableEq κ] {kvs : List (κ × V)} {k : κ} {v : V} {p : κ × V} (nd : (kvs.map (·.1)).Nodup) (h : p ∈ putK kvs k v) : (p = (k, v)) ∨ (p ∈ kvs ∧ p.1 ≠ k) := by
  have e := valV_of_nd (nodup_put (k := k) (v := v) nd) h
  rw [valV_put] at e
  by_cases c : p.1 = k
  · rw [if_pos c] at e
    exact .inl (Prod.ext c (Option.some.inj e).symm)
  · rw [if_neg c] at e
    refine .inr ⟨?_, c⟩
    have : p.1 ∈ kvs.map (·.1) := valV_mem e
    obtain ⟨q, hq, e2⟩ := List.mem_map.mp this
    have e3 := valV_of_nd nd hq
    rw [e2, e] at e3
    rw [show p = q from Prod.ext e2.symm (Option.some.inj e3)]
    exact hq
theorem key_put {κ : Type} [DecidableEq κ] {kvs : List (κ × V)} {k x : κ} {v : V} : x ∈ (putK kvs k v).map (·.1) ↔ x = k ∨ x ∈ kvs.map (·.1) := by
  rw [keys_put]
  by_cases c : (valV kvs k).isSome = true
  · rw [if_pos c]
    refine ⟨.inr, fun h => h.elim (fun e => ?_) id⟩
    subst e
    obtain ⟨v, hv⟩ := Option.isSome_iff_exists.mp c
    exact valV_mem hv
  · rw [if_neg c, List.mem_append, List.mem_singleton]
    exact or_comm
theorem Gvn.put {K : PySem.W.Frag} {H H' : Hp} {kvs : List (L2.Key × V)} {R : Int → Rat} (g : Gvn K H kvs R) {t : Int} {u : Addr} {z : Rat} (carry : ∀ u p q, Pr K H u p q → Pr K H' u p q) (hu : Fv K H' u (R t + z)) : Gvn K H' (putK kvs (Sum.inl t) (.ref u)) (fun c => R c + (if t = c then z else 0)) := by
  refine ⟨nodup_put g.nd, fun p hp => ?_, fun c hc => ?_⟩
  · rcases mem_put g.nd hp with rfl | ⟨hp, ne⟩
    · exact ⟨t, u, rfl, by rw [if_pos rfl]; exact hu⟩
    · obtain ⟨c, v, rfl, h⟩ := g.val p hp
      refine ⟨c, v, rfl, ?_⟩
      rw [if_neg fun e => ne (by rw [e]), Rat.add_zero]
      exact carry _ _ _ h
  · rw [key_put, not_or] at hc
    rw [if_neg fun e => hc.1 (by rw [e]), Rat.add_zero]
    exact g.out c hc.2
/-- a dict with just the numbers that are no 0 -/
structure Gft (K : PySem.W.Frag) (H : Hp) (kvs : List (L2.Key × V)) (R : Int → Rat) : Prop where
  g : Gvn K H kvs R
  nz : ∀ c, (Sum.inl c : L2.Key) ∈ kvs.map (·.1) → R c ≠ 0
theorem Gft.upd {K : PySem.W.Frag} {H H' : Hp} {kvs : List (L2.Key × V)} {R : Int → Rat} (g : Gft K H kvs R) (carry : ∀ u p q, Pr K H u p q → Pr K H' u p q) : Gft K H' kvs R := ⟨g.g.upd carry, g.nz⟩
theorem Gft.keys {K : PySem.W.Frag} {H H' : Hp} {kvs : List (L2.Key × V)} {R : Int → Rat} (g : Gft K H kvs R) (c : Int) : (Sum.inl c : L2.Key) ∈ kvs.map (·.1) ↔ R c ≠ 0 := ⟨g.nz c, fun h => Classical.byContradiction fun n => h (g.g.out c n)⟩
theorem shp {z w : Int} : SeqAt.shaped (.tuple [.int z, .int w]) = true := rfl
theorem Gft.sameD {K : PySem.W.Frag} {H : Hp} {ks ls : List (L2.Key × V)} {R : Int → Rat} (g : Gft K H ks R) (h : Gft K H ls R) : SameD K H ks ls := by
  have sub : ∀ {ks ls : List (L2.Key × V)}, Gft K H ks R → Gft K H ls R → ∀ x ∈ ks.map (·.1), x ∈ ls.map (·.1) := fun {ks ls} g h x hx => by
    obtain ⟨p, hp, rfl⟩ := List.mem_map.mp hx
    obtain ⟨c, u, rfl, _⟩ := g.g.val p hp
    exact (h.keys (H' := H) c).mpr (g.nz c hx)
  refine ⟨?_, fun p hp => ?_⟩
  · have a := nodup_len g.g.nd (sub g h)
    have b := nodup_len h.g.nd (sub h g)
    rw [List.length_map, List.length_map] at a b
    omega
  · obtain ⟨c, u, rfl, hu⟩ := g.g.val p hp
    have hx := sub g h _ (List.mem_map_of_mem hp)
    obtain ⟨q, hq, e⟩ := List.mem_map.mp hx
    obtain ⟨c2, u2, rfl, hu2⟩ := h.g.val q hq
    injection e with e
    obtain rfl : c2 = c := e
    exact ⟨.ref u2, .tuple [.int (fq (R c2)).1, .int (fq (R c2)).2], valV_of_nd h.g.nd hq, dp_pair hu, dp_pair hu2, shp⟩
section
variable {P : Program} {w : World} {K : PySem.W.Frag} {mg : Str → Option Value} {base : Heap}
theorem paired_of {F : Addr → (L2.Key × V) → Prop} : ∀ {L : List (Addr × (L2.Key × V))}, (∀ q ∈ L, F q.1 q.2) → Paired F (L.map (·.1)) (L.map (·.2))
  | [], _ => .nil
  | q :: L, h => .cons (h q List.mem_cons_self) (paired_of fun r hr => h r (List.mem_cons_of_mem _ hr))
theorem gft_nil {H : Hp} {R : Int → Rat} (h : ∀ c, R c = 0) : Gft K H [] R := ⟨⟨List.nodup_nil, fun p hp => absurd hp (by simp), fun c _ => h c⟩, fun c hc => absurd hc (by simp)⟩
end
end LK

set_option Elab.async false
set_option linter.all false
set_option maxRecDepth 100000
namespace LK
open PySem PySem.Spec PyProof.Rows L2
local macro_rules | `(tactic| walk_at "rs") => `(tactic| simp only [cxK, cxNK, tCallZ, tAsg, tOp, rI0, rS0, rB0, rI, rU, tUn, rEq, rNe, rIxL, rIxT, rIxS, rSetL, rSlLU, rSlS, rSlU, rCatL, rCatU, rRepL, rIn, tVar, tC, gName, gSub, tIfS, tTest, tB, tAnd, tOr, tNot, tNotV, tAndV, tOrV, tIf, tCall, tCons, tNil, tCB, tDrop, tRet, tRetN, tNext, tLstU, tTupU, tM0, tM1, tPar, tPar3, tAug, ipI, tBM, tBM0, rAppend, rPop, tBreak, sDPut, tDGet, tDGet2, tCont, tChain, tSl, tPart, tNoPart, L2.start, List.map, List.length_cons, List.length_nil, List.replicate, List.cons_append, List.nil_append, List.append_nil, List.getElem?_cons_zero, List.getElem?_cons_succ, List.set_cons_zero, List.set_cons_succ, Option.some.injEq, V.int.injEq, V.ref.injEq, V.str.injEq, V.bl.injEq, exists_eq_left', exists_eq_left, exists_and_left, decide_eq_true_eq, List.cons.injEq, and_true, true_and, scal, Bool.not_eq_true', decide_eq_false_iff_not, Nat.zero_add, Nat.reduceAdd, Nat.reduceSub, reduceCtorEq, false_and, exists_false, false_or, or_false, CPow, CPowW, CMul, CDiv, Int.reduceToNat, ↓reduceIte, wipe, sw, rv3, tListKeys, tDIn, tDNotIn, List.nil_append, List.singleton_append])
local macro_rules | `(tactic| walk_at "st") => `(tactic| (refine seq_op fun N hN => ?_; walk_at "rs"))
local macro_rules | `(tactic| walk_at "sd") => `(tactic| first | assumption | decide | omega)
local macro_rules | `(tactic| walk_at "rd") => `(tactic| repeat (first
  | refine ⟨_, SqL.of (by assumption), ?_⟩ | refine ⟨_, SqL.of upd_same, ?_⟩ | refine ⟨_, .inl (SqL.of (by assumption)), ?_⟩ | refine ⟨_, (by assumption : _ = some (HO.lst _)), ?_⟩ | refine ⟨_, upd_same, ?_⟩
  | refine ⟨_, rfl, ?_⟩ | refine And.intro (by walk_at "sd") ?_))

/-! ### the law's own gifts -/
def hgt (R : Int → Rat) (sh : Rat) (its : List It) : Rat := its.foldl (fun h x => h + R (x.1.headD 0) * rt x.2) sh
theorem hgt_snoc (R : Int → Rat) (sh : Rat) (its : List It) (x : It) : hgt R sh (its ++ [x]) = hgt R sh its + R (x.1.headD 0) * rt x.2 := by
  unfold hgt
  rw [List.foldl_append]
  rfl
/-- a unit: terms, shift, givings -/
abbrev GU := List It × Rat × List It
def gOne (R : Int → Rat) (u : GU) (c : Int) : Rat := if 0 < hgt R u.2.1 u.1 then hgt R u.2.1 u.1 * accR u.2.2 [c] else 0
def gTot (R : Int → Rat) (us : List GU) (c : Int) : Rat := us.foldl (fun s u => s + gOne R u c) 0
theorem gTot_snoc (R : Int → Rat) (us : List GU) (u : GU) (c : Int) : gTot R (us ++ [u]) c = gTot R us c + gOne R u c := by
  unfold gTot
  rw [List.foldl_append]
  rfl
structure GuOk (R : Int → Rat) (u : GU) : Prop where
  t : ∀ x ∈ u.1, ∃ (c : Int) (r : Rat), x = ([c], fq r) ∧ bits r ≤ 1000 ∧ bits (R c) ≤ 1000
  hb : ∀ j, bits (hgt R u.2.1 (u.1.take j)) ≤ 1000
  g : ∀ x ∈ u.2.2, ∃ (c : Int) (r : Rat), x = ([c], fq r) ∧ bits r ≤ 1000
  lg : u.2.2.length ≤ 64
structure GsOk (R : Int → Rat) (us : List GU) : Prop where
  u : ∀ u ∈ us, GuOk R u
  len : us.length ≤ 100
  tot : ∀ i u, us[i]? = some u → 0 < hgt R u.2.1 u.1 → ∀ j c, bits (gTot R (us.take i) c + hgt R u.2.1 u.1 * accR (u.2.2.take j) [c]) ≤ 3990
/-- such units at the heap -/
def GuAt (K : PySem.W.Frag) (H : Hp) (v : V) (u : GU) : Prop := ∃ (p a s g : Addr) (ys gs : List V), v = .ref p ∧ SqT K H p [.ref a, .ref s, .ref g] ∧ SqT K H a ys ∧ Its K H ys u.1 ∧ Fv K H s u.2.1 ∧ SqT K H g gs ∧ Its K H gs u.2.2
inductive GUs (K : PySem.W.Frag) (H : Hp) : List V → List GU → Prop
  | nil : GUs K H [] []
  | cons {v : V} {u : GU} {vs : List V} {us : List GU} : GuAt K H v u → GUs K H vs us → GUs K H (v :: vs) (u :: us)
theorem GUs.len {K : PySem.W.Frag} {H : Hp} : ∀ {vs : List V} {us : List GU}, GUs K H vs us → vs.length = us.length
  | _, _, .nil => rfl
  | _, _, .cons _ q => congrArg Nat.succ q.len
theorem GUs.get {K : PySem.W.Frag} {H : Hp} : ∀ {vs : List V} {us : List GU} {i : Nat} {v : V}, GUs K H vs us → vs[i]? = some v → ∃ u, us[i]? = some u ∧ GuAt K H v u
  | _, _, _, _, .nil, h => by simp at h
  | _, _, 0, _, .cons h _, e => by
    obtain rfl := Option.some.inj e
    exact ⟨_, rfl, h⟩
  | _, _, i + 1, _, .cons _ q, e => q.get (i := i) e
section
variable {P : Program} {w : World} {K : PySem.W.Frag} {mg : Str → Option Value} {base : Heap}
theorem for_tp {K : PySem.W.Frag} {a : Addr} {xs : List V} {g : TG} {tb : TS} {D : Ends} {σ : L2.St} {H : Hp} {tl : TE} (hv : ∀ Q : VK, Q (.ref a) H → tl σ H Q) {H0 : Hp} (h : SqT K H0 a xs) (Pv : Nat → L2.St → Hp → Prop) (h0 : Pv 0 σ H) (hl : ∀ i σ H', Pv i σ H' → Same H0 H')
    (hs : ∀ i x σ H, xs[i]? = some x → Pv i σ H → g x σ H fun σ2 H2 => tb { D with nx := Pv (i + 1), ct := Pv (i + 1), bk := D.nx } σ2 H2) (hd : ∀ σ H, Pv xs.length σ H → D.nx σ H) : tFor (iTup K tl) g tb D σ H :=
  hv _ ⟨a, rfl, ⟨xs, Same.seqT (hl _ _ _ h0) h⟩, for_tup (K := K) (a := a) (xs := xs) Pv h0 (fun i σ H2 _ p => Same.seqT (hl i σ H2 p) h) hs hd⟩
theorem notT_frz {H : Hp} {p : Addr} {od : Obj} {ys : List (L2.Key × V)} (h : H p = some (.frz od (.dK ys))) : ∀ zs, ¬ Rd H p (.tup zs) := fun zs r => by
  rcases r with r | ⟨u, r⟩ <;> (rw [h] at r; cases r)
theorem putK_new {κ : Type} [DecidableEq κ] {kvs : List (κ × V)} {k : κ} {v : V} (h : k ∉ kvs.map (·.1)) : putK kvs k v = kvs ++ [(k, v)] := by
  unfold putK
  rw [valV_any, valV_none h]
  rfl
theorem mergeK_new : ∀ {more kvs : List (L2.Key × V)}, ((kvs ++ more).map (·.1)).Nodup → mergeK kvs more = kvs ++ more
  | [], kvs, _ => by rw [List.append_nil]; rfl
  | p :: more, kvs, h => by
    have e : p.1 ∉ kvs.map (·.1) := fun m => by
      rw [List.map_append] at h
      exact (List.nodup_append.mp h).2.2 _ m _ (by rw [List.map_cons]; exact List.mem_cons_self) rfl
    show mergeK (putK kvs p.1 p.2) more = _
    rw [putK_new e, mergeK_new (by rw [List.append_assoc]; exact h), List.append_assoc]
    rfl
def nzK (R : Int → Rat) (p : L2.Key × V) : Bool := match p.1 with
  | .inl c => decide (R c ≠ 0)
  | .inr _ => false
theorem Gvn.gft {K : PySem.W.Frag} {H H' : Hp} {kvs : List (L2.Key × V)} {R : Int → Rat} (g : Gvn K H kvs R) (carry : ∀ u p q, Pr K H u p q → Pr K H' u p q) : Gft K H' (kvs.filter (nzK R)) R := by
  refine ⟨⟨(List.Sublist.map _ List.filter_sublist).nodup g.nd, fun p hp => ?_, fun c hc => ?_⟩, fun c hc => ?_⟩
  · obtain ⟨c, u, e, h⟩ := g.val p (List.mem_filter.mp hp).1
    exact ⟨c, u, e, carry _ _ _ h⟩
  · refine Classical.byContradiction fun n => ?_
    have m : (Sum.inl c : L2.Key) ∈ kvs.map (·.1) := Classical.byContradiction fun m => n (g.out c m)
    obtain ⟨p, hp, e⟩ := List.mem_map.mp m
    refine hc (List.mem_map.mpr ⟨p, List.mem_filter.mpr ⟨hp, ?_⟩, e⟩)
    unfold nzK
    rw [e]
    exact decide_eq_true n
  · obtain ⟨p, hp, e⟩ := List.mem_map.mp hc
    have := (List.mem_filter.mp hp).2
    unfold nzK at this
    rw [e] at this
    exact of_decide_eq_true this
def sp_gifts (K : PySem.W.Frag) : Sp := fun vs H Q _ => ∃ (t cc : Addr) (vu : List V) (us : List GU) (cvs : List (L2.Key × V)) (R : Int → Rat), vs = [.ref t, .ref cc] ∧ SqT K H t vu ∧ GUs K H vu us ∧ GsOk R us ∧ H cc = some (.dK cvs) ∧ Gvn K H cvs R ∧
  ∀ (D : Addr) (kvs : List (L2.Key × V)) H', Same H H' → H D = none → H' D = some (.dK kvs) → Gft K H' kvs (gTot R us) → Q (.ref D) H'
theorem ok__law_gifts (T : Txt w K mg) : FnOk P w K mg base CX0 3 T.a__law_gifts T.d__law_gifts ["units", "content"] (sp_gifts K) := by
  refine T.F__law_gifts.ok sc__law_gifts (fun vs H Q E h => ?_) (fun cdv A outer s H vs Q E hr h => ?_)
  · obtain ⟨t, cc, vu, us, cvs, R, rfl, _⟩ := h
    rfl
  · obtain ⟨t, cc, vu, us, cvs, R, rfl, ht, hu, ok, hcc, gc, k⟩ := h
    have l100 := ok.len
    have hr__law_plus : Room 2 _ := hr
    have G__law_plus := ok__law_plusR (P := P) (base := base) T
    have hr__law_times : Room 2 _ := hr
    have G__law_times := ok__law_timesR (P := P) (base := base) T
    have hu1 : (A.deeper (envOfC "_law_gifts" (defScope s__law_gifts) s.heap.objs.size T.a__law_gifts cdv)).units + 1 < cLine := Nat.lt_of_le_of_lt (Nat.add_le_add_left (by decide : 1 ≤ 64) _) hr.units
    have lx := hu.len
    refine ⟨_, (pss_cons (ps_set (i := 2) sc__law_gifts.nd rfl (Or.inr rfl) pe_dnewK)
      (pss_cons (ps_for PassesOwn.never rfl (pi_tup (pv 0)) (pg_name (i := 3) sc__law_gifts.nd rfl (Or.inl rfl)) (pss_cons (ps_set (i := 4) sc__law_gifts.nd rfl (Or.inl rfl) (pe_ix ix_tup (pv 3) pe_int (fun _ _ => rfl)))
      (pss_cons (ps_for PassesOwn.never rfl (pi_tup (pe_ix ix_tup (pv 3) pe_int (fun _ _ => rfl))) (pg_name (i := 5) sc__law_gifts.nd rfl (Or.inl rfl)) (pss_one (ps_if (pt_cmp (pc_din hu1 (pe_ix ix_tup (pv 5) pe_int (fun _ _ => rfl)) (pv 1))) (pss_one (ps_set (i := 4) sc__law_gifts.nd rfl (Or.inl rfl) (pe_call G__law_plus hr__law_plus (by rfl) T.m__law_plus T.F__law_plus.kp T.B__law_plus .nil pass0 (pa_cons (pv 4) (pa_cons (pe_call G__law_times hr__law_times (by rfl) T.m__law_times T.F__law_times.kp T.B__law_times .nil pass0 (pa_cons (pe_dget hu1 (pv 1) (pe_ix ix_tup (pv 5) pe_int (fun _ _ => rfl)) (fun _ _ => rfl)) (pa_cons (pe_ix ix_tup (pv 5) pe_int (fun _ _ => rfl)) pa_nil))) pa_nil))))) pss_nil)))
      (pss_one (ps_if (pt_cmpR op_gt (pe_ix ix_tup (pv 4) pe_int (fun _ _ => rfl)) pe_int (nomark _)) (pss_one (ps_for PassesOwn.never rfl (pi_tup (pe_ix ix_tup (pv 3) pe_int (fun _ _ => rfl))) (pg_name (i := 6) sc__law_gifts.nd rfl (Or.inl rfl)) (pss_one (ps_dput hu1 (pv 2) (pe_ix ix_tup (pv 6) pe_int (fun _ _ => rfl)) (pe_call G__law_plus hr__law_plus (by rfl) T.m__law_plus T.F__law_plus.kp T.B__law_plus .nil pass0 (pa_cons (pe_dget2 hu1 (pv 2) (pe_ix ix_tup (pv 6) pe_int (fun _ _ => rfl)) (pe_tupU (pa_cons pe_int (pa_cons pe_int pa_nil))) ⟨rfl, rfl, rfl, rfl⟩) (pa_cons (pe_call G__law_times hr__law_times (by rfl) T.m__law_times T.F__law_times.kp T.B__law_times .nil pass0 (pa_cons (pv 4) (pa_cons (pe_ix ix_tup (pv 6) pe_int (fun _ _ => rfl)) pa_nil))) pa_nil))) rfl)))) pss_nil)))))
      (pss_one (ps_ret (pe_callTy (call_dictP rfl) (by rfl) T.n_dict (by decide +kernel) (pa_cons (pe_lock (pe_lc (own := [("key", 7)]) (g := gName 7) (tt := _) rfl sc__law_gifts.nd (pi_keys (pv 2)) (blkOk_by (own := [("key", 7)]) (N := N__law_gifts) (sc := defScope s__law_gifts) (by decide +kernel)) (fun _ _ _ _ _ => pg_name (i := 7) sc__law_gifts.nd rfl (Or.inl rfl)) (fun _ _ _ _ _ => pts_one (pt_cmpR op_neI (pe_ix (ix_tupK (K := K) rfl) (pe_dget hu1 (pv 2) (pv 7) (fun _ _ => rfl)) pe_int (fun _ _ => rfl)) pe_int (nomark _))) (fun _ _ _ _ _ => (pe_tupU (pa_cons (pv 7) (pa_cons (pe_dget hu1 (pv 2) (pv 7) (fun _ _ => rfl)) pa_nil)))))) pa_nil)))))), ?_⟩
    refine seq_op fun N hN => ?_
    walk_at "rs"
    refine fun D hD => hN _ _ ?_
    clear hN N
    have s0 : Same H (L2.upd H D (.dK [])) := same_upd hD
    have nD : cc ≠ D := fun e => by rw [← e, hcc] at hD; cases hD
    refine cut_seq (fun σ G => ∃ (x3 x4 x5 x6 : Option V) (kvs : List (L2.Key × V)), σ = [some (.ref t), some (.ref cc), some (.ref D), x3, x4, x5, x6, none] ∧ Same H G ∧ G D = some (.dK kvs) ∧ Gvn K G kvs (gTot R us) ∧ kvs.length ≤ 6400) (fun N hN => ?_) ?_
    · have h0 : ∃ (x3 x4 x5 x6 : Option V) (kvs : List (L2.Key × V)), [some (V.ref t), some (V.ref cc), some (V.ref D), none, none, none, none, none] = [some (.ref t), some (.ref cc), some (.ref D), x3, x4, x5, x6, none] ∧ Same H (L2.upd H D (.dK [])) ∧ (L2.upd H D (.dK [])) D = some (.dK kvs) ∧ Gvn K (L2.upd H D (.dK [])) kvs (gTot R (us.take 0)) ∧ kvs.length ≤ 64 * 0 := ⟨_, _, _, _, [], rfl, s0, upd_same, ⟨List.nodup_nil, fun p hp => absurd hp (by simp), fun c _ => rfl⟩, Nat.le_refl 0⟩
      refine for_tp (K := K) (a := t) (xs := vu) (fun Q q => ⟨_, rfl, q⟩) ht (fun i σ G => ∃ (x3 x4 x5 x6 : Option V) (kvs : List (L2.Key × V)), σ = [some (.ref t), some (.ref cc), some (.ref D), x3, x4, x5, x6, none] ∧ Same H G ∧ G D = some (.dK kvs) ∧ Gvn K G kvs (gTot R (us.take i)) ∧ kvs.length ≤ 64 * i) h0 (fun i σ G ⟨_, _, _, _, _, _, s, _⟩ => s) ?_ ?_
      · rintro i x σ G hx ⟨x3, x4, x5, x6, kvs, rfl, sG, hG, gv, lkv⟩
        obtain ⟨u, eu, p, a, sh, g, ys, gys, rfl, h1, h2, h3, h4, h5, h6⟩ := hu.get hx
        show tSeq _ _ _ [some (V.ref t), some (V.ref cc), some (V.ref D), some (V.ref p), x4, x5, x6, none] G
        refine seq_op fun N1 hN1 => ?_
        walk_at "rs"
        have ou := ok.u u (List.mem_of_getElem? eu)
        refine ⟨_, Same.seqT sG h1, _, rfl, hN1 _ _ ?_⟩
        clear hN1 N1
        have es : us.take (i + 1) = us.take i ++ [u] := by
          obtain ⟨hk, e⟩ := List.getElem?_eq_some_iff.mp eu
          rw [← List.take_append_getElem hk, e]
        have il : i < us.length := (List.getElem?_eq_some_iff.mp eu).1
        -- the height
        refine cut_seq (fun σ G1 => ∃ (x5 : Option V) (hh : Addr), σ = [some (.ref t), some (.ref cc), some (.ref D), some (.ref p), some (.ref hh), x5, x6, none] ∧ Same G G1 ∧ Fv K G1 hh (hgt R u.2.1 u.1)) (fun N1 hN1 => ?_) ?_
        · have ly := h3.len
          refine for_tp (K := K) (a := a) (xs := ys) (fun Q q => ?_) h2 (fun j σ G1 => ∃ (x5 : Option V) (hh : Addr), σ = [some (.ref t), some (.ref cc), some (.ref D), some (.ref p), some (.ref hh), x5, x6, none] ∧ Same G G1 ∧ Fv K G1 hh (hgt R u.2.1 (u.1.take j))) ⟨x5, sh, rfl, Same.refl _, Same.seqT sG h4⟩ (fun j σ G1 ⟨_, _, _, s, _⟩ => Same.trans sG s) ?_ ?_
          · walk_at "rs"
            exact ⟨_, Same.seqT sG h1, _, rfl, q⟩
          · rintro j x σ G1 hxj ⟨x5, hh, rfl, sG1, ph⟩
            obtain ⟨q, v, ks, f, ex, ee, g1, g2⟩ := h3.get (n := j) (by rw [← ly]; exact (List.getElem?_eq_some_iff.mp hxj).1)
            obtain rfl : x = .ref q := by rw [ex] at hxj; exact (Option.some.inj hxj).symm
            obtain ⟨c, z, ek, bz, bc⟩ := ou.t _ (List.mem_of_getElem? ee)
            obtain ⟨rfl, rfl⟩ := Prod.mk.inj ek
            have et : u.1.take (j + 1) = u.1.take j ++ [([c], fq z)] := by
              obtain ⟨hk, e⟩ := List.getElem?_eq_some_iff.mp ee
              rw [← List.take_append_getElem hk, e]
            show tIfS _ _ _ _ [some (V.ref t), some (V.ref cc), some (V.ref D), some (V.ref p), some (V.ref hh), some (V.ref q), x6, none] G1
            walk_at "rs"
            have sG2 := Same.trans sG sG1
            have hc1 := sG2 _ _ hcc
            have hbd := ou.hb j
            refine ⟨_, Same.seqT sG2 g1, _, rfl, _, DGet.k (k := Sum.inl c) hc1, ?_⟩
            rw [et, hgt_snoc, rt_fq]
            show _
            rcases gc.get c with ⟨w1, hv, pw1⟩ | ⟨hv, z0⟩
            · rw [hv]
              refine iteTT rfl ⟨_, Same.seqT sG2 g1, _, rfl, _, by have := DGet.k (k := (Sum.inl c : L2.Key)) hc1; rw [hv] at this; exact this, _, Same.seqT sG2 g1, _, rfl, ?_⟩
              refine ⟨w1, v, R c, z, rfl, pw1.same sG2, Same.seqT sG2 g2, by omega, by omega, trivial, fun t1 G2 s2 n2 t21 => ⟨hh, t1, _, R c * z, rfl, ph.same s2, Fv.of t21, by omega, by have := bits_mul (R c) z; omega, trivial, fun t3 G3 s3 n3 t31 => ⟨_, t3, ⟨rfl, rfl⟩, Same.trans sG1 (Same.trans s2 s3), Fv.of t31⟩⟩⟩
            · rw [hv]
              refine iteFF (by decide) ⟨_, hh, ⟨rfl, rfl⟩, sG1, ?_⟩
              rw [show R (List.headD [c] 0) = 0 from z0, Rat.zero_mul, Rat.add_zero]
              exact ph
          · rintro σ G1 ⟨x5, hh, rfl, sG1, ph⟩
            rw [ly, List.take_length] at ph
            exact hN1 _ _ ⟨_, hh, rfl, sG1, ph⟩
        · rintro σ G1 ⟨x5, hh, rfl, sG1, ph⟩
          have hbd : bits (hgt R u.2.1 u.1) ≤ 1000 := by
            have := ou.hb u.1.length
            rw [List.take_length] at this
            exact this
          have hG1 := sG1 _ _ hG
          have gv1 := gv.upd (H' := G1) fun u p q h => Same.seqT sG1 h
          have sG2 := Same.trans sG sG1
          walk_at "rs"
          refine ⟨_, ph, _, rfl, _, rfl, ite2 (fun pos => ?_) (fun npos => ?_)⟩
          · have pos := (num_pos _).mp pos
            have tot := ok.tot i u eu pos
            have lgy := h6.len
            have e0 : (fun c => gTot R (us.take i) c + hgt R u.2.1 u.1 * accR (u.2.2.take 0) [c]) = gTot R (us.take i) := funext fun c => by
              show _ + _ * (0 : Rat) = _
              rw [Rat.mul_zero, Rat.add_zero]
            refine for_tp (K := K) (a := g) (xs := gys) (H0 := H) (fun Q q => ?_) h5 (fun j σ G2 => ∃ (x6 : Option V) (kvs : List (L2.Key × V)), σ = [some (.ref t), some (.ref cc), some (.ref D), some (.ref p), some (.ref hh), x5, x6, none] ∧ Same H G2 ∧ Fv K G2 hh (hgt R u.2.1 u.1) ∧ G2 D = some (.dK kvs) ∧ Gvn K G2 kvs (fun c => gTot R (us.take i) c + hgt R u.2.1 u.1 * accR (u.2.2.take j) [c]) ∧ kvs.length ≤ 64 * i + j) ⟨_, kvs, rfl, sG2, ph, hG1, by rw [e0]; exact gv1, lkv⟩ (fun j σ G2 ⟨_, _, _, s, _⟩ => s) ?_ ?_
            · walk_at "rs"
              exact ⟨_, Same.seqT sG2 h1, _, rfl, q⟩
            · rintro j x σ G2 hxj ⟨x6, kvs2, rfl, sH2, ph2, hD2, gv2, lk2⟩
              obtain ⟨gp, gu, ks, f, ex, ee, g1, g2⟩ := h6.get (n := j) (by rw [← lgy]; exact (List.getElem?_eq_some_iff.mp hxj).1)
              obtain rfl : x = .ref gp := by rw [ex] at hxj; exact (Option.some.inj hxj).symm
              obtain ⟨c0, z, ek, bz⟩ := ou.g _ (List.mem_of_getElem? ee)
              obtain ⟨rfl, rfl⟩ := Prod.mk.inj ek
              have et : u.2.2.take (j + 1) = u.2.2.take j ++ [([c0], fq z)] := by
                obtain ⟨hk, e⟩ := List.getElem?_eq_some_iff.mp ee
                rw [← List.take_append_getElem hk, e]
              have jl : j < u.2.2.length := (List.getElem?_eq_some_iff.mp ee).1
              have lg := ou.lg
              walk_at "rs"
              have h6' := Same.seqT sH2 g1
              have h7' : Fv K G2 gu z := Same.seqT sH2 g2
              refine ⟨.inl ⟨kvs2, .inl hD2⟩, _, h6', _, rfl, by decide, fun z0 G3 s3 n3 t3 => ?_⟩
              have hD3 := s3 _ _ hD2
              refine ⟨_, DGet.k (k := Sum.inl c0) hD3, _, Same.seqT s3 h6', _, rfl, hh, gu, _, z, rfl, ph2.same s3, h7'.same s3, by omega, by omega, trivial, fun t4 G4 s4 n4 t41 => ?_⟩
              have s34 := Same.trans s3 s4
              have pz : ∃ v, (valV kvs2 (Sum.inl c0 : L2.Key)).getD (V.ref z0) = .ref v ∧ Fv K G4 v (gTot R (us.take i) c0 + hgt R u.2.1 u.1 * accR (u.2.2.take j) [c0]) := by
                rcases gv2.get c0 with ⟨v, hv, pv⟩ | ⟨hv, ez⟩
                · exact ⟨v, by rw [hv]; rfl, pv.same s34⟩
                · exact ⟨z0, by rw [hv]; rfl, by rw [ez]; exact .inl (.inl (s4 _ _ t3))⟩
              obtain ⟨v, ev, pv⟩ := pz
              rw [ev]
              refine ⟨v, t4, _, hgt R u.2.1 u.1 * z, rfl, pv, Fv.of t41, tot j c0, by have := bits_mul (hgt R u.2.1 u.1) z; omega, trivial, fun t5 G5 s5 n5 t51 => ?_⟩
              have s35 := Same.trans s34 s5
              have hD5 := s35 _ _ hD2
              have kl : kvs2.length < sizeLine := Nat.lt_of_le_of_lt (show kvs2.length ≤ 7000 by omega) (by decide)
              refine ⟨_, Same.seqT s35 h6', _, rfl, _, DPut.k (k := Sum.inl c0) hD5 kl, ?_, seqT_updO (notT_dK hD5) (ph2.same s35), _, upd_same, ?_⟩
              · intro b o e
                have ne : b ≠ D := fun z => by rw [z, hD] at e; cases e
                rw [upd_ne ne]
                exact Same.trans sH2 s35 _ _ e
              · have gp := gv2.put (H' := L2.upd G5 D (.dK (putK kvs2 (Sum.inl c0) (.ref t5)))) (t := c0) (u := t5) (z := hgt R u.2.1 u.1 * z) (fun u p q h => seqT_updO (notT_dK hD5) (Same.seqT s35 h)) (seqT_updO (notT_dK hD5) (.inl (.inl t51)))
                have ll : (putK kvs2 (Sum.inl c0) (.ref t5)).length ≤ kvs2.length + 1 := by
                  have := congrArg List.length (keys_put kvs2 (Sum.inl c0) (V.ref t5))
                  rw [List.length_map] at this
                  split at this <;> (simp only [List.length_append, List.length_map, List.length_cons, List.length_nil] at this; omega)
                refine ⟨?_, by omega⟩
                have e : (fun c => gTot R (us.take i) c + hgt R u.2.1 u.1 * accR (u.2.2.take j) [c] + (if c0 = c then hgt R u.2.1 u.1 * z else 0)) = (fun c => gTot R (us.take i) c + hgt R u.2.1 u.1 * accR (u.2.2.take (j + 1)) [c]) := funext fun c => by
                  rw [et, accR_snoc, rt_fq]
                  by_cases ec : c0 = c
                  · rw [if_pos ec, if_pos (by rw [ec])]; grind
                  · rw [if_neg ec, if_neg fun q => ec (List.cons.inj q).1]; grind
                rw [← e]
                exact gp
            · rintro σ G2 ⟨x6, kvs2, rfl, sH2, ph2, hD2, gv2, lk2⟩
              refine ⟨_, _, _, _, rfl, sH2, kvs2, hD2, ?_⟩
              rw [es]
              rw [lgy, List.take_length] at gv2
              have lg := ou.lg
              have e : (fun c => gTot R (us.take i) c + hgt R u.2.1 u.1 * accR u.2.2 [c]) = gTot R (us.take i ++ [u]) := funext fun c => by
                rw [gTot_snoc, gOne, if_pos pos]
              rw [← e]
              exact ⟨gv2, by omega⟩
          · have npos : ¬ 0 < hgt R u.2.1 u.1 := fun z => npos ((num_pos _).mpr z)
            refine ⟨_, _, _, _, ⟨rfl, rfl, rfl, rfl⟩, sG2, kvs, hG1, ?_⟩
            rw [es]
            have e : gTot R (us.take i ++ [u]) = gTot R (us.take i) := funext fun c => by
              rw [gTot_snoc, gOne, if_neg npos, Rat.add_zero]
            rw [e]
            exact ⟨gv1, by omega⟩
      · rintro σ G ⟨x3, x4, x5, x6, kvs, rfl, sG, hG, gv, lkv⟩
        rw [lx, List.take_length] at gv
        exact hN _ _ ⟨_, _, _, _, _, rfl, sG, hG, gv, by omega⟩
    · rintro σ G ⟨x3, x4, x5, x6, kvs, rfl, sG, hG, gv, lkv⟩
      walk_at "rs"
      refine ⟨D, _, hG, trivial, fun od => ?_⟩
      have c1 : ∀ u p q, Pr K G u p q → Pr K (L2.upd G D (.frz od (.dK kvs))) u p q := fun u p q h => seqT_updO (notT_dK hG) h
      have hL : (L2.upd G D (.frz od (.dK kvs))) D = some (.frz od (.dK kvs)) := upd_same
      have oL : ∀ b o, b ≠ D → G b = some o → (L2.upd G D (.frz od (.dK kvs))) b = some o := fun b o n e => by rw [upd_ne n]; exact e
      have nL : ∀ b, (L2.upd G D (.frz od (.dK kvs))) b = none → b ≠ D := fun b e z => by rw [z, upd_same] at e; cases e
      generalize L2.upd G D (.frz od (.dK kvs)) = G0 at c1 hL oL nL ⊢
      refine ⟨_, rfl, D, od, rfl, .inl ⟨kvs, hL, fun M hM => lc_filtR (n := kvs.length) walk_keys (fun i H ys => ∃ L : List (Addr × (L2.Key × V)), ys = L.map (fun q => V.ref q.1) ∧ (∀ q ∈ L, SqT K H q.1 [kV q.2.1, q.2.2]) ∧ L.map (·.2) = (kvs.take i).filter (nzK (gTot R us))) (fun i => nzK (gTot R us) (kvs.getD i (Sum.inl 0, .non))) hM (by omega)
        (fun i H H' ys s ⟨L, e1, e2, e3⟩ => ⟨L, e1, fun q hq => Same.seqT s (e2 q hq), e3⟩) (fun i H ys zs o hp ⟨L, e1, e2, e3⟩ => ⟨L, e1, fun q hq => seqT_updO (notT_lst hp) (e2 q hq), e3⟩) (fun H => ⟨[], rfl, fun q hq => absurd hq (by simp), rfl⟩) (fun H s => s _ _ hL) (fun i x H2 H3 hi s2 y => ?_) (gm_name 7) fun H2 ys s2 h2 r2 => ?_⟩⟩
      · obtain ⟨rfl, k0, v0, ek, rfl⟩ := y
        have eg : kvs.getD i (Sum.inl 0, .non) = (k0, v0) := by rw [List.getD_eq_getElem?_getD, ek]; rfl
        have et : kvs.take (i + 1) = kvs.take i ++ [(k0, v0)] := by
          obtain ⟨hk, e⟩ := List.getElem?_eq_some_iff.mp ek
          rw [← List.take_append_getElem hk, e]
        obtain ⟨c, u, e, hu2⟩ := gv.val _ (List.mem_of_getElem? ek)
        obtain ⟨rfl, rfl⟩ := Prod.mk.inj e
        have hv : valV kvs (Sum.inl c : L2.Key) = some (.ref u) := valV_of_nd gv.nd (List.mem_of_getElem? ek)
        have dg : ∀ {J : Hp}, Same G0 J → DGet J D (kV (Sum.inl c)) (some (V.ref u)) := fun sJ => by
          rw [← hv]
          exact .inl ⟨kvs, _, .inr ⟨od, sJ _ _ hL⟩, rfl, rfl⟩
        have ez : nzK (gTot R us) ((Sum.inl c : L2.Key), V.ref u) = decide (gTot R us c ≠ 0) := rfl
        rw [eg]
        refine ⟨Same.refl _, rfl, fun Qt hq => ?_, fun pf H4 ys h => ?_, fun pt H4 s4 Q2 hq => ?_⟩
        · walk_at "rs"
          refine ⟨_, dg s2, u, rfl, _, Same.seqT s2 (c1 _ _ _ hu2), _, rfl, _, rfl, ?_⟩
          have e : (!decide ((fq (gTot R us c)).1 = 0)) = nzK (gTot R us) ((Sum.inl c : L2.Key), V.ref u) := by
            rw [ez]
            by_cases z : gTot R us c = 0
            · rw [decide_eq_true (by rw [z]; rfl), decide_eq_false fun n => n z]; rfl
            · rw [decide_eq_false (num0 z), decide_eq_true z]; rfl
          rw [e]
          exact hq _ (Same.refl _)
        · obtain ⟨L, e1, e2, e3⟩ := h
          refine ⟨L, e1, e2, ?_⟩
          rw [et, List.filter_append, e3]
          simp only [List.filter_cons, pf, List.filter_nil]
          simp
        · walk_at "rs"
          refine ⟨_, dg (Same.trans s2 s4), by decide, fun q5 H5 s5 n5 t5 => hq _ H5 s5 fun ys ⟨L, e1, e2, e3⟩ => ⟨L ++ [(q5, (Sum.inl c, V.ref u))], by rw [e1, List.map_append]; rfl, fun q hq => ?_, ?_⟩⟩
          · rcases List.mem_append.mp hq with hq | hq
            · exact e2 q hq
            · rw [List.mem_singleton.mp hq]
              exact .inl (.inl t5)
          · rw [et, List.filter_append, List.map_append, e3]
            simp only [List.map_cons, List.map_nil, List.filter_cons, pt, List.filter_nil, if_true]
      · rw [List.take_length] at r2
        obtain ⟨L, e1, e2, e3⟩ := r2
        have hD2 := s2 _ _ hL
        refine ⟨hD2, ?_⟩
        have nf := notT_frz hD2
        have nM : M ≠ D := nL M hM
        have c2 : ∀ {a : Addr} {xs : List V}, SqT K H2 a xs → SqT K (L2.upd H2 D (.dK kvs)) a xs := fun h => seqT_updO nf h
        have hM2 : (L2.upd H2 D (.dK kvs)) M = some (.lst ys) := by rw [upd_ne nM]; exact h2
        have c3 : Same G (L2.upd H2 D (.dK kvs)) := fun b o e => by
          by_cases z : b = D
          · subst z
            rw [upd_same, ← hG]
            exact e
          · rw [upd_ne z]
            exact s2 _ _ (oL b o z e)
        refine ⟨M, rfl, L.map (·.1), SqL.of (by rw [List.map_map, show (V.ref ∘ fun q : Addr × (L2.Key × V) => q.1) = fun q => V.ref q.1 from rfl, ← e1]; exact hM2), L.map (·.2), paired_of fun q hq => c2 (e2 q hq), fun p p0 => ?_⟩
        have gf := gv.gft (H' := L2.upd (L2.upd H2 D (.dK kvs)) p (.dK (mergeK [] (L.map (·.2))))) fun u p q h => Same.seqT (Same.trans c3 (same_upd p0)) h
        have em : mergeK [] (L.map (·.2)) = kvs.filter (nzK (gTot R us)) := by
          rw [e3, mergeK_new (by rw [List.nil_append]; exact gf.g.nd)]
          rfl
        refine k p _ _ (Same.trans (Same.trans sG c3) (same_upd p0)) (Same.dom (Same.trans sG c3) _ p0) upd_same ?_
        rw [em] at gf ⊢
        exact gf
end
end LK

set_option Elab.async false
set_option linter.all false
set_option maxRecDepth 100000
namespace LK
open PySem PySem.Spec PyProof.Rows L2
local macro_rules | `(tactic| walk_at "rs") => `(tactic| simp only [cxK, cxNK, tCallZ, tAsg, tOp, rI0, rS0, rB0, rI, rU, tUn, rEq, rNe, rIxL, rIxT, rIxS, rSetL, rSlLU, rSlS, rSlU, rCatL, rCatU, rRepL, rIn, tVar, tC, gName, gSub, tIfS, tTest, tB, tAnd, tOr, tNot, tNotV, tAndV, tOrV, tIf, tCall, tCons, tNil, tCB, tDrop, tRet, tRetN, tNext, tLstU, tTupU, tM0, tM1, tPar, tPar3, tAug, ipI, tBM, tBM0, rAppend, rPop, tBreak, sDPut, tDGet, tDGet2, tCont, tChain, tSl, tPart, tNoPart, L2.start, List.map, List.length_cons, List.length_nil, List.replicate, List.cons_append, List.nil_append, List.append_nil, List.getElem?_cons_zero, List.getElem?_cons_succ, List.set_cons_zero, List.set_cons_succ, Option.some.injEq, V.int.injEq, V.ref.injEq, V.str.injEq, V.bl.injEq, exists_eq_left', exists_eq_left, exists_and_left, decide_eq_true_eq, List.cons.injEq, and_true, true_and, scal, Bool.not_eq_true', decide_eq_false_iff_not, Nat.zero_add, Nat.reduceAdd, Nat.reduceSub, reduceCtorEq, false_and, exists_false, false_or, or_false, CPow, CPowW, CMul, CDiv, Int.reduceToNat, ↓reduceIte, wipe, sw, rv3, tListKeys, tDIn, tDNotIn, List.nil_append, List.singleton_append])
local macro_rules | `(tactic| walk_at "st") => `(tactic| (refine seq_op fun N hN => ?_; walk_at "rs"))
local macro_rules | `(tactic| walk_at "sd") => `(tactic| first | assumption | decide | omega)
local macro_rules | `(tactic| walk_at "rd") => `(tactic| repeat (first
  | refine ⟨_, SqL.of (by assumption), ?_⟩ | refine ⟨_, SqL.of upd_same, ?_⟩ | refine ⟨_, .inl (SqL.of (by assumption)), ?_⟩ | refine ⟨_, (by assumption : _ = some (HO.lst _)), ?_⟩ | refine ⟨_, upd_same, ?_⟩
  | refine ⟨_, rfl, ?_⟩ | refine And.intro (by walk_at "sd") ?_))

def tent (lo top hi x : Rat) : Rat := if x ≤ lo ∨ hi ≤ x then 0 else if x ≤ top then (x - lo) / (top - lo) else (hi - x) / (hi - top)
theorem tent_bits {lo top hi x : Rat} {m n : Nat} (h1 : lo < top) (h2 : top < hi) (b1 : bits lo ≤ m) (b2 : bits top ≤ m) (b3 : bits hi ≤ m) (bx : bits x ≤ n) : bits (tent lo top hi x) ≤ n + 3 * m + 2 := by
  unfold tent
  have m0 := bits_pos lo
  split
  · exact Nat.le_trans (show bits 0 ≤ 1 by decide) (by omega)
  · split
    · have n0 : top - lo ≠ 0 := by grind
      have h1 := bits_quo (x - lo) n0
      have h2 := bits_sub x lo
      have h3 := bits_sub top lo
      omega
    · have n0 : hi - top ≠ 0 := by grind
      have h1 := bits_quo (hi - x) n0
      have h2 := bits_sub hi x
      have h3 := bits_sub hi top
      omega
section
variable {P : Program} {w : World} {K : PySem.W.Frag} {mg : Str → Option Value} {base : Heap}
def sp_tent (K : PySem.W.Frag) : Sp := fun vs H Q _ => ∃ (a b c d : Addr) (lo top hi x : Rat), vs = [.ref a, .ref b, .ref c, .ref d] ∧ Fv K H a lo ∧ Fv K H b top ∧ Fv K H c hi ∧ Fv K H d x ∧ bits lo ≤ 1000 ∧ bits top ≤ 1000 ∧ bits hi ≤ 1000 ∧ bits x ≤ 1000 ∧ lo < top ∧ top < hi ∧
  ∀ t H', Same H H' → H t = none → H' t = some (.tup [.int (fq (tent lo top hi x)).1, .int (fq (tent lo top hi x)).2]) → Q (.ref t) H'
theorem ok__law_tent (T : Txt w K mg) : FnOk P w K mg base CX0 4 T.a__law_tent T.d__law_tent ["low", "top", "high", "at"] (sp_tent K) := by
  refine T.F__law_tent.ok sc__law_tent (fun vs H Q E h => ?_) (fun cdv A outer s H vs Q E hr h => ?_)
  · obtain ⟨a, b, c, d, lo, top, hi, x, rfl, _⟩ := h
    rfl
  · obtain ⟨a, b, c, d, lo, top, hi, x, rfl, ha, hb, hc, hd, ba, bb, bc, bd, h1, h2, k⟩ := h
    have hr__law_gap : Room 1 _ := hr.mono (by decide)
    have G__law_gap := ok__law_gap (P := P) (base := base) T
    have hr__law_minus : Room 3 _ := hr
    have G__law_minus := ok__law_minus (P := P) (base := base) T
    have hr__law_over : Room 2 _ := hr.mono (by decide)
    have G__law_over := ok__law_over (P := P) (base := base) T
    have up : ∀ {r : Rat}, bits r ≤ 1000 → bits r ≤ 3990 := fun h => Nat.le_trans h (by decide)
    have us : ∀ {r s : Rat}, bits r ≤ 1000 → bits s ≤ 1000 → bits (r - s) ≤ 3990 := fun {r s} h g => by have := bits_sub r s; omega
    unfold tent at k
    refine ⟨_, (pss_cons (ps_if (PW.pt (pw_or (pt_cmpR op_le (pe_call G__law_gap hr__law_gap (by rfl) T.m__law_gap T.F__law_gap.kp T.B__law_gap .nil pass0 (pa_cons (pv 3) (pa_cons (pv 0) pa_nil))) pe_int (nomark _)) (pw_or1 (pt_cmpR op_ge (pe_call G__law_gap hr__law_gap (by rfl) T.m__law_gap T.F__law_gap.kp T.B__law_gap .nil pass0 (pa_cons (pv 3) (pa_cons (pv 2) pa_nil))) pe_int (nomark _))))) (pss_one (ps_ret (pe_tupU (pa_cons pe_int (pa_cons pe_int pa_nil))))) pss_nil)
      (pss_cons (ps_if (pt_cmpR op_le (pe_call G__law_gap hr__law_gap (by rfl) T.m__law_gap T.F__law_gap.kp T.B__law_gap .nil pass0 (pa_cons (pv 3) (pa_cons (pv 1) pa_nil))) pe_int (nomark _)) (pss_one (ps_ret (pe_call G__law_over hr__law_over (by rfl) T.m__law_over T.F__law_over.kp T.B__law_over .nil pass0 (pa_cons (pe_call G__law_minus hr__law_minus (by rfl) T.m__law_minus T.F__law_minus.kp T.B__law_minus .nil pass0 (pa_cons (pv 3) (pa_cons (pv 0) pa_nil))) (pa_cons (pe_call G__law_minus hr__law_minus (by rfl) T.m__law_minus T.F__law_minus.kp T.B__law_minus .nil pass0 (pa_cons (pv 1) (pa_cons (pv 0) pa_nil))) pa_nil))))) pss_nil)
      (pss_one (ps_ret (pe_call G__law_over hr__law_over (by rfl) T.m__law_over T.F__law_over.kp T.B__law_over .nil pass0 (pa_cons (pe_call G__law_minus hr__law_minus (by rfl) T.m__law_minus T.F__law_minus.kp T.B__law_minus .nil pass0 (pa_cons (pv 2) (pa_cons (pv 3) pa_nil))) (pa_cons (pe_call G__law_minus hr__law_minus (by rfl) T.m__law_minus T.F__law_minus.kp T.B__law_minus .nil pass0 (pa_cons (pv 2) (pa_cons (pv 1) pa_nil))) pa_nil))))))), ?_⟩
    refine seq_op fun N hN => ?_
    walk_at "rs"
    have zero : (x ≤ lo ∨ hi ≤ x) → ∀ p H2, Same H H2 → H p = none → H2 p = some (.tup [.int 0, .int 1]) → Q (.ref p) H2 := fun z p H2 s2 hp h2 => by
      rw [if_pos z] at k
      exact k p H2 s2 hp h2
    refine ⟨_, _, ⟨rfl, rfl⟩, x, hd, lo, ha, up bd, up ba, ite2 (fun z => ⟨by decide, zero (.inl ((gap_neg x lo).mp z))⟩) (fun n1 => ⟨_, _, ⟨rfl, rfl⟩, x, hd, hi, hc, up bd, up bc, ite2 (fun z => ⟨by decide, zero (.inr ((gap_pos x hi).mp z))⟩) (fun n2 => hN _ _ ?_)⟩)⟩
    clear hN N zero
    have m1 : ¬ (x ≤ lo ∨ hi ≤ x) := by
      rintro (z | z)
      · exact n1 ((gap_neg x lo).mpr z)
      · exact n2 ((gap_pos x hi).mpr z)
    rw [if_neg m1] at k
    refine seq_op fun N hN => ?_
    walk_at "rs"
    refine ⟨_, _, ⟨rfl, rfl⟩, x, hd, top, hb, up bd, up bb, ite2 (fun z => ?_) (fun z => hN _ _ ?_)⟩
    · rw [if_pos ((gap_neg x top).mp z)] at k
      refine ⟨d, a, x, lo, rfl, hd, ha, up bd, up ba, trivial, fun t1 H1 s1 n1 t11 => ⟨b, a, top, lo, rfl, hb.same s1, ha.same s1, up bb, up ba, trivial, fun t2 H2 s2 n2 t21 => ⟨t1, t2, _, _, rfl, Fv.of (s2 _ _ t11), Fv.of t21, us bd ba, us bb ba, ?_, fun t3 H3 s3 n3 t31 => k t3 H3 (Same.trans s1 (Same.trans s2 s3)) (Same.dom (Same.trans s1 s2) _ n3) t31⟩⟩⟩
      show 0 < top - lo
      grind
    · clear hN N
      rw [if_neg fun q => z ((gap_neg x top).mpr q)] at k
      walk_at "rs"
      refine ⟨c, d, hi, x, rfl, hc, hd, up bc, up bd, trivial, fun t1 H1 s1 n1 t11 => ⟨c, b, hi, top, rfl, hc.same s1, hb.same s1, up bc, up bb, trivial, fun t2 H2 s2 n2 t21 => ⟨t1, t2, _, _, rfl, Fv.of (s2 _ _ t11), Fv.of t21, us bc bd, us bc bb, ?_, fun t3 H3 s3 n3 t31 => k t3 H3 (Same.trans s1 (Same.trans s2 s3)) (Same.dom (Same.trans s1 s2) _ n3) t31⟩⟩⟩
      show 0 < hi - top
      grind
end
end LK

set_option Elab.async false
set_option linter.all false
set_option maxRecDepth 100000
namespace LK
open PySem PySem.Spec PyProof.Rows L2
local macro_rules | `(tactic| walk_at "rs") => `(tactic| simp only [cxK, cxNK, tCallZ, tAsg, tOp, rI0, rS0, rB0, rI, rU, tUn, rEq, rNe, rIxL, rIxT, rIxS, rSetL, rSlLU, rSlS, rSlU, rCatL, rCatU, rRepL, rIn, tVar, tC, gName, gSub, tIfS, tTest, tB, tAnd, tOr, tNot, tNotV, tAndV, tOrV, tIf, tCall, tCons, tNil, tCB, tDrop, tRet, tRetN, tNext, tLstU, tTupU, tM0, tM1, tPar, tPar3, tAug, ipI, tBM, tBM0, rAppend, rPop, tBreak, sDPut, tDGet, tDGet2, tCont, tChain, tSl, tPart, tNoPart, L2.start, List.map, List.length_cons, List.length_nil, List.replicate, List.cons_append, List.nil_append, List.append_nil, List.getElem?_cons_zero, List.getElem?_cons_succ, List.set_cons_zero, List.set_cons_succ, Option.some.injEq, V.int.injEq, V.ref.injEq, V.str.injEq, V.bl.injEq, exists_eq_left', exists_eq_left, exists_and_left, decide_eq_true_eq, List.cons.injEq, and_true, true_and, scal, Bool.not_eq_true', decide_eq_false_iff_not, Nat.zero_add, Nat.reduceAdd, Nat.reduceSub, reduceCtorEq, false_and, exists_false, false_or, or_false, CPow, CPowW, CMul, CDiv, Int.reduceToNat, ↓reduceIte, wipe, sw, rv3, tListKeys, tDIn, tDNotIn, List.nil_append, List.singleton_append])
local macro_rules | `(tactic| walk_at "st") => `(tactic| (refine seq_op fun N hN => ?_; walk_at "rs"))
local macro_rules | `(tactic| walk_at "sd") => `(tactic| first | assumption | decide | omega)
local macro_rules | `(tactic| walk_at "rd") => `(tactic| repeat (first
  | refine ⟨_, SqL.of (by assumption), ?_⟩ | refine ⟨_, SqL.of upd_same, ?_⟩ | refine ⟨_, .inl (SqL.of (by assumption)), ?_⟩ | refine ⟨_, (by assumption : _ = some (HO.lst _)), ?_⟩ | refine ⟨_, upd_same, ?_⟩
  | refine ⟨_, rfl, ?_⟩ | refine And.intro (by walk_at "sd") ?_))

/-- entries read as pairs of a dict -/
theorem its_pairs {K : PySem.W.Frag} {H : Hp} : ∀ {ys : List V} {its : List It}, Its K H ys its → (∀ x ∈ its, x.1.length = 1 ∧ low x.2) → ∃ L : List (Addr × (L2.Key × V)), ys = L.map (fun q => V.ref q.1) ∧ (∀ q ∈ L, SqT K H q.1 [kV q.2.1, q.2.2]) ∧ (L.map fun q => q.2.1) = its.map (fun x => (Sum.inl (x.1.headD 0) : L2.Key)) ∧ ∀ q ∈ L, ∃ x ∈ its, ∃ u, q.2 = (Sum.inl (x.1.headD 0), .ref u) ∧ Fv K H u (rt x.2)
  | _, _, .nil, _ => ⟨[], rfl, fun q h => absurd h (by simp), rfl, fun q h => absurd h (by simp)⟩
  | _, _, .cons (a := a) (u := u) (k := k) (f := f) h h2 q, hx => by
    obtain ⟨L, e1, e2, e3, e4⟩ := its_pairs q fun x m => hx x (List.mem_cons_of_mem _ m)
    obtain ⟨l1, lf⟩ := hx _ List.mem_cons_self
    obtain ⟨c, rfl⟩ : ∃ c, k = [c] := by
      match k, l1 with
      | [c], _ => exact ⟨c, rfl⟩
    refine ⟨(a, (Sum.inl c, .ref u)) :: L, by rw [List.map_cons, ← e1], fun p hp => ?_, ?_, fun p hp => ?_⟩
    · rcases List.mem_cons.mp hp with rfl | hp
      · exact h
      · exact e2 p hp
    · rw [List.map_cons, e3]
      rfl
    · rcases List.mem_cons.mp hp with rfl | hp
      · refine ⟨([c], f), List.mem_cons_self, u, rfl, ?_⟩
        unfold Fv
        rw [fq_rt lf]
        exact h2
      · obtain ⟨x, m, v, e, g⟩ := e4 p hp
        exact ⟨x, List.mem_cons_of_mem _ m, v, e, g⟩
theorem gft_norm {K : PySem.W.Frag} {H : Hp} {its : List It} {R : List Int → Rat} (hn : Norm R its) (h1 : ∀ x ∈ its, x.1.length = 1) {L : List (Addr × (L2.Key × V))} (e3 : (L.map fun q => q.2.1) = its.map (fun x => (Sum.inl (x.1.headD 0) : L2.Key))) (e4 : ∀ q ∈ L, ∃ x ∈ its, ∃ u, q.2 = (Sum.inl (x.1.headD 0), .ref u) ∧ Fv K H u (rt x.2)) : Gft K H (L.map (·.2)) (fun c => R [c]) := by
  have one : ∀ x ∈ its, x.1 = [x.1.headD 0] := fun x hx => by
    have := h1 x hx
    match x.1, this with
    | [c], _ => rfl
  have ek : (L.map (·.2)).map (·.1) = its.map (fun x => (Sum.inl (x.1.headD 0) : L2.Key)) := by rw [List.map_map]; exact e3
  refine ⟨⟨?_, fun p hp => ?_, fun c hc => ?_⟩, fun c hc => ?_⟩
  · rw [ek]
    refine List.pairwise_map.mpr (List.Pairwise.imp_of_mem (fun {a b} ha hb h e => ?_) hn.srt)
    injection e with e
    have : a.1 = b.1 := by rw [one a ha, one b hb, e]
    rw [this] at h
    omega
  · obtain ⟨q, hq, rfl⟩ := List.mem_map.mp hp
    obtain ⟨x, hx, u, e, g⟩ := e4 q hq
    refine ⟨x.1.headD 0, u, e, ?_⟩
    rw [← one x hx, ← (hn.it x hx).2.2]
    exact g
  · refine Classical.byContradiction fun n => hc ?_
    obtain ⟨f, hf⟩ := hn.all [c] n
    rw [ek]
    exact List.mem_map.mpr ⟨_, hf, rfl⟩
  · rw [ek] at hc
    obtain ⟨x, hx, e⟩ := List.mem_map.mp hc
    injection e with e
    obtain ⟨a1, a2, a3⟩ := hn.it x hx
    have : R [c] = rt x.2 := by rw [a3, one x hx, e]
    rw [this]
    exact fun z => a2 ((rt_null a1).mp z)
theorem lvs_get {ps : List (Rat × Int)} {j : Nat} (hj : j < ps.length + 2) : (lvs (ps.map (·.1)))[j]? = some (lvf ps j) := by
  have en : (lvs (ps.map (·.1))).length = ps.length + 2 := by rw [lvs_len, List.length_map]
  unfold lvf
  rw [List.getElem?_eq_getElem (by omega)]
  simp [List.getD, show j < (lvs (ps.map (·.1))).length by omega]
/-- what is due: each point's tent -/
def dueI (ps : List (Rat × Int)) (x : Rat) (m : Nat) : List It := (List.range m).map fun k => ([clf ps k], fq (tent (lvf ps k) (lvf ps (k + 1)) (lvf ps (k + 2)) x))
def dueR (ps : List (Rat × Int)) (x : Rat) (c : Int) : Rat := accR (dueI ps x ps.length) [c]
theorem dueI_fit {ps : List (Rat × Int)} {D scratch rest : Int} (ok : PtsOk ps D scratch rest) {x : Rat} (hx : bits x ≤ 200) : Fit 1 (dueI ps x ps.length) := by
  have l8 := ok.l8
  have hb : ∀ j, j < ps.length + 2 → bits (lvf ps j) ≤ 49 := fun j hj => (lvf_lv ok hj).bits ok.d0 ok.d1
  have mem : ∀ it ∈ dueI ps x ps.length, low it.2 ∧ wt it.2 ≤ 349 ∧ ∃ k, k < ps.length ∧ it.1 = [clf ps k] := fun it hit => by
    obtain ⟨k, hk, rfl⟩ := List.mem_map.mp hit
    have hk := List.mem_range.mp hk
    refine ⟨low_fq _, ?_, k, hk, rfl⟩
    exact tent_bits (m := 49) (n := 200) (lvf_up ok (by omega) (by omega)) (lvf_up ok (by omega) (by omega)) (hb _ (by omega)) (hb _ (by omega)) (hb _ (by omega)) hx
  have len : (dueI ps x ps.length).length = ps.length := by unfold dueI; rw [List.length_map, List.length_range]
  refine ⟨fun it hit => ?_, fun k => ?_, ⟨(dueI ps x ps.length).map (·.1), by rw [List.length_map, len]; omega, fun it hit => List.mem_map_of_mem hit⟩, by omega⟩
  · obtain ⟨a1, a2, k, a3, a4⟩ := mem it hit
    exact ⟨a1, by omega, by rw [a4]; rfl, by rw [a4]; exact bd_one (clf_in ok k a3)⟩
  · have := wtS_le (B := 349) k fun it hit => (mem it hit).2.1
    rw [len] at this
    omega
theorem accR_one {items : List It} {k : List Int} (h : ∀ x ∈ items, x.1.length = 1) (hk : accR items k ≠ 0) : k.length = 1 := by
  refine Classical.byContradiction fun n => hk (accF_none fun it hit e => n ?_).2
  rw [← e]
  exact h it hit
theorem norm_one {items its : List It} (h : ∀ x ∈ items, x.1.length = 1) (hn : Norm (accR items) its) : ∀ x ∈ its, x.1.length = 1 ∧ low x.2 := fun x hx => by
  obtain ⟨a1, a2, a3⟩ := hn.it x hx
  exact ⟨accR_one h fun z => a2 ((rt_null a1).mp (a3.trans z)), a1⟩
section
variable {P : Program} {w : World} {K : PySem.W.Frag} {mg : Str → Option Value} {base : Heap}
def sp_due (K : PySem.W.Frag) : Sp := fun vs H Q _ => ∃ (a l d : Addr) (xs lx : List V) (ps : List (Rat × Int)) (D scratch rest : Int) (x : Rat), vs = [.ref a, .ref l, .ref d] ∧ SqL K H a xs ∧ Pts K H xs ps ∧ PtsOk ps D scratch rest ∧ SqL K H l lx ∧ Rats K H lx (lvs (ps.map (·.1))) ∧ Fv K H d x ∧ bits x ≤ 200 ∧
  ∀ (p : Addr) (kvs : List (L2.Key × V)) H', Same H H' → H p = none → H' p = some (.dK kvs) → Gft K H' kvs (dueR ps x) → Q (.ref p) H'
theorem ok__law_due (T : Txt w K mg) : FnOk P w K mg base CX0 5 T.a__law_due T.d__law_due ["some", "levels", "at"] (sp_due K) := by
  refine T.F__law_due.ok sc__law_due (fun vs H Q E h => ?_) (fun cdv A outer s H vs Q E hr h => ?_)
  · obtain ⟨a, l, d, xs, lx, ps, D, scratch, rest, x, rfl, _⟩ := h
    rfl
  · obtain ⟨a, l, d, xs, lx, ps, D, scratch, rest, x, rfl, ha, hp, ok, hl, rl, hd, bx, k⟩ := h
    have hr__law_tent : Room 4 _ := hr
    have G__law_tent := ok__law_tent (P := P) (base := base) T
    have hr__law_normal : Room 3 _ := hr.mono (by decide)
    have G__law_normal := ok__law_normal (P := P) (base := base) T
    have lxn := hp.len
    have l8 := ok.l8
    refine ⟨_, (pss_cons (ps_set (i := 3) sc__law_due.nd rfl (Or.inl rfl) (pe_lstU pa_nil))
      (pss_cons (ps_for PassesOwn.never rfl (pi_enum (by rfl) T.n_enumerate (pa_cons (pv 0) pa_nil)) (pg_tup rfl (pgs_cons (pg_name (i := 4) sc__law_due.nd rfl (Or.inl rfl)) (pgs_cons (pg_name (i := 5) sc__law_due.nd rfl (Or.inl rfl)) pgs_nil))) (pss_one (ps_expr (pe_bm PySem.F.plainAttrs_list PySem.F.slot_list_append PySem.F.type_list_append mt_append (pv 3) (pa_cons (pe_tupU (pa_cons (pe_ix ix_tup (pv 5) pe_int (fun _ _ => rfl)) (pa_cons (pe_call G__law_tent hr__law_tent (by rfl) T.m__law_tent T.F__law_tent.kp T.B__law_tent .nil pass0 (pa_cons (pe_ix ix_list (pv 1) (pv 4) (fun _ _ => rfl)) (pa_cons (pe_ix ix_list (pv 1) (pe_op op_add (pv 4) pe_int) (fun _ _ => rfl)) (pa_cons (pe_ix ix_list (pv 1) (pe_op op_add (pv 4) pe_int) (fun _ _ => rfl)) (pa_cons (pv 2) pa_nil))))) pa_nil))) pa_nil)))))
      (pss_one (ps_ret (pe_callTy (call_dictP rfl) (by rfl) T.n_dict (by decide +kernel) (pa_cons (pe_callTy call_listU (by rfl) T.n_list (by decide +kernel) (pa_cons (pe_call G__law_normal hr__law_normal (by rfl) T.m__law_normal T.F__law_normal.kp T.B__law_normal .nil pass0 (pa_cons (pv 3) pa_nil)) pa_nil)) pa_nil)))))), ?_⟩
    refine seq_op fun N hN => ?_
    walk_at "rs"
    refine ⟨by decide, fun g H1 s1 n1 t1 => hN _ _ ?_⟩
    clear hN N
    refine cut_seq (fun σ G => ∃ (x4 x5 : Option V) (ys : List V), σ = [some (.ref a), some (.ref l), some (.ref d), some (.ref g), x4, x5] ∧ Same H G ∧ G g = some (.lst ys) ∧ Its K G ys (dueI ps x ps.length)) (fun N hN => ?_) ?_
    · walk_at "rs"
      refine ⟨_, rfl, a, xs, rfl, s1.seq ha, for_it walk_enum (fun i σ G => ∃ (x4 x5 : Option V) (ys : List V), σ = [some (.ref a), some (.ref l), some (.ref d), some (.ref g), x4, x5] ∧ Same H G ∧ G g = some (.lst ys) ∧ Its K G ys (dueI ps x i)) ⟨_, _, [], rfl, s1, t1, .nil⟩ (fun i σ G _ ⟨_, _, _, _, s, _⟩ => s.seq ha) ?_ ?_⟩
      · rintro i y σ G G' hi ⟨x4, x5, ys, rfl, sG, hg, iy⟩ ⟨T0, u, v, rfl, hT, rfl, e1, e2⟩
        obtain rfl : u = .int (i : Int) := (Option.some.inj e1).symm
        obtain ⟨pa, pu1, r, c, rfl, ep, hpa, hpu⟩ := hp.get e2
        have ecl : clf ps i = c := by
          unfold clf
          rw [List.getD_eq_getElem?_getD, List.getElem?_map, ep]
          rfl
        have hi : i < ps.length := by omega
        have sT : Same G (L2.upd G T0 (.tup [.int (i : Int), .ref pa])) := same_upd hT
        have hT1 : (L2.upd G T0 (.tup [.int (i : Int), .ref pa])) T0 = some (.tup [.int (i : Int), .ref pa]) := upd_same
        generalize L2.upd G T0 (.tup [.int (i : Int), .ref pa]) = G1 at sT hT1 ⊢
        have sG1 := Same.trans sG sT
        refine g2_at (.inl (.inl hT1)) ?_
        walk_at "rs"
        have hl1 := sG1.seq hl
        obtain ⟨w0, a0, h0⟩ := rl.has (lvs_get (ps := ps) (j := i) (by omega))
        obtain ⟨w1, a1, h1⟩ := rl.has (lvs_get (ps := ps) (j := i + 1) (by omega))
        obtain ⟨w2, a2, h2⟩ := rl.has (lvs_get (ps := ps) (j := i + 2) (by omega))
        have hb : ∀ j, j < ps.length + 2 → bits (lvf ps j) ≤ 1000 := fun j hj => Nat.le_trans ((lvf_lv ok hj).bits ok.d0 ok.d1) (by decide)
        have ly := iy.len
        have ld : (dueI ps x i).length = i := by unfold dueI; rw [List.length_map, List.length_range]
        refine ⟨.inl ⟨rfl, _, SqL.of (sT _ _ hg)⟩, _, Same.seqT sG1 hpa, _, rfl, lx, hl1, _, at_ofN (j := i) rfl a0, lx, hl1, _, at_ofN (j := i + 1) (by omega) a1, lx, hl1, _, at_ofN (j := i + 2) (by omega) a2, w0, w1, w2, d, _, _, _, x, rfl, h0.same sG1, h1.same sG1, h2.same sG1, hd.same sG1, hb _ (by omega), hb _ (by omega), hb _ (by omega), Nat.le_trans bx (by decide), lvf_up ok (by omega) (by omega), lvf_up ok (by omega) (by omega), fun t2 H2 s2 n2 t21 => ⟨by decide, fun p3 H3 s3 n3 t3 => ?_⟩⟩
        have s23 := Same.trans s2 s3
        have hg3 := s23 _ _ (sT _ _ hg)
        have nt := notT_lst hg3
        refine ⟨ys, hg3, Nat.lt_of_le_of_lt (show ys.length ≤ 8 by omega) (by decide), _, _, ⟨rfl, rfl⟩, same_updN (Same.trans sG1 s23) n1, _, upd_same, ?_⟩
        have ed : dueI ps x (i + 1) = dueI ps x i ++ [([clf ps i], fq (tent (lvf ps i) (lvf ps (i + 1)) (lvf ps (i + 2)) x))] := by
          unfold dueI
          rw [List.range_succ, List.map_append]
          rfl
        rw [ed, ecl]
        exact ((iy.same (Same.trans sT s23)).updO nt).app (.cons (k := [c]) (seqT_updO nt (.inl (.inl t3))) (seqT_updO nt (.inl (.inl (s3 _ _ t21)))) .nil)
      · rintro σ G ⟨x4, x5, ys, rfl, sG, hg, iy⟩
        rw [lxn] at iy
        exact hN _ _ ⟨_, _, ys, rfl, sG, hg, iy⟩
    · rintro σ G ⟨x4, x5, ys, rfl, sG, hg, iy⟩
      walk_at "rs"
      refine ⟨g, ys, dueI ps x ps.length, rfl, .inl (SqL.of hg), iy, dueI_fit ok bx, fun t zs its2 H2 s2 ht hi hn ln => ⟨t, rfl, zs, .inr ht, fun m H3 s3 m0 m1 => ?_⟩⟩
      have n1 := norm_one (fun z hz => ((dueI_fit ok bx).it z hz).2.2.1) hn
      obtain ⟨L, e1, e2, e3, e4⟩ := its_pairs (hi.same s3) n1
      refine ⟨L.map (·.1), SqL.of (by rw [List.map_map, show (V.ref ∘ fun q : Addr × (L2.Key × V) => q.1) = fun q => V.ref q.1 from rfl, ← e1]; exact m1), L.map (·.2), paired_of fun q hq => e2 q hq, fun p p0 => ?_⟩
      have gf := gft_norm hn (fun z hz => (n1 z hz).1) e3 e4
      have em : mergeK [] (L.map (·.2)) = L.map (·.2) := by
        rw [mergeK_new (by rw [List.nil_append]; exact gf.g.nd)]
        rfl
      refine k p _ _ (Same.trans sG (Same.trans s2 (Same.trans s3 (same_upd p0)))) (Same.dom (Same.trans sG (Same.trans s2 s3)) _ p0) upd_same ?_
      rw [em]
      exact gf.upd fun u p q h => Same.seqT (same_upd p0) h
end
end LK

set_option Elab.async false
set_option linter.all false
set_option maxRecDepth 100000
namespace LK
open PySem PySem.Spec PyProof.Rows L2
local macro_rules | `(tactic| walk_at "rs") => `(tactic| simp only [cxK, cxNK, tCallZ, tAsg, tOp, rI0, rS0, rB0, rI, rU, tUn, rEq, rNe, rIxL, rIxT, rIxS, rSetL, rSlLU, rSlS, rSlU, rCatL, rCatU, rRepL, rIn, tVar, tC, gName, gSub, tIfS, tTest, tB, tAnd, tOr, tNot, tNotV, tAndV, tOrV, tIf, tCall, tCons, tNil, tCB, tDrop, tRet, tRetN, tNext, tLstU, tTupU, tM0, tM1, tPar, tPar3, tAug, ipI, tBM, tBM0, rAppend, rPop, tBreak, sDPut, tDGet, tDGet2, tCont, tChain, tSl, tPart, tNoPart, L2.start, List.map, List.length_cons, List.length_nil, List.replicate, List.cons_append, List.nil_append, List.append_nil, List.getElem?_cons_zero, List.getElem?_cons_succ, List.set_cons_zero, List.set_cons_succ, Option.some.injEq, V.int.injEq, V.ref.injEq, V.str.injEq, V.bl.injEq, exists_eq_left', exists_eq_left, exists_and_left, decide_eq_true_eq, List.cons.injEq, and_true, true_and, scal, Bool.not_eq_true', decide_eq_false_iff_not, Nat.zero_add, Nat.reduceAdd, Nat.reduceSub, reduceCtorEq, false_and, exists_false, false_or, or_false, CPow, CPowW, CMul, CDiv, Int.reduceToNat, ↓reduceIte, wipe, sw, rv3, tListKeys, tDIn, tDNotIn, List.nil_append, List.singleton_append])
local macro_rules | `(tactic| walk_at "st") => `(tactic| (refine seq_op fun N hN => ?_; walk_at "rs"))
local macro_rules | `(tactic| walk_at "sd") => `(tactic| first | assumption | decide | omega)
local macro_rules | `(tactic| walk_at "rd") => `(tactic| repeat (first
  | refine ⟨_, SqL.of (by assumption), ?_⟩ | refine ⟨_, SqL.of upd_same, ?_⟩ | refine ⟨_, .inl (SqL.of (by assumption)), ?_⟩ | refine ⟨_, (by assumption : _ = some (HO.lst _)), ?_⟩ | refine ⟨_, upd_same, ?_⟩
  | refine ⟨_, rfl, ?_⟩ | refine And.intro (by walk_at "sd") ?_))

/-! ### comprehensions over range that change what they walk beside -/
theorem lc_rngI {n : Nat} {lo : Int} {te : TE} {i0 : Nat} {σ : L2.St} {H1 : Hp} {D : Addr} {Qd : Hp → Prop} (F : Nat → Hp → List V → Prop) (hn : n ≤ 1000000) (f0 : F 0 (L2.upd H1 D (.lst [])) [])
    (hs : ∀ i G ys, i < n → G D = some (.lst ys) → ys.length = i → F i G ys → ∀ Q2 : VK, (∀ y G4, G4 D = some (.lst ys) → F (i + 1) (L2.upd G4 D (.lst (ys ++ [y]))) (ys ++ [y]) → Q2 y G4) → te ((wipe σ [i0]).set i0 (some (.int (lo + i)))) G Q2)
    (hq : ∀ G ys, G D = some (.lst ys) → ys.length = n → F n G ys → Qd G) :
    ∃ W : Nat → Nat → Hp → Prop, (∃ m, W 0 m (L2.upd H1 D (.lst []))) ∧ ∀ i m H, W i m H →
      ((Itr lo n).stop i H ∧ Qd H) ∨ ((Itr lo n).go i H ∧ ∃ Nx : Hp → Prop, (∀ H', Nx H' → ∃ m', m' < m ∧ W (i + 1) m' H') ∧ ∀ x H', (Itr lo n).yld i H x H' → gName i0 x (wipe σ [i0]) H' fun σ2 H2 => wipe σ2 [i0] = wipe σ [i0] ∧ tYes σ2 H2 fun b H3 =>
        if b = true then te σ2 H3 fun y H4 => ∃ acc, H4 D = some (.lst acc) ∧ acc.length < sizeLine ∧ Nx (L2.upd H4 D (.lst (acc ++ [y]))) else Nx H3) := by
  refine lc_it walk_range (fun i H => ∃ ys, H D = some (.lst ys) ∧ ys.length = i ∧ F i H ys) ⟨[], upd_same, rfl, f0⟩ (fun _ _ _ _ => trivial) (fun i x H H' hi ⟨ys, h1, hl, hf⟩ y => ?_) (fun H ⟨ys, h1, hl, hf⟩ => hq H ys h1 hl hf)
  obtain ⟨rfl, rfl⟩ := y
  refine ⟨?_, ?_⟩
  · show ((σ.set i0 none).set i0 (some _)).set i0 none = σ.set i0 none
    rw [List.set_set, List.set_set]
  · simp only [tYes, eq_self, ite_true]
    refine hs i H' ys hi h1 hl hf _ fun y G4 e f => ⟨ys, e, ?_, ys ++ [y], upd_same, by rw [List.length_append, hl]; rfl, f⟩
    rw [hl]
    exact Nat.lt_of_lt_of_le (Nat.lt_of_lt_of_le hi hn) (by decide)
theorem Kp.get {b p : Addr} {H H' : Hp} {o : HO} (k : Kp b H H') (n : p ≠ b) (h : H p = some o) : H' p = some o := k.hd h n
theorem Kp.upd2 {b p : Addr} {H H' : Hp} {o : HO} (k : Kp b H H') (h : H p = none) : Kp b H (L2.upd H' p o) := fun a u e => by
  obtain ⟨n1, e1⟩ := hb_some e
  have n : a ≠ p := fun z => by rw [z, h] at e1; cases e1
  rw [hb_ne n1, upd_ne n]
  have := k a u e
  rw [hb_ne n1] at this
  exact this
theorem Kp.none {b p : Addr} {H H' : Hp} {N : Nat} {c : Addr} (k : Kp b H H') (B : Bag N H' b c) (h : H' p = none) : H p = none := Kp.bn k B.at.choose_spec h
theorem Bag.ne2 {N : Nat} {H : Hp} {b c p : Addr} (B : Bag N H b c) (h : H p = none) : b ≠ p ∧ c ≠ p := ⟨(new_ne B h).symm, fun e => by
  obtain ⟨xc, ec⟩ := B.at2
  rw [e, h] at ec; cases ec⟩
theorem erase_perm {l : List Int} {k : Nat} {y : Int} (h : l[k]? = some y) : l.Perm (y :: l.eraseIdx k) := by
  obtain ⟨hk, e⟩ := List.getElem?_eq_some_iff.mp h
  subst e
  have e2 : l = l.take k ++ l[k] :: l.drop (k + 1) := by
    rw [← List.drop_eq_getElem_cons hk, List.take_append_drop]
  have e3 : l.eraseIdx k = l.take k ++ l.drop (k + 1) := List.eraseIdx_eq_take_drop_succ l k
  rw [e3]
  conv => lhs; rw [e2]
  exact List.perm_middle
theorem ixN_nat {k n : Nat} (h : k < n) : seqIndex? (k : Int) n = some k := by
  unfold seqIndex?
  simp only
  have h1 : ¬ ((k : Int) < 0) := by omega
  simp [h1, h]
theorem erase_map {f : Int → V} : ∀ (l : List Int) (k : Nat), (l.map f).eraseIdx k = (l.eraseIdx k).map f
  | [], _ => rfl
  | _ :: _, 0 => rfl
  | a :: l, k + 1 => by
    show f a :: (l.map f).eraseIdx k = f a :: (l.eraseIdx k).map f
    rw [erase_map l k]
end LK

set_option Elab.async false
set_option linter.all false
set_option maxRecDepth 100000
namespace LK
open PySem PySem.Spec PyProof.Rows L2
local macro_rules | `(tactic| walk_at "rs") => `(tactic| simp only [cxK, cxNK, tCallZ, tAsg, tOp, rI0, rS0, rB0, rI, rU, tUn, rEq, rNe, rIxL, rIxT, rIxS, rSetL, rSlLU, rSlS, rSlU, rCatL, rCatU, rRepL, rIn, tVar, tC, gName, gSub, tIfS, tTest, tB, tAnd, tOr, tNot, tNotV, tAndV, tOrV, tIf, tCall, tCons, tNil, tCB, tDrop, tRet, tRetN, tNext, tLstU, tTupU, tM0, tM1, tPar, tPar3, tAug, ipI, tBM, tBM0, rAppend, rPop, tBreak, sDPut, tDGet, tDGet2, tCont, tChain, tSl, tPart, tNoPart, L2.start, List.map, List.length_cons, List.length_nil, List.replicate, List.cons_append, List.nil_append, List.append_nil, List.getElem?_cons_zero, List.getElem?_cons_succ, List.set_cons_zero, List.set_cons_succ, Option.some.injEq, V.int.injEq, V.ref.injEq, V.str.injEq, V.bl.injEq, exists_eq_left', exists_eq_left, exists_and_left, decide_eq_true_eq, List.cons.injEq, and_true, true_and, scal, Bool.not_eq_true', decide_eq_false_iff_not, Nat.zero_add, Nat.reduceAdd, Nat.reduceSub, reduceCtorEq, false_and, exists_false, false_or, or_false, CPow, CPowW, CMul, CDiv, Int.reduceToNat, ↓reduceIte, wipe, sw, rv3, tListKeys, tDIn, tDNotIn, List.nil_append, List.singleton_append])
local macro_rules | `(tactic| walk_at "st") => `(tactic| (refine seq_op fun N hN => ?_; walk_at "rs"))
local macro_rules | `(tactic| walk_at "sd") => `(tactic| first | assumption | decide | omega)
local macro_rules | `(tactic| walk_at "rd") => `(tactic| repeat (first
  | refine ⟨_, SqL.of (by assumption), ?_⟩ | refine ⟨_, SqL.of upd_same, ?_⟩ | refine ⟨_, .inl (SqL.of (by assumption)), ?_⟩ | refine ⟨_, (by assumption : _ = some (HO.lst _)), ?_⟩ | refine ⟨_, upd_same, ?_⟩
  | refine ⟨_, rfl, ?_⟩ | refine And.intro (by walk_at "sd") ?_))

/-- what a step of the pool keeps -/
def PoolAt (K : PySem.W.Frag) (H : Hp) (y : V) : Prop := ∃ (a : Addr) (r : Rat), y = .ref a ∧ Fv K H a r ∧ 0 < r ∧ r ≤ 100 ∧ (∃ X : Int, r * ((9799020 : Int) : Rat) = (X : Rat)) ∧ bits r ≤ 14
theorem PoolAt.same {K : PySem.W.Frag} {H H' : Hp} {y : V} (s : Same H H') : PoolAt K H y → PoolAt K H' y := fun ⟨a, r, e, h, q⟩ => ⟨a, r, e, h.same s, q⟩
theorem PoolAt.kp {K : PySem.W.Frag} {N : Nat} {H H' : Hp} {b c : Addr} {y : V} (B : Bag N H b c) (k : Kp b H H') : PoolAt K H y → PoolAt K H' y := fun ⟨a, r, e, h, q⟩ => ⟨a, r, e, seqT_kp B k h, q⟩
theorem PoolAt.updO {K : PySem.W.Frag} {H : Hp} {p : Addr} {o : HO} {y : V} (hp : ∀ ys, ¬ Rd H p (.tup ys)) : PoolAt K H y → PoolAt K (L2.upd H p o) y := fun ⟨a, r, e, h, q⟩ => ⟨a, r, e, h.updO hp, q⟩
/-- levels drawn so far -/
structure Lvs (D : Int) (i : Nat) (rs : List Rat) (r : Rat) : Prop where
  ln : rs.length = i + 1
  up : rs.Pairwise (· < ·)
  top : ∀ s ∈ rs, s ≤ r
  lv : ∀ s ∈ rs, (∃ X : Int, s * (D : Rat) = (X : Rat)) ∧ -99 ≤ s
  rl : (∃ X : Int, r * (D : Rat) = (X : Rat)) ∧ -99 ≤ r ∧ r ≤ 100 + 100 * ((i : Int) : Rat)
theorem Lvs.next {d : Int} {i : Nat} {rs : List Rat} {r s : Rat} (h : Lvs (d * 9799020) i rs r) (s0 : 0 < s) (s1 : s ≤ 100) (hs : ∃ X : Int, s * ((9799020 : Int) : Rat) = (X : Rat)) : Lvs (d * 9799020) (i + 1) (rs ++ [r + s]) (r + s) := by
  obtain ⟨⟨X, eX⟩, r1, r2⟩ := h.rl
  obtain ⟨Y, eY⟩ := hs
  have ei : (((i + 1 : Nat) : Int) : Rat) = ((i : Int) : Rat) + 1 := by
    rw [show ((i + 1 : Nat) : Int) = (i : Int) + 1 by omega, Rat.intCast_add]
    rfl
  have new : (∃ X : Int, (r + s) * ((d * 9799020 : Int) : Rat) = (X : Rat)) ∧ -99 ≤ r + s ∧ r + s ≤ 100 + 100 * (((i + 1 : Nat) : Int) : Rat) := by
    refine ⟨⟨X + d * Y, ?_⟩, by grind, ?_⟩
    · rw [Rat.intCast_add, ← eX, Rat.intCast_mul d Y, ← eY, Rat.intCast_mul]
      grind
    · rw [ei]
      grind
  refine ⟨by rw [List.length_append, h.ln]; rfl, List.pairwise_append.mpr ⟨h.up, List.pairwise_singleton _ _, fun a ha b hb => ?_⟩, fun a ha => ?_, fun a ha => ?_, new⟩
  · rw [List.mem_singleton.mp hb]
    have := h.top a ha
    grind
  · rcases List.mem_append.mp ha with ha | ha
    · have := h.top a ha
      grind
    · rw [List.mem_singleton.mp ha]
      exact Rat.le_refl
  · rcases List.mem_append.mp ha with ha | ha
    · exact h.lv a ha
    · rw [List.mem_singleton.mp ha]
      exact ⟨new.1, new.2.1⟩
theorem Lvs.in {d : Int} {i : Nat} {rs : List Rat} {r : Rat} (h : Lvs (d * 9799020) i rs r) (hi : i ≤ 7) : ∀ s ∈ rs, (∃ X : Int, s * ((d * 9799020 : Int) : Rat) = (X : Rat)) ∧ -1000 ≤ s ∧ s ≤ 1000 := fun s hs => by
  have i7 : ((i : Int) : Rat) ≤ 7 := by
    have : ((i : Int) : Rat) ≤ ((7 : Int) : Rat) := Rat.intCast_le_intCast.mpr (by omega)
    exact this
  obtain ⟨a, b⟩ := h.lv s hs
  have c := h.top s hs
  obtain ⟨_, _, e⟩ := h.rl
  exact ⟨a, by grind, by grind⟩
theorem Lvs.bits {d : Int} {i : Nat} {rs : List Rat} {r : Rat} (h : Lvs (d * 9799020) i rs r) (hi : i ≤ 7) (d1 : 1 ≤ d) (d2 : d ≤ 9999) : LK.bits r ≤ 49 := by
  have i7 : ((i : Int) : Rat) ≤ 7 := by
    have : ((i : Int) : Rat) ≤ ((7 : Int) : Rat) := Rat.intCast_le_intCast.mpr (by omega)
    exact this
  obtain ⟨a, b, e⟩ := h.rl
  exact Lv.bits (D := d * 9799020) (by omega) (by omega) ⟨a, by grind, by grind⟩
theorem frac_in {a d : Int} (hd : 1 ≤ d) (h1 : -99 ≤ a) (h2 : a ≤ 100) : Rat.divInt a d * (d : Rat) = (a : Rat) ∧ -99 ≤ Rat.divInt a d ∧ Rat.divInt a d ≤ 100 := by
  have d0 : (1 : Rat) ≤ (d : Rat) := by
    have : ((1 : Int) : Rat) ≤ (d : Rat) := Rat.intCast_le_intCast.mpr hd
    exact this
  have a0 : (-99 : Rat) ≤ (a : Rat) := by
    have : ((-99 : Int) : Rat) ≤ (a : Rat) := Rat.intCast_le_intCast.mpr h1
    exact this
  have a1 : (a : Rat) ≤ 100 := by
    have : (a : Rat) ≤ ((100 : Int) : Rat) := Rat.intCast_le_intCast.mpr h2
    exact this
  have e : Rat.divInt a d * (d : Rat) = (a : Rat) := by
    rw [Rat.divInt_eq_div]
    grind
  have dp : (0 : Rat) < (d : Rat) := by grind
  refine ⟨e, Rat.not_lt.mp fun h => ?_, Rat.not_lt.mp fun h => ?_⟩
  · have := Rat.mul_lt_mul_of_pos_right h dp
    grind
  · have := Rat.mul_lt_mul_of_pos_right h dp
    grind
section
variable {P : Program} {w : World} {K : PySem.W.Frag} {mg : Str → Option Value} {base : Heap}
def sp_points (K : PySem.W.Frag) : Sp := fun vs H Q _ => ∃ (b c : Addr), vs = [.ref b] ∧ Bag 0 H b c ∧ ∀ (t f : Addr) (xs : List V) (ps : List (Rat × Int)) (D mark last : Int) H', Bag 0 H' b c → Kp b H H' → H' t = some (.lst [.ref f, .int mark, .int last]) → t ≠ b → H' f = some (.lst xs) → f ≠ b → Pts K H' xs ps → PtsOk ps D mark last → Q (.ref t) H'
theorem ok__law_points (T : Txt w K mg) : FnOk P w K mg base CX0 4 T.a__law_points T.d__law_points ["bag"] (sp_points K) := by
  refine T.F__law_points.ok sc__law_points (fun vs H Q E h => ?_) (fun cdv A outer s H vs Q E hr h => ?_)
  · obtain ⟨b, c, rfl, _⟩ := h
    rfl
  · obtain ⟨b, c, rfl, B, k⟩ := h
    have hr__law_draw : Room 1 _ := hr.mono (by decide)
    have G__law_draw := ok__law_draw (P := P) (base := base) T
    have hr__law_of : Room 2 _ := hr.mono (by decide)
    have G__law_of := ok__law_of (P := P) (base := base) T
    have hr__law_low : Room 1 _ := hr.mono (by decide)
    have G__law_low := ok__law_low (P := P) (base := base) T
    have hr__law_plus : Room 2 _ := hr.mono (by decide)
    have G__law_plus := ok__law_plusR (P := P) (base := base) T
    refine ⟨_, (pss_cons (ps_set (i := 1) sc__law_points.nd rfl (Or.inl rfl) (pe_lstU (pa_cons (pe_tupU (pa_cons pe_int (pa_cons pe_int pa_nil))) (pa_cons (pe_tupU (pa_cons pe_int (pa_cons pe_int pa_nil))) (pa_cons (pe_tupU (pa_cons pe_int (pa_cons pe_int pa_nil))) (pa_cons (pe_tupU (pa_cons pe_int (pa_cons pe_int pa_nil))) (pa_cons (pe_tupU (pa_cons pe_int (pa_cons pe_int pa_nil))) (pa_cons (pe_tupU (pa_cons pe_int (pa_cons pe_int pa_nil))) (pa_cons (pe_tupU (pa_cons pe_int (pa_cons pe_int pa_nil))) (pa_cons (pe_tupU (pa_cons pe_int (pa_cons pe_int pa_nil))) (pa_cons (pe_tupU (pa_cons pe_int (pa_cons pe_int pa_nil))) (pa_cons (pe_tupU (pa_cons pe_int (pa_cons pe_int pa_nil))) (pa_cons (pe_tupU (pa_cons pe_int (pa_cons pe_int pa_nil))) (pa_cons (pe_tupU (pa_cons pe_int (pa_cons pe_int pa_nil))) pa_nil))))))))))))))
      (pss_cons (ps_set (i := 2) sc__law_points.nd rfl (Or.inl rfl) (pe_call G__law_low hr__law_low (by rfl) T.m__law_low T.F__law_low.kp T.B__law_low .nil pass0 (pa_cons (pe_op op_sub (pe_call G__law_draw hr__law_draw (by rfl) T.m__law_draw T.F__law_draw.kp T.B__law_draw .nil pass0 (pa_cons (pv 0) (pa_cons pe_int pa_nil))) pe_int) (pa_cons (pe_op op_add pe_int (pe_call G__law_draw hr__law_draw (by rfl) T.m__law_draw T.F__law_draw.kp T.B__law_draw .nil pass0 (pa_cons (pv 0) (pa_cons (pe_call G__law_of hr__law_of (by rfl) T.m__law_of T.F__law_of.kp T.B__law_of .nil pass0 (pa_cons (pv 0) (pa_cons (pe_lstU (pa_cons pe_int (pa_cons pe_int (pa_cons pe_int pa_nil)))) pa_nil))) pa_nil)))) pa_nil))))
      (pss_cons (ps_set (i := 3) sc__law_points.nd rfl (Or.inl rfl) (pe_lstU (pa_cons (pv 2) pa_nil)))
      (pss_cons (ps_for PassesOwn.never rfl (pi_range1 (by rfl) T.n_range (pa_cons (pe_call G__law_draw hr__law_draw (by rfl) T.m__law_draw T.F__law_draw.kp T.B__law_draw .nil pass0 (pa_cons (pv 0) (pa_cons pe_int pa_nil))) pa_nil)) (pg_name (i := 4) sc__law_points.nd rfl (Or.inl rfl)) (pss_cons (ps_set (i := 2) sc__law_points.nd rfl (Or.inl rfl) (pe_call G__law_plus hr__law_plus (by rfl) T.m__law_plus T.F__law_plus.kp T.B__law_plus .nil pass0 (pa_cons (pv 2) (pa_cons (pe_call G__law_of hr__law_of (by rfl) T.m__law_of T.F__law_of.kp T.B__law_of .nil pass0 (pa_cons (pv 0) (pa_cons (pv 1) pa_nil))) pa_nil))))
      (pss_one (ps_expr (pe_bm PySem.F.plainAttrs_list PySem.F.slot_list_append PySem.F.type_list_append mt_append (pv 3) (pa_cons (pv 2) pa_nil))))))
      (pss_cons (ps_asg (pe_tupU (pa_cons (pe_call G__law_draw hr__law_draw (by rfl) T.m__law_draw T.F__law_draw.kp T.B__law_draw .nil pass0 (pa_cons (pv 0) (pa_cons pe_int pa_nil))) (pa_cons (pe_call G__law_draw hr__law_draw (by rfl) T.m__law_draw T.F__law_draw.kp T.B__law_draw .nil pass0 (pa_cons (pv 0) (pa_cons pe_int pa_nil))) pa_nil))) (pg_tup rfl (pgs_cons (pg_name (i := 5) sc__law_points.nd rfl (Or.inr rfl)) (pgs_cons (pg_name (i := 6) sc__law_points.nd rfl (Or.inl rfl)) pgs_nil))))
      (pss_cons (ps_setLc (i := 7) (own := [("k", 4)]) (g := gName 4) (tt := tYes) rfl sc__law_points.nd rfl rfl (sw_true rfl rfl rfl (by decide +kernel)) (pi_range1 (by rfl) T.n_range (pa_cons (pe_callB call_len_seq (by rfl) T.n_len (by decide +kernel) (pa_cons (pv 3) pa_nil)) pa_nil)) (blkOk_by (own := [("k", 4)]) (N := N__law_points) (sc := defScope s__law_points) (by decide +kernel)) (fun _ _ _ _ _ => pg_name (i := 4) sc__law_points.nd rfl (Or.inl rfl)) (fun _ _ _ _ _ => pts_nil) (fun _ _ _ _ _ => (pe_op op_add (pe_op op_add (pv 5) (pe_op op_mul pe_int (pv 4))) pe_int)))
      (pss_cons (ps_set (i := 8) sc__law_points.nd rfl (Or.inl rfl) (pe_lstU pa_nil))
      (pss_cons (ps_for PassesOwn.never rfl (pi_enum (by rfl) T.n_enumerate (pa_cons (pv 3) pa_nil)) (pg_tup rfl (pgs_cons (pg_name (i := 4) sc__law_points.nd rfl (Or.inl rfl)) (pgs_cons (pg_name (i := 9) sc__law_points.nd rfl (Or.inl rfl)) pgs_nil))) (pss_one (ps_if (pt_cmpR op_eqI (pv 6) pe_int (nomark _)) (pss_one (ps_expr (pe_bm PySem.F.plainAttrs_list PySem.F.slot_list_append PySem.F.type_list_append mt_append (pv 8) (pa_cons (pe_tupU (pa_cons (pv 9) (pa_cons (pe_op op_add (pv 5) pe_int) pa_nil))) pa_nil)))) (pss_one (ps_if (pt_cmpR op_eqI (pv 6) pe_int (nomark _)) (pss_one (ps_expr (pe_bm PySem.F.plainAttrs_list PySem.F.slot_list_append PySem.F.type_list_append mt_append (pv 8) (pa_cons (pe_tupU (pa_cons (pv 9) (pa_cons (pe_op op_add (pe_op op_add (pv 5) pe_int) (pe_op op_mul pe_int (pe_call G__law_draw hr__law_draw (by rfl) T.m__law_draw T.F__law_draw.kp T.B__law_draw .nil pass0 (pa_cons (pv 0) (pa_cons pe_int pa_nil))))) pa_nil))) pa_nil)))) (pss_one (ps_expr (pe_bm PySem.F.plainAttrs_list PySem.F.slot_list_append PySem.F.type_list_append mt_append (pv 8) (pa_cons (pe_tupU (pa_cons (pv 9) (pa_cons (pe_bm PySem.F.plainAttrs_list PySem.F.slot_list_pop PySem.F.type_list_pop mt_popAt (pv 7) (pa_cons (pe_call G__law_draw hr__law_draw (by rfl) T.m__law_draw T.F__law_draw.kp T.B__law_draw .nil pass0 (pa_cons (pv 0) (pa_cons (pe_callB call_len_seq (by rfl) T.n_len (by decide +kernel) (pa_cons (pv 7) pa_nil)) pa_nil))) pa_nil)) pa_nil))) pa_nil)))))))))
      (pss_one (ps_ret (pe_lstU (pa_cons (pv 8) (pa_cons (pe_op op_add (pe_op op_add (pv 5) (pe_op op_mul pe_int (pe_call G__law_draw hr__law_draw (by rfl) T.m__law_draw T.F__law_draw.kp T.B__law_draw .nil pass0 (pa_cons (pv 0) (pa_cons pe_int pa_nil))))) pe_int) (pa_cons (pe_op op_add (pv 5) (pe_op op_mul pe_int (pe_call G__law_draw hr__law_draw (by rfl) T.m__law_draw T.F__law_draw.kp T.B__law_draw .nil pass0 (pa_cons (pv 0) (pa_cons pe_int pa_nil))))) pa_nil)))))))))))))), ?_⟩
    refine seq_op fun N hN => ?_
    walk_at "rs"
    refine ⟨by decide, fun q1 H1 s1 n1 t1 => ⟨by decide, fun q2 H2 s2 n2 t2 => ⟨by decide, fun q3 H3 s3 n3 t3 => ⟨by decide, fun q4 H4 s4 n4 t4 => ⟨by decide, fun q5 H5 s5 n5 t5 => ⟨by decide, fun q6 H6 s6 n6 t6 => ⟨by decide, fun q7 H7 s7 n7 t7 => ⟨by decide, fun q8 H8 s8 n8 t8 => ⟨by decide, fun q9 H9 s9 n9 t9 => ⟨by decide, fun q10 H10 s10 n10 t10 => ⟨by decide, fun q11 H11 s11 n11 t11 => ⟨by decide, fun q12 H12 s12 n12 t12 => ⟨by decide, fun pl HL sL nL tL => hN _ _ ?_⟩⟩⟩⟩⟩⟩⟩⟩⟩⟩⟩⟩⟩
    clear hN N
    have c12 := sL
    have c11 := Same.trans s12 c12
    have c10 := Same.trans s11 c11
    have c9 := Same.trans s10 c10
    have c8 := Same.trans s9 c9
    have c7 := Same.trans s8 c8
    have c6 := Same.trans s7 c7
    have c5 := Same.trans s6 c6
    have c4 := Same.trans s5 c5
    have c3 := Same.trans s4 c4
    have c2 := Same.trans s3 c3
    have c1 := Same.trans s2 c2
    have sH := Same.trans s1 c1
    have hpool : ∀ y ∈ [V.ref q1, V.ref q2, V.ref q3, V.ref q4, V.ref q5, V.ref q6, V.ref q7, V.ref q8, V.ref q9, V.ref q10, V.ref q11, V.ref q12], PoolAt K HL y := fun y hy => by
      simp only [List.mem_cons, List.not_mem_nil, or_false] at hy
      rcases hy with rfl | rfl | rfl | rfl | rfl | rfl | rfl | rfl | rfl | rfl | rfl | rfl
      · exact ⟨q1, (⟨1, 1, by decide, by decide⟩ : Rat), rfl, .inl (.inl (c1 _ _ t1)), by decide +kernel, by decide +kernel, ⟨9799020, by decide +kernel⟩, by decide +kernel⟩
      · exact ⟨q2, (⟨1, 2, by decide, by decide⟩ : Rat), rfl, .inl (.inl (c2 _ _ t2)), by decide +kernel, by decide +kernel, ⟨4899510, by decide +kernel⟩, by decide +kernel⟩
      · exact ⟨q3, (⟨1, 3, by decide, by decide⟩ : Rat), rfl, .inl (.inl (c3 _ _ t3)), by decide +kernel, by decide +kernel, ⟨3266340, by decide +kernel⟩, by decide +kernel⟩
      · exact ⟨q4, (⟨2, 5, by decide, by decide⟩ : Rat), rfl, .inl (.inl (c4 _ _ t4)), by decide +kernel, by decide +kernel, ⟨3919608, by decide +kernel⟩, by decide +kernel⟩
      · exact ⟨q5, (⟨7, 1, by decide, by decide⟩ : Rat), rfl, .inl (.inl (c5 _ _ t5)), by decide +kernel, by decide +kernel, ⟨68593140, by decide +kernel⟩, by decide +kernel⟩
      · exact ⟨q6, (⟨1, 9999, by decide, by decide⟩ : Rat), rfl, .inl (.inl (c6 _ _ t6)), by decide +kernel, by decide +kernel, ⟨980, by decide +kernel⟩, by decide +kernel⟩
      · exact ⟨q7, (⟨99, 98, by decide, by decide⟩ : Rat), rfl, .inl (.inl (c7 _ _ t7)), by decide +kernel, by decide +kernel, ⟨9899010, by decide +kernel⟩, by decide +kernel⟩
      · exact ⟨q8, (⟨3, 1, by decide, by decide⟩ : Rat), rfl, .inl (.inl (c8 _ _ t8)), by decide +kernel, by decide +kernel, ⟨29397060, by decide +kernel⟩, by decide +kernel⟩
      · exact ⟨q9, (⟨1, 12, by decide, by decide⟩ : Rat), rfl, .inl (.inl (c9 _ _ t9)), by decide +kernel, by decide +kernel, ⟨816585, by decide +kernel⟩, by decide +kernel⟩
      · exact ⟨q10, (⟨100, 1, by decide, by decide⟩ : Rat), rfl, .inl (.inl (c10 _ _ t10)), by decide +kernel, by decide +kernel, ⟨979902000, by decide +kernel⟩, by decide +kernel⟩
      · exact ⟨q11, (⟨1, 1, by decide, by decide⟩ : Rat), rfl, .inl (.inl (c11 _ _ t11)), by decide +kernel, by decide +kernel, ⟨9799020, by decide +kernel⟩, by decide +kernel⟩
      · exact ⟨q12, (⟨5, 6, by decide, by decide⟩ : Rat), rfl, .inl (.inl (c12 _ _ t12)), by decide +kernel, by decide +kernel, ⟨8165850, by decide +kernel⟩, by decide +kernel⟩
    have lpl : [V.ref q1, V.ref q2, V.ref q3, V.ref q4, V.ref q5, V.ref q6, V.ref q7, V.ref q8, V.ref q9, V.ref q10, V.ref q11, V.ref q12].length ≤ 1000000 := by show 12 ≤ 1000000; decide
    have npl : [V.ref q1, V.ref q2, V.ref q3, V.ref q4, V.ref q5, V.ref q6, V.ref q7, V.ref q8, V.ref q9, V.ref q10, V.ref q11, V.ref q12] ≠ [] := List.cons_ne_nil _ _
    generalize [V.ref q1, V.ref q2, V.ref q3, V.ref q4, V.ref q5, V.ref q6, V.ref q7, V.ref q8, V.ref q9, V.ref q10, V.ref q11, V.ref q12] = pool at hpool tL lpl npl
    have BL := B.same sH
    have bpl : pl ≠ b := new_ne (B.same (Same.trans s1 (Same.trans s2 (Same.trans s3 (Same.trans s4 (Same.trans s5 (Same.trans s6 (Same.trans s7 (Same.trans s8 (Same.trans s9 (Same.trans s10 (Same.trans s11 s12)))))))))))) nL
    have KL : Kp b H HL := Kp.of sH
    clear sH sL nL
    clear c1 c2 c3 c4 c5 c6 c7 c8 c9 c10 c11 c12 t1 t2 t3 t4 t5 t6 t7 t8 t9 t10 t11 t12 n1 n2 n3 n4 n5 n6 n7 n8 n9 n10 n11 n12 s1 s2 s3 s4 s5 s6 s7 s8 s9 s10 s11 s12 H1 H2 H3 H4 H5 H6 H7 H8 H9 H10 H11 H12
    refine seq_op fun N hN => ?_
    walk_at "rs"
    refine ⟨b, c, 200, 0, rfl, BL, by decide, by decide, fun p0 H1 p00 p01 B1 K1 => ⟨p0, rfl, by decide, fun l3 H2 s2 n2 t2 => ?_⟩⟩
    refine of_lst (N := 0) (B1.same s2) t2 (new_ne B1 n2) (by simp) (by decide) fun y H3 my B3 K3 => ?_
    obtain ⟨m, rfl, m1, m2⟩ : ∃ m : Int, y = V.int m ∧ 1 ≤ m ∧ m ≤ 9999 := by
      simp only [List.mem_cons, List.not_mem_nil, or_false] at my
      rcases my with rfl | rfl | rfl
      · exact ⟨1, rfl, by decide, by decide⟩
      · exact ⟨3, rfl, by decide, by decide⟩
      · exact ⟨9999, rfl, by decide, by decide⟩
    refine ⟨b, c, m, 0, rfl, B3, by omega, by omega, fun d1 H4 d10 d11 B4 K4 => ⟨d1, rfl, lows (by omega) (pow_le (a := 8) (by omega) (by decide)) (pow_le (a := 14) (by omega) (by decide)) fun t5 H5 s5 n5 t51 => hN _ _ ?_⟩⟩
    clear hN N
    obtain ⟨d, ed⟩ : ∃ d, d = 1 + d1 := ⟨_, rfl⟩
    rw [← ed] at t51
    have dl : 1 ≤ d := by omega
    have du : d ≤ 9999 := by omega
    obtain ⟨f1, f2, f3⟩ := frac_in (a := p0 - 99) dl (by omega) (by omega)
    have hv5 : Fv K H5 t5 (Rat.divInt (p0 - 99) d) := by
      refine Fv.of ?_
      rw [← fr_fq (p0 - 99) (by omega : d ≠ 0)]
      exact t51
    generalize Rat.divInt (p0 - 99) d = r0 at f1 f2 f3 hv5
    have lv0 : Lvs (d * 9799020) 0 [r0] r0 := by
      have new : (∃ X : Int, r0 * ((d * 9799020 : Int) : Rat) = (X : Rat)) := ⟨(p0 - 99) * 9799020, by rw [Rat.intCast_mul, ← Rat.mul_assoc, f1, Rat.intCast_mul]⟩
      refine ⟨rfl, List.pairwise_singleton _ _, fun s hs => by rw [List.mem_singleton.mp hs]; exact Rat.le_refl, fun s hs => by rw [List.mem_singleton.mp hs]; exact ⟨new, f2⟩, new, f2, ?_⟩
      show r0 ≤ 100 + 100 * (0 : Rat)
      grind
    have KK : Kp b HL H5 := Same.trans K1 (Same.trans (Kp.of s2) (Same.trans K3 (Same.trans K4 (Kp.of s5))))
    have B5 := B4.same s5
    have hp5 := Kp.get KK bpl tL
    have pool5 : ∀ y ∈ pool, PoolAt K H5 y := fun y hy => (hpool y hy).kp BL KK
    have K5 := Same.trans KL KK
    clear t51 s5 n5 K4 B4 K3 B3 K1 B1 my s2 n2 t2 KK hpool tL KL BL f1 f2 f3
    refine seq_op fun N hN => ?_
    walk_at "rs"
    refine ⟨by decide, fun so H6 s6 n6 t6 => hN _ _ ?_⟩
    clear hN N
    have B6 := B5.same s6
    have K6 := Same.trans K5 (Kp.of s6)
    have bso : so ≠ b := new_ne B5 n6
    have hso : H so = none := Kp.none K5 B5 n6
    have nps : pl ≠ so := ne_of_none hp5 n6
    have ncs := (B5.ne2 n6)
    have hp6 := s6 _ _ hp5
    have pool6 : ∀ y ∈ pool, PoolAt K H6 y := fun y hy => (pool5 y hy).same s6
    have ra6 : Rats K H6 [V.ref t5] [r0] := .cons (hv5.same s6) .nil
    have hv6 := hv5.same s6
    clear hv5 pool5 s6 n6 hp5 K5 B5
    refine cut_seq (fun σ G => ∃ (x4 : Option V) (at_ : Addr) (xs : List V) (rs : List Rat) (r : Rat) (m : Nat), σ = [some (.ref b), some (.ref pl), some (.ref at_), some (.ref so), x4, none, none, none, none, none] ∧ m ≤ 7 ∧ Bag 0 G b c ∧ Kp b H G ∧ G so = some (.lst xs) ∧ Rats K G xs rs ∧ Lvs (d * 9799020) m rs r) (fun N hN => ?_) ?_
    · walk_at "rs"
      refine ⟨_, rfl, b, c, 8, 0, rfl, B6, by decide, by decide, fun n H7 n0 n1 B7 K7 => ⟨n, rfl, by omega, by omega, for_it walk_range (fun i σ G => ∃ (x4 : Option V) (at_ : Addr) (xs : List V) (rs : List Rat) (r : Rat), σ = [some (.ref b), some (.ref pl), some (.ref at_), some (.ref so), x4, none, none, none, none, none] ∧ Bag 0 G b c ∧ Kp b H G ∧ G pl = some (.lst pool) ∧ (∀ y ∈ pool, PoolAt K G y) ∧ G so = some (.lst xs) ∧ Rats K G xs rs ∧ Lvs (d * 9799020) i rs r ∧ Fv K G at_ r) ⟨_, t5, _, _, r0, rfl, B7, Same.trans K6 K7, Kp.get K7 bpl hp6, fun y hy => (pool6 y hy).kp B6 K7, Kp.get K7 bso t6, ra6.kp B6 K7, lv0, seqT_kp B6 K7 hv6⟩ (fun _ _ _ _ _ => trivial) ?_ ?_⟩⟩
      · rintro i x σ G G' hi ⟨x4, at_, xs, rs, r, rfl, BG, KG, hpG, poolG, hG, ra, lv, hv⟩ ⟨rfl, rfl⟩
        have hi : i < 7 := by omega
        have lra := ra.len
        have lln := lv.ln
        show tSeq _ _ _ [some (V.ref b), some (V.ref pl), some (V.ref at_), some (V.ref so), some (V.int (0 + (i : Int))), none, none, none, none, none] G'
        refine seq_op fun N1 hN1 => ?_
        walk_at "rs"
        refine of_lst (N := 0) BG hpG bpl npl lpl fun y G2 my B2 K2 => ?_
        obtain ⟨a, s1, rfl, hs, s0, s100, sX, sb⟩ := (poolG y my).kp BG K2
        refine ⟨at_, a, r, s1, rfl, seqT_kp BG K2 hv, hs, Nat.le_trans (lv.bits (by omega) dl du) (by decide), by omega, trivial, fun t G3 s3 n3 t3 => hN1 _ _ ?_⟩
        clear hN1 N1
        walk_at "rs"
        have hG3 := s3 _ _ (Kp.get K2 bso hG)
        have nt := notT_lst hG3
        have hv3 : Fv K G3 t (r + s1) := Fv.of t3
        have K23 : Kp b G' G3 := Same.trans K2 (Kp.of s3)
        refine ⟨.inl ⟨rfl, _, SqL.of hG3⟩, xs, hG3, Nat.lt_of_le_of_lt (show xs.length ≤ 8 by omega) (by decide), _, _, ⟨rfl, rfl⟩, (B2.same s3).upd bso.symm ncs.2, Kp.upd2 (Same.trans KG K23) hso, by rw [upd_ne nps]; exact Kp.get K23 bpl hpG, fun y hy => (((poolG y hy).kp BG K2).same s3).updO nt, _, upd_same, rs ++ [r + s1], (((ra.kp BG K2).same s3).updO nt).app (.cons (Fv.updO nt hv3) .nil), r + s1, lv.next s0 s100 sX, Fv.updO nt hv3⟩
      · rintro σ G ⟨x4, at_, xs, rs, r, rfl, BG, KG, hpG, poolG, hG, ra, lv, hv⟩
        exact hN _ _ ⟨x4, at_, xs, rs, r, _, rfl, by omega, BG, KG, hG, ra, lv⟩
    · rintro σ G ⟨x4, at_, xs, rs, r, m, rfl, m7, BG, KG, hG, ra, lv⟩
      refine seq_op fun N hN => ?_
      walk_at "rs"
      refine ⟨b, c, 1900, 0, rfl, BG, by decide, by decide, fun z G1 z0 z1 B1 K1 => ⟨b, c, 3, 0, rfl, B1, by decide, by decide, fun way G2 w0 w1 B2 K2 => ⟨by decide, fun q3 G3 s3 n3 t3 => ?_⟩⟩⟩
      refine g2_at (.inl (.inl t3)) (hN _ _ ?_)
      clear hN N
      have K13 : Kp b G G3 := Same.trans K1 (Same.trans K2 (Kp.of s3))
      have B3 := B2.same s3
      have hG3 := Kp.get K13 bso hG
      have ra3 : Rats K G3 xs rs := ((ra.kp BG K1).kp B1 K2).same s3
      have KG3 := Same.trans KG K13
      have lra := ra3.len
      have lln := lv.ln
      clear K1 K2 K13 B1 B2 s3 n3 t3 ra BG KG hG q3
      refine seq_op fun N hN => ?_
      walk_at "rs"
      refine ⟨_, rfl, so, rfl, xs, .inl (SqL.of hG3), (xs.length : Int), rfl, by omega, by omega, fun D4 hD4 => lc_rngI (n := ((xs.length : Nat) : Int).toNat) (fun i J ys => ∃ zs : List Int, ys = zs.map V.int ∧ Same G3 J ∧ ∀ x ∈ zs, z + 2 ≤ x ∧ x ≤ z + 2 + 3 * (i : Int)) (by omega) ⟨[], rfl, same_upd hD4, fun x h => absurd h (by simp)⟩ (fun i J ys hi hJ hl ⟨zs, ey, sJ, hz⟩ Q2 hq => ?_) fun J ys hJ hl ⟨zs, ey, sJ, hz⟩ => hN _ _ ?_⟩
      · walk_at "rs"
        refine ⟨.inl (by decide), hq _ J hJ ⟨zs ++ [z + 3 * (0 + (i : Int)) + 2], by rw [ey, List.map_append]; rfl, same_updN sJ hD4, fun x hx => ?_⟩⟩
        rcases List.mem_append.mp hx with hx | hx
        · have := hz x hx
          omega
        · rw [List.mem_singleton.mp hx]
          omega
      clear hN N
      subst ey
      rw [List.length_map, Int.toNat_natCast] at hl
      refine seq_op fun N hN => ?_
      walk_at "rs"
      refine ⟨by decide, fun fo G5 s5 n5 t5 => hN _ _ ?_⟩
      clear hN N
      have B5 := (B3.same sJ).same s5
      have K5 : Kp b H G5 := Same.trans KG3 (Kp.of (Same.trans sJ s5))
      have hso5 := s5 _ _ (sJ _ _ hG3)
      have ra5 := (ra3.same sJ).same s5
      have hD5 := s5 _ _ hJ
      have D4b : D4 ≠ b := new_ne B3 hD4
      have fob : fo ≠ b := new_ne (B3.same sJ) n5
      have cD4 : c ≠ D4 := (B3.ne2 hD4).2
      have cfo : c ≠ fo := ((B3.same sJ).ne2 n5).2
      have hD4H : H D4 = none := Kp.none KG3 B3 hD4
      have hfoH : H fo = none := Kp.none (Same.trans KG3 (Kp.of sJ)) (B3.same sJ) n5
      have soD : so ≠ D4 := ne_of_none hG3 hD4
      have sof : so ≠ fo := ne_of_none (sJ _ _ hG3) n5
      have Df : D4 ≠ fo := ne_of_none hJ n5
      clear s5 n5 hJ sJ hD4 KG3 B3 hG3 ra3
      refine cut_seq (fun σ G => ∃ (x4 x9 : Option V) (ys : List V) (ps : List (Rat × Int)), σ = [some (.ref b), some (.ref pl), some (.ref at_), some (.ref so), x4, some (.int z), some (.int way), some (.ref D4), some (.ref fo), x9] ∧ Bag 0 G b c ∧ Kp b H G ∧ G fo = some (.lst ys) ∧ Pts K G ys ps ∧ ps.map (·.1) = rs ∧ ∀ p ∈ ps, z + 2 ≤ p.2 ∧ p.2 ≤ z + 30) (fun N hN => ?_) ?_
      · walk_at "rs"
        refine ⟨_, rfl, so, xs, rfl, SqL.of hso5, for_it walk_enum (fun i σ G => ∃ (x4 x9 : Option V) (ys : List V) (ps : List (Rat × Int)) (pz : List Int), σ = [some (.ref b), some (.ref pl), some (.ref at_), some (.ref so), x4, some (.int z), some (.int way), some (.ref D4), some (.ref fo), x9] ∧ Bag 0 G b c ∧ Kp b H G ∧ G so = some (.lst xs) ∧ Rats K G xs rs ∧ G D4 = some (.lst (pz.map V.int)) ∧ (∀ x ∈ pz, z + 2 ≤ x ∧ x ≤ z + 30) ∧ rs.length ≤ pz.length + i ∧ pz.length ≤ 8 ∧ G fo = some (.lst ys) ∧ Pts K G ys ps ∧ ps.map (·.1) = rs.take i ∧ ∀ p ∈ ps, z + 2 ≤ p.2 ∧ p.2 ≤ z + 30) ⟨_, _, [], [], zs, rfl, B5, K5, hso5, ra5, hD5, fun x hx => by have := hz x hx; omega, by omega, by omega, t5, .nil, rfl, fun p h => absurd h (by simp)⟩ (fun i σ G _ ⟨_, _, _, _, _, _, _, _, h, _⟩ => SqL.of h) ?_ ?_⟩
        · rintro i y σ G G' hi ⟨x4, x9, ys, ps, pz, rfl, BG, KG, hso, ra, hD, hpz, lpz, lpz8, hfo, hps, eps, hcl⟩ ⟨T0, u, v, rfl, hT, rfl, e1, e2⟩
          obtain rfl : u = .int (i : Int) := (Option.some.inj e1).symm
          obtain ⟨pa, r, rfl, er, hr1⟩ := ra.get e2
          have sT : Same G (L2.upd G T0 (.tup [.int (i : Int), .ref pa])) := same_upd hT
          have hT1 : (L2.upd G T0 (.tup [.int (i : Int), .ref pa])) T0 = some (.tup [.int (i : Int), .ref pa]) := upd_same
          generalize L2.upd G T0 (.tup [.int (i : Int), .ref pa]) = G1 at sT hT1 ⊢
          refine g2_at (.inl (.inl hT1)) ?_
          walk_at "rs"
          have il : i < rs.length := by omega
          have lps := hps.len
          have lps2 : ps.length = i := by
            have := congrArg List.length eps
            rw [List.length_map, List.length_take] at this
            omega
          have fin : ∀ (H2 : Hp) (p : Addr) (cc : Int) (pz : List Int), Bag 0 H2 b c → Kp b H H2 → H2 so = some (.lst xs) → Rats K H2 xs rs → H2 D4 = some (.lst (pz.map V.int)) → (∀ x ∈ pz, z + 2 ≤ x ∧ x ≤ z + 30) → rs.length ≤ pz.length + (i + 1) → pz.length ≤ 8 → H2 fo = some (.lst ys) → Pts K H2 ys ps → H2 p = some (.tup [.ref pa, .int cc]) → z + 2 ≤ cc → cc ≤ z + 30 → Fv K H2 pa r →
              ∃ x, H2 fo = some (HO.lst x) ∧ x.length < sizeLine ∧ ∃ x4 x9, (some (V.int (i : Int)) = x4 ∧ some (V.ref pa) = x9) ∧ Bag 0 (L2.upd H2 fo (HO.lst (x ++ [V.ref p]))) b c ∧ Kp b H (L2.upd H2 fo (HO.lst (x ++ [V.ref p]))) ∧ (L2.upd H2 fo (HO.lst (x ++ [V.ref p]))) so = some (HO.lst xs) ∧ Rats K (L2.upd H2 fo (HO.lst (x ++ [V.ref p]))) xs rs ∧ ∃ (x_1 : List V) (x_2 : List (Rat × Int)) (x_3 : List Int), (L2.upd H2 fo (HO.lst (x ++ [V.ref p]))) D4 = some (HO.lst (x_3.map V.int)) ∧ (∀ (x : Int), x ∈ x_3 → z + 2 ≤ x ∧ x ≤ z + 30) ∧ rs.length ≤ x_3.length + (i + 1) ∧ x_3.length ≤ 8 ∧ (L2.upd H2 fo (HO.lst (x ++ [V.ref p]))) fo = some (HO.lst x_1) ∧ Pts K (L2.upd H2 fo (HO.lst (x ++ [V.ref p]))) x_1 x_2 ∧ x_2.map (fun x => x.1) = rs.take (i + 1) ∧ ∀ (p : Rat × Int), p ∈ x_2 → z + 2 ≤ p.2 ∧ p.2 ≤ z + 30 := fun H2 p cc pz B2 K2 h1 h2 h3 h4 h5 h6 h7 h8 h9 c1 c2 hv => by
            have nt := notT_lst h7
            refine ⟨ys, h7, Nat.lt_of_le_of_lt (show ys.length ≤ 8 by omega) (by decide), _, _, ⟨rfl, rfl⟩, B2.upd fob.symm cfo, Kp.upd2 K2 hfoH, by rw [upd_ne sof]; exact h1, h2.updO nt, _, ps ++ [(r, cc)], pz, by rw [upd_ne Df]; exact h3, h4, h5, h6, upd_same, (h8.updO nt).app (.cons (seqT_updO nt (.inl (.inl h9))) (hv.updO nt) .nil), ?_, fun q hq => ?_⟩
            · obtain ⟨hk, e⟩ := List.getElem?_eq_some_iff.mp er
              rw [List.map_append, eps, ← List.take_append_getElem hk, e]
              rfl
            · rcases List.mem_append.mp hq with hq | hq
              · exact hcl q hq
              · rw [List.mem_singleton.mp hq]
                exact ⟨c1, c2⟩
          have B1 := BG.same sT
          have K1 := Same.trans KG (Kp.of sT)
          have so1 := sT _ _ hso
          have ra1 := ra.same sT
          have D1 := sT _ _ hD
          have fo1 := sT _ _ hfo
          have ps1 := hps.same sT
          have rv1 := hr1.same sT
          have t1 : tyV K "list" (V.ref fo) G1 := .inl ⟨rfl, _, SqL.of fo1⟩
          clear sT hT1 BG KG hso ra hD hfo hps hr1 hT
          refine ite2 (fun _ => ?_) (fun _ => ite2 (fun _ => ?_) (fun _ => ?_))
          · exact ⟨t1, by decide, fun p H2 s2 n2 t2 => fin H2 p (z + 5) pz (B1.same s2) (Same.trans K1 (Kp.of s2)) (s2 _ _ so1) (ra1.same s2) (s2 _ _ D1) hpz (by omega) lpz8 (s2 _ _ fo1) (ps1.same s2) t2 (by omega) (by omega) (rv1.same s2)⟩
          · refine ⟨t1, b, c, 3, 0, rfl, B1, by decide, by decide, fun y0 G2 y1 y2 B2 K2 => ⟨y0, rfl, .inl (by decide), by decide, fun p H2 s2 n2 t2 => ?_⟩⟩
            have K3 : Kp b G1 H2 := Same.trans K2 (Kp.of s2)
            exact fin H2 p (z + 2 + 3 * y0) pz (B2.same s2) (Same.trans K1 K3) (Kp.get K3 bso so1) ((ra1.kp B1 K2).same s2) (Kp.get K3 D4b D1) hpz (by omega) lpz8 (Kp.get K3 fob fo1) ((ps1.kp B1 K2).same s2) t2 (by omega) (by omega) (Fv.same s2 (seqT_kp B1 K2 rv1))
          · refine ⟨t1, .inl ⟨rfl, _, SqL.of D1⟩, _, .inl (SqL.of D1), ?_⟩
            rw [List.length_map]
            refine ⟨b, c, _, 0, rfl, B1, by omega, by omega, fun y0 G2 y1 y2 B2 K2 => ?_⟩
            obtain ⟨k1, rfl⟩ : ∃ k1 : Nat, y0 = (k1 : Int) := ⟨y0.toNat, by omega⟩
            have hk1 : k1 < pz.length := by omega
            have e1 : pz[k1]? = some pz[k1] := List.getElem?_eq_getElem hk1
            have D2 := Kp.get K2 D4b D1
            have nt2 := notT_lst D2
            refine ⟨D4, _, _, k1, .int pz[k1], rfl, rfl, D2, by omega, by omega, ixN_nat (by rw [List.length_map]; exact hk1), by rw [List.getElem?_map, e1]; rfl, by decide, fun p H2 s2 n2 t2 => ?_⟩
            have hm := hpz _ (List.getElem_mem hk1)
            have BB := B2.upd (o := .lst ((pz.map V.int).eraseIdx k1)) D4b.symm cD4
            have KK : Kp b H (L2.upd G2 D4 (.lst ((pz.map V.int).eraseIdx k1))) := Kp.upd2 (Same.trans K1 K2) hD4H
            refine fin H2 p pz[k1] (pz.eraseIdx k1) (BB.same s2) (Same.trans KK (Kp.of s2)) (s2 _ _ (by rw [upd_ne soD]; exact Kp.get K2 bso so1)) (((ra1.kp B1 K2).updO nt2).same s2) (s2 _ _ (by rw [upd_same, erase_map])) (fun x hx => hpz x (List.mem_of_mem_eraseIdx hx)) ?_ ?_ (s2 _ _ (by rw [upd_ne Df.symm]; exact Kp.get K2 fob fo1)) (((ps1.kp B1 K2).updO nt2).same s2) t2 hm.1 hm.2 (Fv.same s2 (Fv.updO nt2 (seqT_kp B1 K2 rv1)))
            · rw [List.length_eraseIdx_of_lt hk1]; omega
            · rw [List.length_eraseIdx_of_lt hk1]; omega
        · rintro σ G ⟨x4, x9, ys, ps, pz, rfl, BG, KG, hso, ra, hD, hpz, lpz, lpz8, hfo, hps, eps, hcl⟩
          rw [lra, List.take_length] at eps
          exact hN _ _ ⟨_, _, ys, ps, rfl, BG, KG, hfo, hps, eps, hcl⟩
      · rintro σ G ⟨x4, x9, ys, ps, rfl, BG, KG, hfo, hps, eps, hcl⟩
        walk_at "rs"
        refine ⟨b, c, 20, 0, rfl, BG, by decide, by decide, fun y0 G2 y1 y2 B2 K2 => ⟨y0, rfl, .inl (by decide), b, c, 20, 0, rfl, B2, by decide, by decide, fun w3 G3 w4 w5 B3 K3 => ⟨w3, rfl, .inl (by decide), by decide, fun q H4 s4 n4 t4 => ?_⟩⟩⟩
        have lps : ps.length = m + 1 := by
          have := congrArg List.length eps
          rw [List.length_map] at this
          omega
        have lin := lv.in m7
        have K4 : Kp b G H4 := Same.trans K2 (Same.trans K3 (Kp.of s4))
        refine k q fo ys ps (d * 9799020) _ _ H4 (B3.same s4) (Same.trans KG K4) t4 (new_ne B3 n4) (Kp.get K4 fob hfo) fob (((hps.kp BG K2).kp B2 K3).same s4) ⟨by omega, by omega, by omega, by omega, fun p hp => lin _ (by rw [← eps]; exact List.mem_map_of_mem hp), by rw [eps]; exact lv.up, fun p hp => ?_, ⟨by omega, by omega⟩, ⟨by omega, by omega⟩, by omega⟩
        have := hcl p hp
        exact ⟨by omega, by omega⟩
end
end LK

set_option Elab.async false
set_option linter.all false
set_option maxRecDepth 100000
namespace LK
open PySem PySem.Spec PyProof.Rows L2
local macro_rules | `(tactic| walk_at "rs") => `(tactic| simp only [cxK, cxNK, tCallZ, tAsg, tOp, rI0, rS0, rB0, rI, rU, tUn, rEq, rNe, rIxL, rIxT, rIxS, rSetL, rSlLU, rSlS, rSlU, rCatL, rCatU, rRepL, rIn, tVar, tC, gName, gSub, tIfS, tTest, tB, tAnd, tOr, tNot, tNotV, tAndV, tOrV, tIf, tCall, tCons, tNil, tCB, tDrop, tRet, tRetN, tNext, tLstU, tTupU, tM0, tM1, tPar, tPar3, tAug, ipI, tBM, tBM0, rAppend, rPop, tBreak, sDPut, tDGet, tDGet2, tCont, tChain, tSl, tPart, tNoPart, L2.start, List.map, List.length_cons, List.length_nil, List.replicate, List.cons_append, List.nil_append, List.append_nil, List.getElem?_cons_zero, List.getElem?_cons_succ, List.set_cons_zero, List.set_cons_succ, Option.some.injEq, V.int.injEq, V.ref.injEq, V.str.injEq, V.bl.injEq, exists_eq_left', exists_eq_left, exists_and_left, decide_eq_true_eq, List.cons.injEq, and_true, true_and, scal, Bool.not_eq_true', decide_eq_false_iff_not, Nat.zero_add, Nat.reduceAdd, Nat.reduceSub, reduceCtorEq, false_and, exists_false, false_or, or_false, CPow, CPowW, CMul, CDiv, Int.reduceToNat, ↓reduceIte, wipe, sw, rv3, tListKeys, tDIn, tDNotIn, List.nil_append, List.singleton_append])
local macro_rules | `(tactic| walk_at "st") => `(tactic| (refine seq_op fun N hN => ?_; walk_at "rs"))
local macro_rules | `(tactic| walk_at "sd") => `(tactic| first | assumption | decide | omega)
local macro_rules | `(tactic| walk_at "rd") => `(tactic| repeat (first
  | refine ⟨_, SqL.of (by assumption), ?_⟩ | refine ⟨_, SqL.of upd_same, ?_⟩ | refine ⟨_, .inl (SqL.of (by assumption)), ?_⟩ | refine ⟨_, (by assumption : _ = some (HO.lst _)), ?_⟩ | refine ⟨_, upd_same, ?_⟩
  | refine ⟨_, rfl, ?_⟩ | refine And.intro (by walk_at "sd") ?_))

/-! ### sums over places -/
def sumN (f : Nat → Rat) : Nat → Rat
  | 0 => 0
  | N + 1 => sumN f N + f N
theorem sumN_add (f g : Nat → Rat) : ∀ N, sumN (fun j => f j + g j) N = sumN f N + sumN g N
  | 0 => by show (0 : Rat) = 0 + 0; grind
  | N + 1 => by
    show sumN (fun j => f j + g j) N + (f N + g N) = (sumN f N + f N) + (sumN g N + g N)
    rw [sumN_add f g N]
    grind
theorem sumN_congr {f g : Nat → Rat} : ∀ {N}, (∀ j, j < N → f j = g j) → sumN f N = sumN g N
  | 0, _ => rfl
  | N + 1, h => by
    show sumN f N + f N = sumN g N + g N
    rw [sumN_congr (N := N) fun j hj => h j (by omega), h N (by omega)]
theorem sumN_zero {f : Nat → Rat} : ∀ {N}, (∀ j, j < N → f j = 0) → sumN f N = 0
  | 0, _ => rfl
  | N + 1, h => by
    show sumN f N + f N = 0
    rw [sumN_zero (N := N) fun j hj => h j (by omega), h N (by omega)]
    grind
def at3 (m : Nat) (a b c : Rat) (j : Nat) : Rat := if j = m then a else if j = m + 1 then b else if j = m + 2 then c else 0
theorem sum3 (f : Nat → Rat) (m : Nat) (a b c : Rat) : ∀ k, sumN (fun j => f j * at3 m a b c j) (m + 3 + k) = f m * a + f (m + 1) * b + f (m + 2) * c
  | 0 => by
    show ((sumN (fun j => f j * at3 m a b c j) m + f m * at3 m a b c m) + f (m + 1) * at3 m a b c (m + 1)) + f (m + 2) * at3 m a b c (m + 2) = _
    rw [sumN_zero fun j hj => by
      unfold at3
      rw [if_neg (by omega), if_neg (by omega), if_neg (by omega), Rat.mul_zero]]
    have e0 : at3 m a b c m = a := if_pos rfl
    have e1 : at3 m a b c (m + 1) = b := by unfold at3; rw [if_neg (by omega), if_pos rfl]
    have e2 : at3 m a b c (m + 2) = c := by unfold at3; rw [if_neg (by omega), if_neg (by omega), if_pos rfl]
    rw [e0, e1, e2]
    grind
  | k + 1 => by
    show sumN (fun j => f j * at3 m a b c j) (m + 3 + k) + f (m + 3 + k) * at3 m a b c (m + 3 + k) = _
    rw [sum3 f m a b c k]
    have e : at3 m a b c (m + 3 + k) = 0 := by unfold at3; rw [if_neg (by omega), if_neg (by omega), if_neg (by omega)]
    rw [e]
    grind
def relu (r : Rat) : Rat := if 0 < r then r else 0
/-- three bends make a tent -/
theorem tent_relu {lo top hi x : Rat} (h1 : lo < top) (h2 : top < hi) : relu (x - lo) * (1 / (top - lo)) + relu (x - top) * (0 - (1 / (top - lo) + 1 / (hi - top))) + relu (x - hi) * (1 / (hi - top)) = tent lo top hi x := by
  have n1 : top - lo ≠ 0 := by grind
  have n2 : hi - top ≠ 0 := by grind
  unfold relu tent
  by_cases c1 : x ≤ lo
  · rw [if_neg (by grind), if_neg (by grind), if_neg (by grind), if_pos (.inl c1)]
    grind
  · by_cases c2 : x ≤ top
    · rw [if_pos (by grind), if_neg (by grind), if_neg (by grind), if_neg (by grind), if_pos c2]
      grind
    · by_cases c3 : x < hi
      · rw [if_pos (by grind), if_pos (by grind), if_neg (by grind), if_neg (by grind), if_neg c2]
        grind
      · have c4 : hi ≤ x := Rat.not_lt.mp c3
        by_cases c5 : 0 < x - hi
        · rw [if_pos (by grind), if_pos (by grind), if_pos c5, if_pos (.inr c4)]
          grind
        · rw [if_pos (by grind), if_pos (by grind), if_neg c5, if_pos (.inr c4)]
          grind
theorem coef_at3 (l : Nat → Rat) (m j : Nat) : coef l m j = at3 m (pu l m) (0 - (pu l m + pu l (m + 1))) (pu l (m + 1)) j := rfl
theorem sum_tents {ps : List (Rat × Int)} {D scratch rest : Int} (ok : PtsOk ps D scratch rest) (x : Rat) (c : Int) : ∀ m, m ≤ ps.length → sumN (fun j => relu (x - lvf ps j) * accR (gvs (lvf ps) (clf ps) m j) [c]) (ps.length + 2) = accR (dueI ps x m) [c]
  | 0, _ => sumN_zero fun j _ => by show _ * (0 : Rat) = 0; rw [Rat.mul_zero]
  | m + 1, hm => by
    have ih := sum_tents ok x c m (by omega)
    have e : sumN (fun j => relu (x - lvf ps j) * accR (gvs (lvf ps) (clf ps) (m + 1) j) [c]) (ps.length + 2) = sumN (fun j => relu (x - lvf ps j) * accR (gvs (lvf ps) (clf ps) m j) [c] + relu (x - lvf ps j) * (if [clf ps m] = [c] then coef (lvf ps) m j else 0)) (ps.length + 2) := sumN_congr fun j _ => by
      rw [gvs_acc]
      grind
    rw [e, sumN_add, ih]
    have ed : dueI ps x (m + 1) = dueI ps x m ++ [([clf ps m], fq (tent (lvf ps m) (lvf ps (m + 1)) (lvf ps (m + 2)) x))] := by
      unfold dueI
      rw [List.range_succ, List.map_append]
      rfl
    rw [ed, accR_snoc, rt_fq]
    by_cases q : [clf ps m] = [c]
    · have e2 : sumN (fun j => relu (x - lvf ps j) * (if [clf ps m] = [c] then coef (lvf ps) m j else 0)) (ps.length + 2) = sumN (fun j => relu (x - lvf ps j) * at3 m (pu (lvf ps) m) (0 - (pu (lvf ps) m + pu (lvf ps) (m + 1))) (pu (lvf ps) (m + 1)) j) (m + 3 + (ps.length - 1 - m)) := by
        rw [show m + 3 + (ps.length - 1 - m) = ps.length + 2 by omega]
        exact sumN_congr fun j _ => by rw [if_pos q]; rfl
      rw [e2, sum3 (fun j => relu (x - lvf ps j)), if_pos q]
      have := tent_relu (x := x) (lvf_up ok (i := m) (j := m + 1) (by omega) (by omega)) (lvf_up ok (i := m + 1) (j := m + 2) (by omega) (by omega))
      unfold pu
      rw [← this]
    · rw [sumN_zero fun j _ => by rw [if_neg q, Rat.mul_zero], if_neg q]
end LK

set_option Elab.async false
set_option linter.all false
set_option maxRecDepth 100000
namespace LK
open PySem PySem.Spec PyProof.Rows L2
local macro_rules | `(tactic| walk_at "rs") => `(tactic| simp only [cxK, cxNK, tCallZ, tAsg, tOp, rI0, rS0, rB0, rI, rU, tUn, rEq, rNe, rIxL, rIxT, rIxS, rSetL, rSlLU, rSlS, rSlU, rCatL, rCatU, rRepL, rIn, tVar, tC, gName, gSub, tIfS, tTest, tB, tAnd, tOr, tNot, tNotV, tAndV, tOrV, tIf, tCall, tCons, tNil, tCB, tDrop, tRet, tRetN, tNext, tLstU, tTupU, tM0, tM1, tPar, tPar3, tAug, ipI, tBM, tBM0, rAppend, rPop, tBreak, sDPut, tDGet, tDGet2, tCont, tChain, tSl, tPart, tNoPart, L2.start, List.map, List.length_cons, List.length_nil, List.replicate, List.cons_append, List.nil_append, List.append_nil, List.getElem?_cons_zero, List.getElem?_cons_succ, List.set_cons_zero, List.set_cons_succ, Option.some.injEq, V.int.injEq, V.ref.injEq, V.str.injEq, V.bl.injEq, exists_eq_left', exists_eq_left, exists_and_left, decide_eq_true_eq, List.cons.injEq, and_true, true_and, scal, Bool.not_eq_true', decide_eq_false_iff_not, Nat.zero_add, Nat.reduceAdd, Nat.reduceSub, reduceCtorEq, false_and, exists_false, false_or, or_false, CPow, CPowW, CMul, CDiv, Int.reduceToNat, ↓reduceIte, wipe, sw, rv3, tListKeys, tDIn, tDNotIn, List.nil_append, List.singleton_append])
local macro_rules | `(tactic| walk_at "st") => `(tactic| (refine seq_op fun N hN => ?_; walk_at "rs"))
local macro_rules | `(tactic| walk_at "sd") => `(tactic| first | assumption | decide | omega)
local macro_rules | `(tactic| walk_at "rd") => `(tactic| repeat (first
  | refine ⟨_, SqL.of (by assumption), ?_⟩ | refine ⟨_, SqL.of upd_same, ?_⟩ | refine ⟨_, .inl (SqL.of (by assumption)), ?_⟩ | refine ⟨_, (by assumption : _ = some (HO.lst _)), ?_⟩ | refine ⟨_, upd_same, ?_⟩
  | refine ⟨_, rfl, ?_⟩ | refine And.intro (by walk_at "sd") ?_))

theorem accR_shift (k : List Int) : ∀ (b : List It) (r : Rat), b.foldl (fun acc it => if it.1 = k then acc + rt it.2 else acc) r = r + accR b k
  | [], r => by show r = r + 0; rw [Rat.add_zero]
  | it :: b, r => by
    unfold accR
    simp only [List.foldl_cons]
    by_cases e : it.1 = k
    · rw [if_pos e, if_pos e, accR_shift k b (r + rt it.2), accR_shift k b (0 + rt it.2), Rat.zero_add, Rat.add_assoc]
    · rw [if_neg e, if_neg e, accR_shift k b r]
      rfl
theorem accR_app (a b : List It) (k : List Int) : accR (a ++ b) k = accR a k + accR b k := by
  show (a ++ b).foldl _ 0 = _
  rw [List.foldl_append]
  exact accR_shift k b _
theorem accR_sing (it : It) (k : List Int) : accR [it] k = if it.1 = k then rt it.2 else 0 := by
  unfold accR
  simp only [List.foldl_cons, List.foldl_nil]
  split
  · rw [Rat.zero_add]
  · rfl
theorem accR_cons (it : It) (b : List It) (k : List Int) : accR (it :: b) k = (if it.1 = k then rt it.2 else 0) + accR b k := by
  rw [show it :: b = [it] ++ b from rfl, accR_app, accR_sing]
theorem accR_at : ∀ {l : List It} {x : It}, (l.map (·.1)).Nodup → x ∈ l → accR l x.1 = rt x.2
  | [], _, _, h => by cases h
  | a :: l, x, nd, h => by
    rw [List.map_cons, List.nodup_cons] at nd
    rw [accR_cons]
    rcases List.mem_cons.mp h with rfl | h
    · rw [if_pos rfl, (accF_none fun y hy e => nd.1 (List.mem_map.mpr ⟨y, hy, e⟩)).2, Rat.add_zero]
    · rw [if_neg fun e => nd.1 (List.mem_map.mpr ⟨x, h, e.symm⟩), Rat.zero_add]
      exact accR_at nd.2 h
theorem nd_perm {α : Type} [DecidableEq α] : ∀ {l m : List α}, l.Nodup → m.Nodup → (∀ x, x ∈ l ↔ x ∈ m) → l.Perm m
  | [], [], _, _, _ => .nil
  | [], b :: m, _, _, h => by have := (h b).mpr List.mem_cons_self; cases this
  | a :: l, m, hl, hm, h => by
    rw [List.nodup_cons] at hl
    have ha : a ∈ m := (h a).mp List.mem_cons_self
    have p : m.Perm (a :: m.erase a) := List.perm_cons_erase ha
    refine List.Perm.trans (List.Perm.cons a (nd_perm hl.2 (hm.erase a) fun x => ?_)) p.symm
    rw [hm.mem_erase_iff]
    constructor
    · intro hx
      exact ⟨fun e => hl.1 (e ▸ hx), (h x).mp (List.mem_cons_of_mem _ hx)⟩
    · rintro ⟨ne, hx⟩
      rcases List.mem_cons.mp ((h x).mpr hx) with e | hx
      · exact absurd e ne
      · exact hx
theorem norm_nd {R : List Int → Rat} {l : List It} (h : Norm R l) : l.Nodup := h.srt.imp fun hab e => by
  rw [e] at hab
  omega
theorem nd_of_map {α β : Type} {f : α → β} : ∀ {l : List α}, (l.map f).Nodup → l.Nodup
  | [], _ => List.nodup_nil
  | a :: l, h => by
    rw [List.map_cons, List.nodup_cons] at h
    exact List.nodup_cons.mpr ⟨fun m => h.1 (List.mem_map_of_mem m), nd_of_map h.2⟩
theorem norm_perm {items its : List It} (nd : (items.map (·.1)).Nodup) (hl : ∀ x ∈ items, low x.2 ∧ x.2.1 ≠ 0) (h : Norm (accR items) its) : its.Perm items := by
  refine nd_perm (norm_nd h) (nd_of_map nd) fun x => ⟨fun hx => ?_, fun hx => ?_⟩
  · obtain ⟨a1, a2, a3⟩ := h.it x hx
    have : ∃ y ∈ items, y.1 = x.1 := Classical.byContradiction fun n => a2 ((rt_null a1).mp (a3.trans (accF_none fun it hit e => n ⟨it, hit, e⟩).2))
    obtain ⟨y, hy, e⟩ := this
    have e2 := accR_at nd hy
    rw [e] at e2
    have : x.2 = y.2 := rt_eq a1 (hl y hy).1 (a3.trans e2)
    rw [show x = y from Prod.ext e.symm this]
    exact hy
  · obtain ⟨l1, n1⟩ := hl x hx
    have e := accR_at nd hx
    obtain ⟨f, hf⟩ := h.all x.1 (by rw [e]; exact fun z => n1 ((rt_null l1).mp z))
    obtain ⟨b1, b2, b3⟩ := h.it _ hf
    have : x.2 = f := rt_eq l1 b1 (e.symm.trans b3.symm)
    rw [show x = (x.1, f) from Prod.ext rfl this]
    exact hf
theorem tms_spots {r : List Int} {rest : Int} (nd : r.Nodup) (h : rest ∉ r) (m : Int) : ((tms r rest m).map (·.1)).Nodup := by
  unfold tms
  rw [List.map_append, List.map_map]
  refine List.nodup_append.mpr ⟨?_, by simp, fun x hx y hy e => ?_⟩
  · refine List.pairwise_map.mpr (nd.imp fun {a b} h e => h ?_)
    have e : [a] = [b] := e
    injection e
  · obtain ⟨c, hc, rfl⟩ := List.mem_map.mp hx
    obtain rfl := List.mem_singleton.mp hy
    have e : [c] = [rest] := e
    injection e with e
    exact h (e ▸ hc)
theorem tms_nz {r : List Int} {rest m : Int} (hm : m ≠ 0) : ∀ x ∈ tms r rest m, low x.2 ∧ x.2.1 ≠ 0 := fun x hx => by
  rcases List.mem_append.mp hx with hx | hx
  · obtain ⟨c, _, rfl⟩ := List.mem_map.mp hx
    exact ⟨low_one, (by decide : (1 : Int) ≠ 0)⟩
  · obtain rfl := List.mem_singleton.mp hx
    exact ⟨low_int _, show -m ≠ 0 by omega⟩
/-- a normal form has its own sums -/
theorem norm_keys {R : List Int → Rat} {l : List It} (h : Norm R l) : (l.map (·.1)).Nodup := List.pairwise_map.mpr (h.srt.imp fun {a b} hab e => by
  have : cd a.1 = cd b.1 := congrArg cd e
  omega)
theorem accR_norm {R : List Int → Rat} {l : List It} (h : Norm R l) (k : List Int) : accR l k = R k := by
  by_cases c : ∃ x ∈ l, x.1 = k
  · obtain ⟨x, hx, rfl⟩ := c
    rw [accR_at (norm_keys h) hx]
    exact (h.it x hx).2.2
  · rw [(accF_none fun it hit e => c ⟨it, hit, e⟩).2]
    refine Classical.byContradiction fun n => ?_
    obtain ⟨f, hf⟩ := h.all k fun z => n z.symm
    exact c ⟨_, hf, rfl⟩
/-- sizes in a normal form of few sums -/
theorem norm_wt {items l : List It} {B : Nat} (hl : ∀ it ∈ items, low it.2) (hw : ∀ k, wtS items k ≤ B) (h : Norm (accR items) l) : ∀ x ∈ l, wt x.2 ≤ B := fun x hx => by
  obtain ⟨a1, a2, a3⟩ := h.it x hx
  obtain ⟨b1, b2, b3⟩ := accF_spec hl x.1
  rw [rt_eq a1 b1 (a3.trans b2.symm)]
  exact Nat.le_trans b3 (hw _)
theorem take_bits {l : List It} {B : Nat} (nd : (l.map (·.1)).Nodup) (hl : ∀ x ∈ l, low x.2 ∧ wt x.2 ≤ B) (hB : 1 ≤ B) (m : Nat) (k : List Int) : bits (accR (l.take m) k) ≤ B := by
  have nd2 : ((l.take m).map (·.1)).Nodup := (List.Sublist.map _ (List.take_sublist m l)).nodup nd
  by_cases c : ∃ x ∈ l.take m, x.1 = k
  · obtain ⟨x, hx, rfl⟩ := c
    rw [accR_at nd2 hx]
    obtain ⟨a, b⟩ := hl x (List.mem_of_mem_take hx)
    unfold bits
    rw [fq_rt a]
    exact b
  · rw [(accF_none fun it hit e => c ⟨it, hit, e⟩).2]
    exact hB
/-- the sorts of content -/
def ct (mark last : Int) (x q : Rat) (c : Int) : Rat := if c = mark then x else if c = last then q else 0
theorem pair_perm {α : Type} {l : List α} {a b : α} (h : l.Perm [a, b]) : l = [a, b] ∨ l = [b, a] := by
  match l, h.length_eq, h with
  | [x, y], _, h =>
    have hx : x ∈ [a, b] := h.mem_iff.mp List.mem_cons_self
    rcases List.mem_cons.mp hx with rfl | hx
    · have := (List.perm_cons x).mp h
      rw [List.perm_singleton.mp this]
      exact .inl rfl
    · obtain rfl := List.mem_singleton.mp hx
      have h2 : [x, y].Perm [x, a] := h.trans (List.Perm.swap _ _ _)
      have := (List.perm_cons x).mp h2
      rw [List.perm_singleton.mp this]
      exact .inr rfl
def two (mark last s : Int) : List It := [([mark], fq 1), ([last], fq ((-s : Int) : Rat))]
theorem tms_two (mark last s : Int) : tms [mark] last s = two mark last s := rfl
theorem hgt_two {mark last s : Int} (ne : mark ≠ last) {x q sh : Rat} {its : List It} (h : its.Perm (two mark last s)) : hgt (ct mark last x q) sh its = sh + x + q * (0 - (s : Rat)) ∧ ∀ j, hgt (ct mark last x q) sh (its.take j) = sh ∨ hgt (ct mark last x q) sh (its.take j) = sh + x ∨ hgt (ct mark last x q) sh (its.take j) = sh + q * (0 - (s : Rat)) ∨ hgt (ct mark last x q) sh (its.take j) = sh + x + q * (0 - (s : Rat)) := by
  have e1 : ct mark last x q mark = x := if_pos rfl
  have e2 : ct mark last x q last = q := by unfold ct; rw [if_neg ne.symm, if_pos rfl]
  have r1 : rt (fq 1) = 1 := rt_fq 1
  have r2 : rt (fq ((-s : Int) : Rat)) = 0 - (s : Rat) := by rw [rt_fq, Rat.intCast_neg]; grind
  rcases pair_perm h with rfl | rfl
  · have f2 : hgt (ct mark last x q) sh [([mark], fq 1), ([last], fq ((-s : Int) : Rat))] = sh + x + q * (0 - (s : Rat)) := by
      show (sh + ct mark last x q mark * rt (fq 1)) + ct mark last x q last * rt (fq ((-s : Int) : Rat)) = _
      rw [e1, e2, r1, r2]
      grind
    have f1 : hgt (ct mark last x q) sh [([mark], fq 1)] = sh + x := by
      show sh + ct mark last x q mark * rt (fq 1) = _
      rw [e1, r1]
      grind
    refine ⟨f2, fun j => ?_⟩
    match j with
    | 0 => exact .inl rfl
    | 1 => exact .inr (.inl f1)
    | j + 2 => exact .inr (.inr (.inr (by rw [List.take_of_length_le (by simp)]; exact f2)))
  · have f2 : hgt (ct mark last x q) sh [([last], fq ((-s : Int) : Rat)), ([mark], fq 1)] = sh + x + q * (0 - (s : Rat)) := by
      show (sh + ct mark last x q last * rt (fq ((-s : Int) : Rat))) + ct mark last x q mark * rt (fq 1) = _
      rw [e1, e2, r1, r2]
      grind
    have f1 : hgt (ct mark last x q) sh [([last], fq ((-s : Int) : Rat))] = sh + q * (0 - (s : Rat)) := by
      show sh + ct mark last x q last * rt (fq ((-s : Int) : Rat)) = _
      rw [e2, r2]
    refine ⟨f2, fun j => ?_⟩
    match j with
    | 0 => exact .inl rfl
    | 1 => exact .inr (.inr (.inl f1))
    | j + 2 => exact .inr (.inr (.inr (by rw [List.take_of_length_le (by simp)]; exact f2)))
/-- a unit of peaks, as the gifts read it -/
structure PuU (ps : List (Rat × Int)) (mark last : Int) (j : Nat) (u : GU) : Prop where
  t : u.1.Perm (two mark last (stp ps))
  s : u.2.1 = 0 - lvf ps j
  g : Norm (accR (gvs (lvf ps) (clf ps) ps.length j)) u.2.2
  l : u.2.2.length < 64
theorem list_of {K : PySem.W.Frag} {H : Hp} {Φ : Nat → GU → Prop} : ∀ (us : List V) (k : Nat), (∀ j v, us[j]? = some v → ∃ u, GuAt K H v u ∧ Φ (k + j) u) → ∃ us' : List GU, GUs K H us us' ∧ us'.length = us.length ∧ ∀ j u, us'[j]? = some u → Φ (k + j) u
  | [], _, _ => ⟨[], .nil, rfl, fun j u h => by simp at h⟩
  | v :: us, k, h => by
    obtain ⟨u, hu, pu⟩ := h 0 v rfl
    obtain ⟨us', g, l, hg⟩ := list_of (Φ := Φ) us (k + 1) fun j w hw => by
      obtain ⟨u, a, b⟩ := h (j + 1) w hw
      exact ⟨u, a, by rw [show k + 1 + j = k + (j + 1) by omega]; exact b⟩
    refine ⟨u :: us', .cons hu g, congrArg Nat.succ l, fun j w hw => ?_⟩
    cases j with
    | zero =>
      obtain rfl := Option.some.inj hw
      exact pu
    | succ j =>
      rw [show k + (j + 1) = k + 1 + j by omega]
      exact hg j w hw
theorem PU.gus {K : PySem.W.Frag} {H : Hp} {us : List V} {ps : List (Rat × Int)} {D mark last : Int} (ok : PtsOk ps D mark last) (q : PU K H us ps mark last) : ∃ us' : List GU, GUs K H us us' ∧ us'.length = ps.length + 2 ∧ ∀ j u, us'[j]? = some u → PuU ps mark last j u := by
  obtain ⟨us', g, l, h⟩ := list_of (Φ := PuU ps mark last) us 0 fun j v hv => by
    obtain ⟨p, a, sh, g, ys, gs, its, gits, e, h1, h2, h3, h4, h5, h6, h7, h8, h9, h10⟩ := q.at_ j v hv
    obtain ⟨st1, st2, _⟩ := stp_in ok
    refine ⟨(its, 0 - lvf ps j, gits), ⟨p, a, sh, g, ys, gs, e, h1, h2, h3, h6, h7, h8⟩, ?_, by rw [Nat.zero_add], by rw [Nat.zero_add]; exact h9, h10⟩
    have := norm_perm (tms_spots (r := [mark]) (rest := last) (by simp) (fun m => ok.ne.symm (List.mem_singleton.mp m)) (stp ps)) (tms_nz (by omega)) h4
    exact this
  exact ⟨us', g, l.trans q.ln, fun j u hj => by have := h j u hj; rw [Nat.zero_add] at this; exact this⟩
end LK

set_option Elab.async false
set_option linter.all false
set_option maxRecDepth 100000
namespace LK
open PySem PySem.Spec PyProof.Rows L2
local macro_rules | `(tactic| walk_at "rs") => `(tactic| simp only [cxK, cxNK, tCallZ, tAsg, tOp, rI0, rS0, rB0, rI, rU, tUn, rEq, rNe, rIxL, rIxT, rIxS, rSetL, rSlLU, rSlS, rSlU, rCatL, rCatU, rRepL, rIn, tVar, tC, gName, gSub, tIfS, tTest, tB, tAnd, tOr, tNot, tNotV, tAndV, tOrV, tIf, tCall, tCons, tNil, tCB, tDrop, tRet, tRetN, tNext, tLstU, tTupU, tM0, tM1, tPar, tPar3, tAug, ipI, tBM, tBM0, rAppend, rPop, tBreak, sDPut, tDGet, tDGet2, tCont, tChain, tSl, tPart, tNoPart, L2.start, List.map, List.length_cons, List.length_nil, List.replicate, List.cons_append, List.nil_append, List.append_nil, List.getElem?_cons_zero, List.getElem?_cons_succ, List.set_cons_zero, List.set_cons_succ, Option.some.injEq, V.int.injEq, V.ref.injEq, V.str.injEq, V.bl.injEq, exists_eq_left', exists_eq_left, exists_and_left, decide_eq_true_eq, List.cons.injEq, and_true, true_and, scal, Bool.not_eq_true', decide_eq_false_iff_not, Nat.zero_add, Nat.reduceAdd, Nat.reduceSub, reduceCtorEq, false_and, exists_false, false_or, or_false, CPow, CPowW, CMul, CDiv, Int.reduceToNat, ↓reduceIte, wipe, sw, rv3, tListKeys, tDIn, tDNotIn, List.nil_append, List.singleton_append])
local macro_rules | `(tactic| walk_at "st") => `(tactic| (refine seq_op fun N hN => ?_; walk_at "rs"))
local macro_rules | `(tactic| walk_at "sd") => `(tactic| first | assumption | decide | omega)
local macro_rules | `(tactic| walk_at "rd") => `(tactic| repeat (first
  | refine ⟨_, SqL.of (by assumption), ?_⟩ | refine ⟨_, SqL.of upd_same, ?_⟩ | refine ⟨_, .inl (SqL.of (by assumption)), ?_⟩ | refine ⟨_, (by assumption : _ = some (HO.lst _)), ?_⟩ | refine ⟨_, upd_same, ?_⟩
  | refine ⟨_, rfl, ?_⟩ | refine And.intro (by walk_at "sd") ?_))

theorem ct_bits {mark last : Int} {x q : Rat} (hx : bits x ≤ 104) (hq : q = 0 ∨ q = 1) (c : Int) : bits (ct mark last x q c) ≤ 104 := by
  unfold ct
  split
  · exact hx
  · split
    · rcases hq with rfl | rfl <;> decide
    · decide
theorem rest_bits {s : Int} {q : Rat} (h1 : 3 ≤ s) (h2 : s ≤ 2005) (hq : q = 0 ∨ q = 1) : bits (q * (0 - (s : Rat))) ≤ 11 := by
  rcases hq with rfl | rfl
  · rw [Rat.zero_mul]
    decide
  · rw [show (1 : Rat) * (0 - (s : Rat)) = ((-s : Int) : Rat) by rw [Rat.intCast_neg]; grind]
    exact bits_int (by decide) (by omega)
section
variable {ps : List (Rat × Int)} {D mark last : Int} {us : List GU} {x q : Rat}
theorem hgt_bits (ok : PtsOk ps D mark last) (hx : bits x ≤ 104) (hq : q = 0 ∨ q = 1) {j : Nat} (hj : j < ps.length + 2) {u : GU} (pu : PuU ps mark last j u) : bits (hgt (ct mark last x q) u.2.1 u.1) ≤ 166 ∧ ∀ m, bits (hgt (ct mark last x q) u.2.1 (u.1.take m)) ≤ 166 := by
  obtain ⟨st1, st2, _⟩ := stp_in ok
  obtain ⟨e, h⟩ := hgt_two ok.ne (x := x) (q := q) (sh := u.2.1) pu.t
  have bs : bits u.2.1 ≤ 49 := by
    rw [pu.s, show (0 : Rat) - lvf ps j = -lvf ps j by grind, bits_neg]
    exact (lvf_lv ok hj).bits ok.d0 ok.d1
  have br := rest_bits st1 st2 hq
  have a1 := bits_add u.2.1 x
  have a2 := bits_add u.2.1 (q * (0 - (stp ps : Rat)))
  have a3 := bits_add (u.2.1 + x) (q * (0 - (stp ps : Rat)))
  refine ⟨by rw [e]; omega, fun m => ?_⟩
  rcases h m with h | h | h | h <;> (rw [h]; omega)
theorem gits_ok (ok : PtsOk ps D mark last) {j : Nat} {u : GU} (pu : PuU ps mark last j u) : (∀ z ∈ u.2.2, z.1.length = 1 ∧ low z.2 ∧ wt z.2 ≤ 201) ∧ ∀ m k, bits (accR (u.2.2.take m) k) ≤ 201 := by
  have st := steps_ok ok
  obtain ⟨_, hm⟩ := gvs_mem (c := clf ps) st j ps.length (Nat.le_refl _)
  have n1 := norm_one (fun z hz => by
    obtain ⟨_, _, i, _, e⟩ := hm z hz
    rw [e]
    rfl) pu.g
  have nw := norm_wt (B := 201) (fun z hz => (hm z hz).1) (fun k => gvs_201 st k j ps.length (Nat.le_refl _)) pu.g
  exact ⟨fun z hz => ⟨(n1 z hz).1, (n1 z hz).2, nw z hz⟩, fun m k => take_bits (norm_keys pu.g) (fun z hz => ⟨(n1 z hz).2, nw z hz⟩) (by decide) m k⟩
theorem one_bits (ok : PtsOk ps D mark last) (hx : bits x ≤ 104) (hq : q = 0 ∨ q = 1) {j : Nat} (hj : j < ps.length + 2) {u : GU} (pu : PuU ps mark last j u) (m : Nat) (k : List Int) : bits (hgt (ct mark last x q) u.2.1 u.1 * accR (u.2.2.take m) k) ≤ 367 := by
  have a := (hgt_bits ok hx hq hj pu).1
  have b := (gits_ok ok pu).2 m k
  have := bits_mul (hgt (ct mark last x q) u.2.1 u.1) (accR (u.2.2.take m) k)
  omega
theorem tot_bits (ok : PtsOk ps D mark last) (hx : bits x ≤ 104) (hq : q = 0 ∨ q = 1) (hl : us.length = ps.length + 2) (hu : ∀ j u, us[j]? = some u → PuU ps mark last j u) (c : Int) : ∀ i, i ≤ us.length → bits (gTot (ct mark last x q) (us.take i) c) ≤ 1 + 368 * i
  | 0, _ => by show bits 0 ≤ _; decide
  | i + 1, hi => by
    have ih := tot_bits ok hx hq hl hu c i (by omega)
    have il : i < us.length := by omega
    rw [← List.take_append_getElem il, gTot_snoc]
    have pu := hu i us[i] (List.getElem?_eq_getElem il)
    have o : bits (gOne (ct mark last x q) us[i] c) ≤ 367 := by
      unfold gOne
      split
      · have := one_bits ok hx hq (by omega) pu us[i].2.2.length [c]
        rw [List.take_length] at this
        exact this
      · exact Nat.le_trans (show bits 0 ≤ 1 by decide) (by decide)
    have := bits_add (gTot (ct mark last x q) (us.take i) c) (gOne (ct mark last x q) us[i] c)
    omega
theorem gs_ok (ok : PtsOk ps D mark last) (hx : bits x ≤ 104) (hq : q = 0 ∨ q = 1) (hl : us.length = ps.length + 2) (hu : ∀ j u, us[j]? = some u → PuU ps mark last j u) : GsOk (ct mark last x q) us := by
  have l8 := ok.l8
  obtain ⟨st1, st2, _⟩ := stp_in ok
  refine ⟨fun u hm => ?_, by omega, fun i u hi _ j c => ?_⟩
  · obtain ⟨j, hj, e⟩ := List.getElem_of_mem hm
    have pu := hu j u (by rw [List.getElem?_eq_getElem hj, e])
    refine ⟨fun z hz => ?_, fun m => Nat.le_trans ((hgt_bits ok hx hq (by omega) pu).2 m) (by decide), fun z hz => ?_, by have := pu.l; omega⟩
    · have hz := pu.t.mem_iff.mp hz
      rcases List.mem_cons.mp hz with rfl | hz
      · exact ⟨mark, 1, rfl, by decide, Nat.le_trans (ct_bits hx hq _) (by decide)⟩
      · rw [List.mem_singleton.mp hz]
        exact ⟨last, _, rfl, Nat.le_trans (bits_int (k := 11) (by decide) (by omega)) (by decide), Nat.le_trans (ct_bits hx hq _) (by decide)⟩
    · obtain ⟨a1, a2, a3⟩ := (gits_ok ok pu).1 z hz
      obtain ⟨c, e⟩ : ∃ c, z.1 = [c] := by
        match z.1, a1 with
        | [c], _ => exact ⟨c, rfl⟩
      refine ⟨c, rt z.2, Prod.ext e (fq_rt a2).symm, ?_⟩
      unfold bits
      rw [fq_rt a2]
      omega
  · have il := (List.getElem?_eq_some_iff.mp hi).1
    have a := tot_bits ok hx hq hl hu c i (by omega)
    have b := one_bits ok hx hq (by omega) (hu i u hi) j [c]
    have := bits_add (gTot (ct mark last x q) (us.take i) c) (hgt (ct mark last x q) u.2.1 u.1 * accR (u.2.2.take j) [c])
    omega
theorem tot_sum (ok : PtsOk ps D mark last) (hl : us.length = ps.length + 2) (hu : ∀ j u, us[j]? = some u → PuU ps mark last j u) (c : Int) : ∀ i, i ≤ us.length → gTot (ct mark last x 0) (us.take i) c = sumN (fun j => relu (x - lvf ps j) * accR (gvs (lvf ps) (clf ps) ps.length j) [c]) i
  | 0, _ => rfl
  | i + 1, hi => by
    have ih := tot_sum ok hl hu c i (by omega)
    have il : i < us.length := by omega
    rw [← List.take_append_getElem il, gTot_snoc, ih]
    have pu := hu i us[i] (List.getElem?_eq_getElem il)
    obtain ⟨e, _⟩ := hgt_two ok.ne (x := x) (q := 0) (sh := us[i].2.1) pu.t
    have e2 : hgt (ct mark last x 0) us[i].2.1 us[i].1 = x - lvf ps i := by
      rw [e, pu.s]
      grind
    have o : gOne (ct mark last x 0) us[i] c = relu (x - lvf ps i) * accR (gvs (lvf ps) (clf ps) ps.length i) [c] := by
      unfold gOne relu
      rw [e2, accR_norm pu.g]
      split
      · rfl
      · exact (Rat.zero_mul _).symm
    rw [o]
    rfl
/-- the gifts are what is due -/
theorem tot_due (ok : PtsOk ps D mark last) (hl : us.length = ps.length + 2) (hu : ∀ j u, us[j]? = some u → PuU ps mark last j u) : gTot (ct mark last x 0) us = dueR ps x := funext fun c => by
  have := tot_sum ok hl hu c (x := x) us.length (Nat.le_refl _)
  rw [List.take_length, hl, sum_tents ok x c ps.length (Nat.le_refl _)] at this
  exact this
theorem tot_rest (ok : PtsOk ps D mark last) (hl : us.length = ps.length + 2) (hu : ∀ j u, us[j]? = some u → PuU ps mark last j u) (hx : x ≤ lvf ps (ps.length + 1)) (c : Int) : gTot (ct mark last x 1) us c = 0 := by
  have key : ∀ i, i ≤ us.length → gTot (ct mark last x 1) (us.take i) c = 0 := by
    intro i
    induction i with
    | zero => intro _; rfl
    | succ i ih =>
      intro hi
      have il : i < us.length := by omega
      rw [← List.take_append_getElem il, gTot_snoc, ih (by omega)]
      have pu := hu i us[i] (List.getElem?_eq_getElem il)
      obtain ⟨e, _⟩ := hgt_two ok.ne (x := x) (q := 1) (sh := us[i].2.1) pu.t
      obtain ⟨st1, st2, st3⟩ := stp_in ok
      have l0 : lvf ps 0 ≤ lvf ps i := by
        rcases Nat.eq_zero_or_pos i with rfl | ip
        · exact Rat.le_refl
        · exact Rat.le_of_lt (lvf_up ok ip (by omega))
      have np : ¬ 0 < hgt (ct mark last x 1) us[i].2.1 us[i].1 := by
        rw [e, pu.s]
        grind
      unfold gOne
      rw [if_neg np]
      grind
  have := key us.length (Nat.le_refl _)
  rw [List.take_length] at this
  exact this
end
end LK

set_option Elab.async false
set_option linter.all false
set_option maxRecDepth 100000
namespace LK
open PySem PySem.Spec PyProof.Rows L2
local macro_rules | `(tactic| walk_at "rs") => `(tactic| simp only [cxK, cxNK, tCallZ, tAsg, tOp, rI0, rS0, rB0, rI, rU, tUn, rEq, rNe, rIxL, rIxT, rIxS, rSetL, rSlLU, rSlS, rSlU, rCatL, rCatU, rRepL, rIn, tVar, tC, gName, gSub, tIfS, tTest, tB, tAnd, tOr, tNot, tNotV, tAndV, tOrV, tIf, tCall, tCons, tNil, tCB, tDrop, tRet, tRetN, tNext, tLstU, tTupU, tM0, tM1, tPar, tPar3, tAug, ipI, tBM, tBM0, rAppend, rPop, tBreak, sDPut, tDGet, tDGet2, tCont, tChain, tSl, tPart, tNoPart, L2.start, List.map, List.length_cons, List.length_nil, List.replicate, List.cons_append, List.nil_append, List.append_nil, List.getElem?_cons_zero, List.getElem?_cons_succ, List.set_cons_zero, List.set_cons_succ, Option.some.injEq, V.int.injEq, V.ref.injEq, V.str.injEq, V.bl.injEq, exists_eq_left', exists_eq_left, exists_and_left, decide_eq_true_eq, List.cons.injEq, and_true, true_and, scal, Bool.not_eq_true', decide_eq_false_iff_not, Nat.zero_add, Nat.reduceAdd, Nat.reduceSub, reduceCtorEq, false_and, exists_false, false_or, or_false, CPow, CPowW, CMul, CDiv, Int.reduceToNat, ↓reduceIte, wipe, sw, rv3, tListKeys, tDIn, tDNotIn, List.nil_append, List.singleton_append])
local macro_rules | `(tactic| walk_at "st") => `(tactic| (refine seq_op fun N hN => ?_; walk_at "rs"))
local macro_rules | `(tactic| walk_at "sd") => `(tactic| first | assumption | decide | omega)
local macro_rules | `(tactic| walk_at "rd") => `(tactic| repeat (first
  | refine ⟨_, SqL.of (by assumption), ?_⟩ | refine ⟨_, SqL.of upd_same, ?_⟩ | refine ⟨_, .inl (SqL.of (by assumption)), ?_⟩ | refine ⟨_, (by assumption : _ = some (HO.lst _)), ?_⟩ | refine ⟨_, upd_same, ?_⟩
  | refine ⟨_, rfl, ?_⟩ | refine And.intro (by walk_at "sd") ?_))

/-- what the law knows of points, units and levels -/
structure Kr (K : PySem.W.Frag) (H : Hp) (b so go lv : Addr) (xs us lx : List V) (ps : List (Rat × Int)) (D mark last : Int) : Prop where
  ok : PtsOk ps D mark last
  hs : H so = some (.lst xs)
  bs : so ≠ b
  tp : Pts K H xs ps
  hg : H go = some (.tup us)
  bg : go ≠ b
  pu : PU K H us ps mark last
  hl : H lv = some (.lst lx)
  bl : lv ≠ b
  rl : Rats K H lx (lvs (ps.map (·.1)))
theorem Kr.same {K : PySem.W.Frag} {H H' : Hp} {b so go lv : Addr} {xs us lx : List V} {ps : List (Rat × Int)} {D mark last : Int} (s : Same H H') (q : Kr K H b so go lv xs us lx ps D mark last) : Kr K H' b so go lv xs us lx ps D mark last :=
  ⟨q.ok, s _ _ q.hs, q.bs, q.tp.same s, s _ _ q.hg, q.bg, q.pu.same s, s _ _ q.hl, q.bl, q.rl.same s⟩
theorem Kr.kp {K : PySem.W.Frag} {N : Nat} {H H' : Hp} {b c so go lv : Addr} {xs us lx : List V} {ps : List (Rat × Int)} {D mark last : Int} (B : Bag N H b c) (k : Kp b H H') (q : Kr K H b so go lv xs us lx ps D mark last) : Kr K H' b so go lv xs us lx ps D mark last :=
  ⟨q.ok, Kp.get k q.bs q.hs, q.bs, q.tp.kp B k, Kp.get k q.bg q.hg, q.bg, q.pu.kp B k, Kp.get k q.bl q.hl, q.bl, q.rl.kp B k⟩
theorem gft_empty {K : PySem.W.Frag} {H : Hp} {kvs : List (L2.Key × V)} {R : Int → Rat} (g : Gft K H kvs R) (z : ∀ c, R c = 0) : kvs = [] := by
  cases kvs with
  | nil => rfl
  | cons p r =>
    obtain ⟨c, u, e, _⟩ := g.g.val p List.mem_cons_self
    exact absurd (z c) (g.nz c (by rw [e]; exact List.mem_cons_self))
section
variable {P : Program} {w : World} {K : PySem.W.Frag} {mg : Str → Option Value} {base : Heap}
abbrev cxR (P : Program) (w : World) (K : PySem.W.Frag) (mg : Str → Option Value) (base : Heap) (f : Addr) (cdv : Value) (A : Around) (outer : List Env) (s : Shared) (H : Hp) (E : XK) : Cx := (cxOf CX0 P w K mg base N__law_right "_law_right" (defScope s__law_right) f cdv A outer s H E).nox
theorem right11 (T : Txt w K mg) {cdv : Value} {A : Around} {outer : List Env} {s : Shared} {H0 : Hp} {E : XK} (hr : Room 8 (A.deeper (envOfC "_law_right" (defScope s__law_right) s.heap.objs.size T.a__law_right cdv))) : ∃ t, PSs (cxR P w K mg base T.a__law_right cdv A outer s H0 E) ((defBody s__law_right).drop 11) t ∧
    ∀ (D : Ends) (σ : L2.St) (H Hs : Hp) (b c so go lv asked : Addr) (xs us lx ax : List V) (ps : List (Rat × Int)) (ats : List Rat) (DD mark last : Int) (x4 x7 x8 x9 x10 x12 x13 x14 : Option V), (∀ H' N, Bag N H' b c → Kp b Hs H' → D.rt (.bl true) H') →
      σ = [some (.ref b), some (.ref so), some (.int mark), some (.int last), x4, some (.ref go), some (.ref lv), x7, x8, x9, x10, some (.ref asked), x12, x13, x14, none, none] → Bag 0 H b c → Kp b Hs H → Kr K H b so go lv xs us lx ps DD mark last → H asked = some (.lst ax) → Rats K H ax ats → (∀ r ∈ ats, bits r ≤ 104) → ax.length ≤ 1000 → t D σ H := by
  have hr__law_gifts : Room 3 _ := hr.mono (by decide)
  have G__law_gifts := ok__law_gifts (P := P) (base := base) T
  have hr__law_due : Room 5 _ := hr.mono (by decide)
  have G__law_due := ok__law_due (P := P) (base := base) T
  have hr__law_gap : Room 1 _ := hr.mono (by decide)
  have G__law_gap := ok__law_gap (P := P) (base := base) T
  have hu65 : (A.deeper (envOfC "_law_right" (defScope s__law_right) s.heap.objs.size T.a__law_right cdv)).units + 65 < cLine := Nat.lt_of_le_of_lt (Nat.add_le_add_left (by decide : 65 ≤ 16 * 8 + 200) _) hr.un
  refine ⟨_, (pss_cons (ps_for PassesOwn.never rfl (pi_list (pe_op op_catL (pv 11) (pe_lstU (pa_cons (pe_ix ix_list (pv 6) (pe_un un_neg pe_int) (fun _ _ => rfl)) pa_nil)))) (pg_name (i := 15) sc__law_right.nd rfl (Or.inl rfl)) (pss_cons (ps_if (pt_cmpR (op_neDD hu65) (pe_call G__law_gifts hr__law_gifts (by rfl) T.m__law_gifts T.F__law_gifts.kp T.B__law_gifts .nil pass0 (pa_cons (pv 5) (pa_cons (pe_disp (pps_cons (pv 2) (pv 15) pps_nil) (by rfl) (by rfl) (fun z => by cases z) (by decide)) pa_nil))) (pe_call G__law_due hr__law_due (by rfl) T.m__law_due T.F__law_due.kp T.B__law_due .nil pass0 (pa_cons (pv 1) (pa_cons (pv 6) (pa_cons (pv 15) pa_nil)))) (nomark _)) (pss_one (ps_ret pe_bl)) pss_nil)
      (pss_one (ps_if (PW.pt (pw_and (pt_cmpR op_le (pe_call G__law_gap hr__law_gap (by rfl) T.m__law_gap T.F__law_gap.kp T.B__law_gap .nil pass0 (pa_cons (pv 15) (pa_cons (pe_ix ix_list (pv 6) (pe_un un_neg pe_int) (fun _ _ => rfl)) pa_nil))) pe_int (nomark _)) (pw_and1 (pt_cmpR (op_neDD hu65) (pe_call G__law_gifts hr__law_gifts (by rfl) T.m__law_gifts T.F__law_gifts.kp T.B__law_gifts .nil pass0 (pa_cons (pv 5) (pa_cons (pe_disp (pps_cons (pv 2) (pv 15) (pps_cons (pv 3) (pe_tupU (pa_cons pe_int (pa_cons pe_int pa_nil))) pps_nil)) (by rfl) (by rfl) (fun z => by cases z) (by decide)) pa_nil))) pe_dnewK (nomark _))))) (pss_one (ps_ret pe_bl)) pss_nil))))
      (pss_one (ps_ret pe_bl))), ?_⟩
  rintro D σ H Hs b c so go lv asked xs us lx ax ps ats DD mark last x4 x7 x8 x9 x10 x12 x13 x14 k rfl B KH q hax ra ba la
  have lra := ra.len
  have lrl := q.rl.len
  have eln : (lvs (ps.map (·.1))).length = ps.length + 2 := by rw [lvs_len, List.length_map]
  obtain ⟨vt, evt, hvt⟩ := q.rl.has (lvs_get (ps := ps) (j := ps.length + 1) (by omega))
  have btop : bits (lvf ps (ps.length + 1)) ≤ 49 := (lvf_lv q.ok (by omega)).bits q.ok.d0 q.ok.d1
  refine cut_seq (fun σ G => ∃ (x15 : Option V), σ = [some (.ref b), some (.ref so), some (.int mark), some (.int last), x4, some (.ref go), some (.ref lv), x7, x8, x9, x10, some (.ref asked), x12, x13, x14, x15, none] ∧ Same H G) (fun N hN => ?_) ?_
  · refine ⟨_, rfl, _, rfl, 1, rfl, lv, lx, -1, .ref vt, rfl, rfl, SqL.of q.hl, at_last (by rw [lrl, eln]; exact evt), by show 1 ≤ sizeLine; decide, fun p1 H1 s1 n1 t1 => ?_⟩
    refine ⟨asked, p1, ax, [.ref vt], rfl, rfl, s1 _ _ hax, t1, Nat.le_trans (show ax.length + 1 ≤ 1001 by omega) (by decide), fun p2 H2 s2 n2 t2 => ?_⟩
    have s12 := Same.trans s1 s2
    have rall : Rats K H2 (ax ++ [.ref vt]) (ats ++ [lvf ps (ps.length + 1)]) := (ra.same s12).app (.cons (hvt.same s12) .nil)
    have ball : ∀ r ∈ ats ++ [lvf ps (ps.length + 1)], bits r ≤ 104 := fun r hr => by
      rcases List.mem_append.mp hr with hr | hr
      · exact ba r hr
      · rw [List.mem_singleton.mp hr]; omega
    refine ⟨p2, rfl, ⟨_, SqL.of t2⟩, for_list (K := K) (a := p2) (xs := ax ++ [.ref vt]) (fun i σ G => ∃ (x15 : Option V), σ = [some (.ref b), some (.ref so), some (.int mark), some (.int last), x4, some (.ref go), some (.ref lv), x7, x8, x9, x10, some (.ref asked), x12, x13, x14, x15, none] ∧ Same H2 G) ⟨_, rfl, Same.refl _⟩ (fun i σ G _ ⟨_, _, s⟩ => SqL.of (s _ _ t2)) ?_ ?_⟩
    · rintro i x σ G hx ⟨x15, rfl, sG⟩
      obtain ⟨va, r, rfl, er, hva⟩ := rall.get hx
      have br := ball r (List.mem_of_getElem? er)
      have q2 := q.same (Same.trans s12 sG)
      have hv2 := hva.same sG
      show tSeq _ _ _ [some (V.ref b), some (V.ref so), some (V.int mark), some (V.int last), x4, some (V.ref go), some (V.ref lv), x7, x8, x9, x10, some (V.ref asked), x12, x13, x14, some (V.ref va), none] G
      refine seq_op fun N1 hN1 => ?_
      walk_at "rs"
      refine fun p hp => ⟨_, rfl, _, rfl, upd_same, [(Sum.inl mark, .ref va)], rfl, by show 1 ≤ 15; decide, ?_⟩
      have sp : Same G (L2.upd (L2.upd G p (.dK [])) p (.dK (mergeK [] [((Sum.inl mark : L2.Key), V.ref va)]))) := same_updN (same_upd hp) hp
      have tp : (L2.upd (L2.upd G p (.dK [])) p (.dK (mergeK [] [((Sum.inl mark : L2.Key), V.ref va)]))) p = some (.dK [((Sum.inl mark : L2.Key), V.ref va)]) := upd_same
      generalize L2.upd (L2.upd G p (.dK [])) p (.dK (mergeK [] [((Sum.inl mark : L2.Key), V.ref va)])) = G1 at sp tp ⊢
      have q3 := q2.same sp
      have hv3 := hv2.same sp
      obtain ⟨us', gus, lus, hus⟩ := q3.pu.gus q3.ok
      have cv : Gvn K G1 [((Sum.inl mark : L2.Key), V.ref va)] (ct mark last r 0) := ⟨by simp, fun z hz => by
        rw [List.mem_singleton.mp hz]
        exact ⟨mark, va, rfl, by rw [show ct mark last r 0 mark = r from if_pos rfl]; exact hv3⟩, fun c hc => by
        unfold ct
        rw [if_neg fun e => hc (by rw [e]; exact List.mem_singleton.mpr rfl)]
        split <;> rfl⟩
      refine ⟨go, p, us, us', _, _, rfl, .inl (.inl q3.hg), gus, gs_ok q3.ok br (.inl rfl) lus hus, tp, cv, fun D1 kvs H3 s3 n3 t3 gf => ⟨so, lv, va, xs, lx, ps, DD, mark, last, r, rfl, SqL.of (s3 _ _ q3.hs), q3.tp.same s3, q3.ok, SqL.of (s3 _ _ q3.hl), q3.rl.same s3, hv3.same s3, by omega, fun p4 kvs4 H4 s4 n4 t4 gf4 => ⟨D1, p4, kvs, kvs4, rfl, rfl, s4 _ _ t3, t4, ?_, false, rfl, ?_⟩⟩⟩
      · rw [tot_due q3.ok lus hus] at gf
        exact (gf.upd fun u p q h => Same.seqT s4 h).sameD gf4
      rw [if_neg (by simp)]
      refine hN1 _ _ ?_
      clear hN1 N1
      have s14 := Same.trans sp (Same.trans s3 s4)
      have q4 := q2.same s14
      have hv4 := hv2.same s14
      have sG4 := Same.trans sG s14
      clear q3 hv3 cv gus hus lus us' q2 hv2 gf gf4 t3 t4 tp s3 s4 sp sG hp n3 n4
      walk_at "rs"
      obtain ⟨wt, ewt, hwt⟩ := q4.rl.has (lvs_get (ps := ps) (j := ps.length + 1) (by omega))
      refine ⟨lx, SqL.of q4.hl, _, at_last (by rw [lrl, eln]; exact ewt), va, wt, ⟨rfl, rfl⟩, r, hv4, _, hwt, by omega, by omega, ite2 (fun le => ?_) (fun _ => sG4)⟩
      have le := (gap_neg _ _).mp le
      refine fun p hp => ⟨_, rfl, _, rfl, _, rfl, by show 2 ≤ sizeLine; decide, fun p5 H5 s5 n5 t5 => ⟨s5 _ _ upd_same, [(Sum.inl mark, .ref va), (Sum.inl last, .ref p5)], rfl, by show 2 ≤ 15; decide, ?_⟩⟩
      have np5 : p5 ≠ p := fun z => by rw [z, upd_same] at n5; cases n5
      have em : mergeK [] [((Sum.inl mark : L2.Key), V.ref va), ((Sum.inl last : L2.Key), V.ref p5)] = [((Sum.inl mark : L2.Key), V.ref va), ((Sum.inl last : L2.Key), V.ref p5)] := by
        rw [mergeK_new]
        · rfl
        · show [(Sum.inl mark : L2.Key), Sum.inl last].Nodup
          refine List.nodup_cons.mpr ⟨fun m => ?_, by simp⟩
          have := List.mem_singleton.mp m
          injection this with this
          exact q4.ok.ne this
      rw [em]
      have sp : Same H4 (L2.upd H5 p (.dK [((Sum.inl mark : L2.Key), V.ref va), ((Sum.inl last : L2.Key), V.ref p5)])) := same_updN (Same.trans (same_upd hp) s5) hp
      have tp : (L2.upd H5 p (.dK [((Sum.inl mark : L2.Key), V.ref va), ((Sum.inl last : L2.Key), V.ref p5)])) p = some (.dK [((Sum.inl mark : L2.Key), V.ref va), ((Sum.inl last : L2.Key), V.ref p5)]) := upd_same
      have h5 : Fv K (L2.upd H5 p (.dK [((Sum.inl mark : L2.Key), V.ref va), ((Sum.inl last : L2.Key), V.ref p5)])) p5 1 := Fv.of (by rw [upd_ne np5]; exact t5)
      generalize L2.upd H5 p (.dK [((Sum.inl mark : L2.Key), V.ref va), ((Sum.inl last : L2.Key), V.ref p5)]) = G1 at sp tp h5 ⊢
      have q3 := q4.same sp
      have hv3 := hv4.same sp
      obtain ⟨us', gus, lus, hus⟩ := q3.pu.gus q3.ok
      have cv : Gvn K G1 [((Sum.inl mark : L2.Key), V.ref va), ((Sum.inl last : L2.Key), V.ref p5)] (ct mark last r 1) := ⟨by
        show [(Sum.inl mark : L2.Key), Sum.inl last].Nodup
        refine List.nodup_cons.mpr ⟨fun m => ?_, by simp⟩
        have := List.mem_singleton.mp m
        injection this with this
        exact q4.ok.ne this, fun z hz => by
        rcases List.mem_cons.mp hz with rfl | hz
        · exact ⟨mark, va, rfl, by rw [show ct mark last r 1 mark = r from if_pos rfl]; exact hv3⟩
        · rw [List.mem_singleton.mp hz]
          exact ⟨last, p5, rfl, by rw [show ct mark last r 1 last = 1 by unfold ct; rw [if_neg q4.ok.ne.symm, if_pos rfl]]; exact h5⟩, fun c hc => by
        unfold ct
        rw [if_neg fun e => hc (by rw [e]; exact List.mem_cons_self), if_neg fun e => hc (by rw [e]; exact List.mem_cons_of_mem _ (List.mem_singleton.mpr rfl))]⟩
      refine ⟨go, p, us, us', _, _, rfl, .inl (.inl q3.hg), gus, gs_ok q3.ok br (.inr rfl) lus hus, tp, cv, fun D1 kvs H6 s6 n6 t6 gf => ?_⟩
      have ek := gft_empty gf (tot_rest q3.ok lus hus le)
      subst ek
      intro p7 n7
      have s7 : Same H6 (L2.upd H6 p7 (.dK [])) := same_upd n7
      refine ⟨D1, p7, [], [], rfl, rfl, s7 _ _ t6, upd_same, ⟨rfl, fun p hp => absurd hp (by simp)⟩, false, rfl, ?_⟩
      rw [if_neg (by simp)]
      exact Same.trans sG4 (Same.trans sp (Same.trans s6 s7))
    · rintro σ G ⟨x15, rfl, sG⟩
      exact hN _ _ ⟨_, rfl, Same.trans s12 sG⟩
  · rintro σ G ⟨x15, rfl, sG⟩
    walk_at "rs"
    exact k G 0 (B.same sG) (Same.trans KH (Kp.of sG))
end
end LK

set_option Elab.async false
set_option linter.all false
set_option maxRecDepth 100000
namespace LK
open PySem PySem.Spec PyProof.Rows L2
local macro_rules | `(tactic| walk_at "rs") => `(tactic| simp only [cxK, cxNK, tCallZ, tAsg, tOp, rI0, rS0, rB0, rI, rU, tUn, rEq, rNe, rIxL, rIxT, rIxS, rSetL, rSlLU, rSlS, rSlU, rCatL, rCatU, rRepL, rIn, tVar, tC, gName, gSub, tIfS, tTest, tB, tAnd, tOr, tNot, tNotV, tAndV, tOrV, tIf, tCall, tCons, tNil, tCB, tDrop, tRet, tRetN, tNext, tLstU, tTupU, tM0, tM1, tPar, tPar3, tAug, ipI, tBM, tBM0, rAppend, rPop, tBreak, sDPut, tDGet, tDGet2, tCont, tChain, tSl, tPart, tNoPart, L2.start, List.map, List.length_cons, List.length_nil, List.replicate, List.cons_append, List.nil_append, List.append_nil, List.getElem?_cons_zero, List.getElem?_cons_succ, List.set_cons_zero, List.set_cons_succ, Option.some.injEq, V.int.injEq, V.ref.injEq, V.str.injEq, V.bl.injEq, exists_eq_left', exists_eq_left, exists_and_left, decide_eq_true_eq, List.cons.injEq, and_true, true_and, scal, Bool.not_eq_true', decide_eq_false_iff_not, Nat.zero_add, Nat.reduceAdd, Nat.reduceSub, reduceCtorEq, false_and, exists_false, false_or, or_false, CPow, CPowW, CMul, CDiv, Int.reduceToNat, ↓reduceIte, wipe, sw, rv3, tListKeys, tDIn, tDNotIn, List.nil_append, List.singleton_append])
local macro_rules | `(tactic| walk_at "st") => `(tactic| (refine seq_op fun N hN => ?_; walk_at "rs"))
local macro_rules | `(tactic| walk_at "sd") => `(tactic| first | assumption | decide | omega)
local macro_rules | `(tactic| walk_at "rd") => `(tactic| repeat (first
  | refine ⟨_, SqL.of (by assumption), ?_⟩ | refine ⟨_, SqL.of upd_same, ?_⟩ | refine ⟨_, .inl (SqL.of (by assumption)), ?_⟩ | refine ⟨_, (by assumption : _ = some (HO.lst _)), ?_⟩ | refine ⟨_, upd_same, ?_⟩
  | refine ⟨_, rfl, ?_⟩ | refine And.intro (by walk_at "sd") ?_))

section
variable {P : Program} {w : World} {K : PySem.W.Frag} {mg : Str → Option Value} {base : Heap}
theorem right09 (T : Txt w K mg) {cdv : Value} {A : Around} {outer : List Env} {s : Shared} {H0 : Hp} {E : XK} (hr : Room 8 (A.deeper (envOfC "_law_right" (defScope s__law_right) s.heap.objs.size T.a__law_right cdv))) : ∃ t, PSs (cxR P w K mg base T.a__law_right cdv A outer s H0 E) ((defBody s__law_right).drop 9) t ∧
    ∀ (D : Ends) (σ : L2.St) (H Hs : Hp) (b c so go lv : Addr) (xs us lx : List V) (ps : List (Rat × Int)) (DD mark last : Int) (x4 x7 x8 x9 x10 : Option V), (∀ H' N, Bag N H' b c → Kp b Hs H' → D.rt (.bl true) H') →
      σ = [some (.ref b), some (.ref so), some (.int mark), some (.int last), x4, some (.ref go), some (.ref lv), x7, x8, x9, x10, none, none, none, none, none, none] → Bag 0 H b c → Kp b Hs H → Kr K H b so go lv xs us lx ps DD mark last → t D σ H := by
  have hr__law_draw : Room 1 _ := hr.mono (by decide)
  have G__law_draw := ok__law_draw (P := P) (base := base) T
  have hr__law_low : Room 1 _ := hr.mono (by decide)
  have G__law_low := ok__law_low (P := P) (base := base) T
  have hr__law_plus : Room 2 _ := hr.mono (by decide)
  have G__law_plus := ok__law_plusR (P := P) (base := base) T
  have hr__law_times : Room 2 _ := hr.mono (by decide)
  have G__law_times := ok__law_timesR (P := P) (base := base) T
  have hr__law_minus : Room 3 _ := hr.mono (by decide)
  have G__law_minus := ok__law_minus (P := P) (base := base) T
  obtain ⟨t11, h11, go11⟩ := right11 (P := P) (base := base) (outer := outer) (H0 := H0) (E := E) T hr
  refine ⟨_, (pss_cons (ps_set (i := 11) sc__law_right.nd rfl (Or.inl rfl) (pe_lstU (pa_cons (pe_call G__law_minus hr__law_minus (by rfl) T.m__law_minus T.F__law_minus.kp T.B__law_minus .nil pass0 (pa_cons (pe_ix ix_list (pv 6) pe_int (fun _ _ => rfl)) (pa_cons (pe_tupU (pa_cons pe_int (pa_cons pe_int pa_nil))) pa_nil))) (pa_cons (pe_tupU (pa_cons pe_int (pa_cons pe_int pa_nil))) (pa_cons (pe_call G__law_plus hr__law_plus (by rfl) T.m__law_plus T.F__law_plus.kp T.B__law_plus .nil pass0 (pa_cons (pe_ix ix_list (pv 6) (pe_un un_neg pe_int) (fun _ _ => rfl)) (pa_cons (pe_tupU (pa_cons pe_int (pa_cons pe_int pa_nil))) pa_nil))) pa_nil)))))
      (pss_cons (ps_for PassesOwn.never rfl (pi_zip (by rfl) T.n_zip (pa_cons (pv 6) (pa_cons (pe_slice sl_listU (pv 6) (po_some pe_int) po_none) pa_nil))) (pg_tup rfl (pgs_cons (pg_name (i := 12) sc__law_right.nd rfl (Or.inl rfl)) (pgs_cons (pg_name (i := 13) sc__law_right.nd rfl (Or.inl rfl)) pgs_nil))) (pss_cons (ps_set (i := 14) sc__law_right.nd rfl (Or.inl rfl) (pe_call G__law_low hr__law_low (by rfl) T.m__law_low T.F__law_low.kp T.B__law_low .nil pass0 (pa_cons (pe_op op_add pe_int (pe_call G__law_draw hr__law_draw (by rfl) T.m__law_draw T.F__law_draw.kp T.B__law_draw .nil pass0 (pa_cons (pv 0) (pa_cons pe_int pa_nil)))) (pa_cons pe_int pa_nil))))
      (pss_one (ps_set (i := 11) sc__law_right.nd rfl (Or.inl rfl) (pe_op op_catL (pv 11) (pe_lstU (pa_cons (pv 12) (pa_cons (pe_call G__law_plus hr__law_plus (by rfl) T.m__law_plus T.F__law_plus.kp T.B__law_plus .nil pass0 (pa_cons (pv 12) (pa_cons (pe_call G__law_times hr__law_times (by rfl) T.m__law_times T.F__law_times.kp T.B__law_times .nil pass0 (pa_cons (pv 14) (pa_cons (pe_call G__law_minus hr__law_minus (by rfl) T.m__law_minus T.F__law_minus.kp T.B__law_minus .nil pass0 (pa_cons (pv 13) (pa_cons (pv 12) pa_nil))) pa_nil))) pa_nil))) pa_nil))))))))
      h11)), ?_⟩
  rintro D σ H Hs b c so go lv xs us lx ps DD mark last x4 x7 x8 x9 x10 k rfl B KH q
  have lrl := q.rl.len
  have l8 := q.ok.l8
  have eln : (lvs (ps.map (·.1))).length = ps.length + 2 := by rw [lvs_len, List.length_map]
  have bl : ∀ j, j < ps.length + 2 → bits (lvf ps j) ≤ 49 := fun j hj => (lvf_lv q.ok hj).bits q.ok.d0 q.ok.d1
  obtain ⟨v0, ev0, hv0⟩ := q.rl.has (lvs_get (ps := ps) (j := 0) (by omega))
  obtain ⟨vt, evt, hvt⟩ := q.rl.has (lvs_get (ps := ps) (j := ps.length + 1) (by omega))
  refine seq_op fun N hN => ?_
  walk_at "rs"
  have b0 := bl 0 (by omega)
  have bt := bl (ps.length + 1) (by omega)
  refine ⟨lx, SqL.of q.hl, _, at_ofN (j := 0) rfl ev0, by decide, fun p1 H1 s1 n1 t1 => ⟨v0, p1, _, (⟨7, 3, by decide, by decide⟩ : Rat), rfl, hv0.same s1, .inl (.inl t1), by omega, by decide +kernel, trivial, fun p2 H2 s2 n2 t2 => ⟨by decide, fun p3 H3 s3 n3 t3 => ?_⟩⟩⟩
  have s13 := Same.trans s1 (Same.trans s2 s3)
  refine ⟨lx, SqL.of (s13 _ _ q.hl), _, at_last (by rw [lrl, eln]; exact evt), by decide, fun p4 H4 s4 n4 t4 => ⟨vt, p4, _, (⟨5, 2, by decide, by decide⟩ : Rat), rfl, hvt.same (Same.trans s13 s4), .inl (.inl t4), by omega, by decide +kernel, trivial, fun p5 H5 s5 n5 t5 => ⟨by decide, fun p6 H6 s6 n6 t6 => hN _ _ ?_⟩⟩⟩
  clear hN N
  have s46 := Same.trans s4 (Same.trans s5 s6)
  have s16 := Same.trans s13 s46
  have B6 := B.same s16
  have KH6 := Same.trans KH (Kp.of s16)
  have bp6 : p6 ≠ b := new_ne (B.same (Same.trans s13 (Same.trans s4 s5))) n6
  have r1 : Fv K H6 p2 (lvf ps 0 - (⟨7, 3, by decide, by decide⟩ : Rat)) := Fv.of (Same.trans s3 s46 _ _ t2)
  have r2 : Fv K H6 p3 0 := .inl (.inl (s46 _ _ t3))
  have r3 : Fv K H6 p5 (lvf ps (ps.length + 1) + (⟨5, 2, by decide, by decide⟩ : Rat)) := Fv.of (s6 _ _ t5)
  have ra : Rats K H6 [.ref p2, .ref p3, .ref p5] [lvf ps 0 - (⟨7, 3, by decide, by decide⟩ : Rat), 0, lvf ps (ps.length + 1) + (⟨5, 2, by decide, by decide⟩ : Rat)] := .cons r1 (.cons r2 (.cons r3 .nil))
  have ba : ∀ r ∈ [lvf ps 0 - (⟨7, 3, by decide, by decide⟩ : Rat), 0, lvf ps (ps.length + 1) + (⟨5, 2, by decide, by decide⟩ : Rat)], bits r ≤ 104 := fun r hr => by
    simp only [List.mem_cons, List.not_mem_nil, or_false] at hr
    rcases hr with rfl | rfl | rfl
    · have := bits_sub (lvf ps 0) (⟨7, 3, by decide, by decide⟩ : Rat)
      have : bits (⟨7, 3, by decide, by decide⟩ : Rat) ≤ 3 := by decide +kernel
      omega
    · decide
    · have := bits_add (lvf ps (ps.length + 1)) (⟨5, 2, by decide, by decide⟩ : Rat)
      have : bits (⟨5, 2, by decide, by decide⟩ : Rat) ≤ 3 := by decide +kernel
      omega
  generalize [lvf ps 0 - (⟨7, 3, by decide, by decide⟩ : Rat), 0, lvf ps (ps.length + 1) + (⟨5, 2, by decide, by decide⟩ : Rat)] = ats at ra ba
  have q6 := q.same s16
  have l3 : [V.ref p2, .ref p3, .ref p5].length ≤ 3 := Nat.le_refl 3
  generalize [V.ref p2, .ref p3, .ref p5] = ax at ra t6 l3
  clear r1 r2 r3 s1 s2 s3 s4 s5 s6 s13 s46 s16 t1 t2 t3 t4 t5 hv0 hvt B KH q n1 n2 n3 n4 n5 n6
  refine cut_seq (fun σ G => ∃ (x12 x13 x14 : Option V) (asked : Addr) (ax : List V) (ats : List Rat), σ = [some (.ref b), some (.ref so), some (.int mark), some (.int last), x4, some (.ref go), some (.ref lv), x7, x8, x9, x10, some (.ref asked), x12, x13, x14, none, none] ∧ Bag 0 G b c ∧ Kp b Hs G ∧ Kr K G b so go lv xs us lx ps DD mark last ∧ G asked = some (.lst ax) ∧ Rats K G ax ats ∧ (∀ r ∈ ats, bits r ≤ 104) ∧ ax.length ≤ 30) (fun N hN => ?_) ?_
  · walk_at "rs"
    refine ⟨_, rfl, _, rfl, 1, rfl, lv, lx, rfl, SqL.of q6.hl, fun sl H7 s7 n7 t7 => ?_⟩
    rw [show cutV lx (some 1) none = lx.drop 1 from cutV_drop lx 1] at t7
    have bsl : sl ≠ b := new_ne B6 n7
    have q7 := q6.same s7
    refine ⟨lv, sl, lx, lx.drop 1, rfl, SqL.of q7.hl, SqL.of t7, for_it (walk_zip (K := K) (a := lv) (b := sl) (xs := lx) (ys := lx.drop 1) (n := ps.length + 1) (by rw [List.length_drop, lrl, eln]; omega)) (fun i σ G => ∃ (x12 x13 x14 : Option V) (asked : Addr) (ax : List V) (ats : List Rat), σ = [some (.ref b), some (.ref so), some (.int mark), some (.int last), x4, some (.ref go), some (.ref lv), x7, x8, x9, x10, some (.ref asked), x12, x13, x14, none, none] ∧ Bag 0 G b c ∧ Kp b Hs G ∧ Kr K G b so go lv xs us lx ps DD mark last ∧ G sl = some (.lst (lx.drop 1)) ∧ G asked = some (.lst ax) ∧ asked ≠ b ∧ Rats K G ax ats ∧ (∀ r ∈ ats, bits r ≤ 104) ∧ ax.length ≤ 3 + 2 * i) ⟨_, _, _, p6, ax, ats, rfl, B6.same s7, Same.trans KH6 (Kp.of s7), q7, t7, s7 _ _ t6, bp6, ra.same s7, ba, by omega⟩ (fun i σ G _ ⟨_, _, _, _, _, _, _, _, _, qG, h, _⟩ => ⟨SqL.of qG.hl, SqL.of h⟩) ?_ ?_⟩
    · rintro i x σ G G' hi ⟨x12, x13, x14, asked, ax, ats, rfl, BG, KG, qG, hsl, hA, bA, rA, bb, lA⟩ ⟨T0, u, v, rfl, hT, rfl, e1, e2⟩
      obtain ⟨va, r, rfl, er, hva⟩ := qG.rl.get e1
      have e2 : lx[1 + i]? = some v := by
        have e2 : (lx.drop 1)[i]? = some v := e2
        rw [List.getElem?_drop] at e2
        exact e2
      obtain ⟨vb, r2, rfl, er2, hvb⟩ := qG.rl.get e2
      obtain rfl : r = lvf ps i := by
        rw [lvs_get (ps := ps) (by omega)] at er
        exact (Option.some.inj er).symm
      obtain rfl : r2 = lvf ps (1 + i) := by
        rw [lvs_get (ps := ps) (by omega)] at er2
        exact (Option.some.inj er2).symm
      have sT : Same G (L2.upd G T0 (.tup [.ref va, .ref vb])) := same_upd hT
      have hT1 : (L2.upd G T0 (.tup [.ref va, .ref vb])) T0 = some (.tup [.ref va, .ref vb]) := upd_same
      generalize L2.upd G T0 (.tup [.ref va, .ref vb]) = G1 at sT hT1 ⊢
      refine g2_at (.inl (.inl hT1)) ?_
      show tSeq _ _ _ [some (V.ref b), some (V.ref so), some (V.int mark), some (V.int last), x4, some (V.ref go), some (V.ref lv), x7, x8, x9, x10, some (V.ref asked), some (V.ref va), some (V.ref vb), x14, none, none] G1
      refine seq_op fun N1 hN1 => ?_
      walk_at "rs"
      have B1 := BG.same sT
      refine ⟨b, c, 30, 0, rfl, B1, by decide, by decide, fun y0 G2 y1 y2 B2 K2 => ⟨y0, rfl, lows (by decide) (pow_le (a := 5) (by omega) (by decide)) (pow_le (a := 5) (by decide) (by decide)) fun t3 G3 s3 n3 t31 => hN1 _ _ ?_⟩⟩
      clear hN1 N1
      have hs3 : Fv K G3 t3 (Rat.divInt (1 + y0) 31) := by
        refine Fv.of ?_
        rw [← fr_fq (1 + y0) (by decide : (31 : Int) ≠ 0)]
        exact t31
      have bs3 : bits (Rat.divInt (1 + y0) 31) ≤ 5 := bits_le rfl (by decide) (by decide) (by omega) (by decide)
      generalize Rat.divInt (1 + y0) 31 = sh at hs3 bs3
      have K3 : Kp b G G3 := Same.trans (Kp.of sT) (Same.trans K2 (Kp.of s3))
      have B3 := B2.same s3
      have q3 := ((qG.same sT).kp B1 K2).same s3
      have va3 : Fv K G3 va (lvf ps i) := Fv.same s3 (seqT_kp B1 K2 (hva.same sT))
      have vb3 : Fv K G3 vb (lvf ps (1 + i)) := Fv.same s3 (seqT_kp B1 K2 (hvb.same sT))
      have rA3 := ((rA.same sT).kp B1 K2).same s3
      have hA3 := Kp.get K3 bA hA
      have hsl3 := Kp.get K3 bsl hsl
      have KG3 := Same.trans KG K3
      have bd : bits (lvf ps (1 + i) - lvf ps i) ≤ 49 := Lv.sub_bits qG.ok.d0 qG.ok.d1 (lvf_lv qG.ok (by omega)) (lvf_lv qG.ok (by omega))
      have b1 := bl i (by omega)
      have b2 := bl (1 + i) (by omega)
      clear B1 B2 K2 s3 t31 hva hvb rA hA hsl sT hT1 K3 KG qG BG
      walk_at "rs"
      have bt2 := bits_mul sh (lvf ps (1 + i) - lvf ps i)
      refine ⟨vb, va, _, _, rfl, vb3, va3, by omega, by omega, trivial, fun t4 G4 s4 n4 t41 => ⟨t3, t4, sh, lvf ps (1 + i) - lvf ps i, rfl, hs3.same s4, Fv.of t41, by omega, by omega, trivial, fun t5 G5 s5 n5 t51 => ⟨va, t5, _, sh * (lvf ps (1 + i) - lvf ps i), rfl, va3.same (Same.trans s4 s5), Fv.of t51, by omega, by omega, trivial, fun t6 G6 s6 n6 t61 => ⟨by decide, fun p7 G7 s7 n7 t7 => ?_⟩⟩⟩⟩
      have s47 := Same.trans s4 (Same.trans s5 (Same.trans s6 s7))
      refine ⟨ax, s47 _ _ hA3, _, t7, Nat.le_trans (show ax.length + 2 ≤ 30 by omega) (by decide), fun p8 G8 s8 n8 t8 => ?_⟩
      have s48 := Same.trans s47 s8
      have h6 : Fv K G8 t6 (lvf ps i + sh * (lvf ps (1 + i) - lvf ps i)) := Fv.of (s8 _ _ (s7 _ _ t61))
      refine ⟨_, _, _, _, ⟨rfl, rfl, rfl, rfl⟩, B3.same s48, Same.trans KG3 (Kp.of s48), q3.same s48, s48 _ _ hsl3, _, t8, new_ne (B3.same s47) n8, ats ++ [lvf ps i, lvf ps i + sh * (lvf ps (1 + i) - lvf ps i)], (rA3.same s48).app (.cons (va3.same s48) (.cons h6 .nil)), fun r hr => ?_, ?_⟩
      · rcases List.mem_append.mp hr with hr | hr
        · exact bb r hr
        · simp only [List.mem_cons, List.not_mem_nil, or_false] at hr
          rcases hr with rfl | rfl
          · omega
          · have := bits_add (lvf ps i) (sh * (lvf ps (1 + i) - lvf ps i))
            omega
      · rw [List.length_append]
        show ax.length + 2 ≤ _
        omega
    · rintro σ G ⟨x12, x13, x14, asked, ax, ats, rfl, BG, KG, qG, hsl, hA, bA, rA, bb, lA⟩
      exact hN _ _ ⟨_, _, _, asked, ax, ats, rfl, BG, KG, qG, hA, rA, bb, by omega⟩
  · rintro σ G ⟨x12, x13, x14, asked, ax, ats, rfl, BG, KG, qG, hA, rA, bA, lA⟩
    exact go11 D _ G Hs b c so go lv asked xs us lx ax ps ats DD mark last x4 x7 x8 x9 x10 x12 x13 x14 k rfl BG KG qG hA rA bA (by omega)
end
end LK

set_option Elab.async false
set_option linter.all false
set_option maxRecDepth 100000
namespace LK
open PySem PySem.Spec PyProof.Rows L2
local macro_rules | `(tactic| walk_at "rs") => `(tactic| simp only [cxK, cxNK, tCallZ, tAsg, tOp, rI0, rS0, rB0, rI, rU, tUn, rEq, rNe, rIxL, rIxT, rIxS, rSetL, rSlLU, rSlS, rSlU, rCatL, rCatU, rRepL, rIn, tVar, tC, gName, gSub, tIfS, tTest, tB, tAnd, tOr, tNot, tNotV, tAndV, tOrV, tIf, tCall, tCons, tNil, tCB, tDrop, tRet, tRetN, tNext, tLstU, tTupU, tM0, tM1, tPar, tPar3, tAug, ipI, tBM, tBM0, rAppend, rPop, tBreak, sDPut, tDGet, tDGet2, tCont, tChain, tSl, tPart, tNoPart, L2.start, List.map, List.length_cons, List.length_nil, List.replicate, List.cons_append, List.nil_append, List.append_nil, List.getElem?_cons_zero, List.getElem?_cons_succ, List.set_cons_zero, List.set_cons_succ, Option.some.injEq, V.int.injEq, V.ref.injEq, V.str.injEq, V.bl.injEq, exists_eq_left', exists_eq_left, exists_and_left, decide_eq_true_eq, List.cons.injEq, and_true, true_and, scal, Bool.not_eq_true', decide_eq_false_iff_not, Nat.zero_add, Nat.reduceAdd, Nat.reduceSub, reduceCtorEq, false_and, exists_false, false_or, or_false, CPow, CPowW, CMul, CDiv, Int.reduceToNat, ↓reduceIte, wipe, sw, rv3, tListKeys, tDIn, tDNotIn, List.nil_append, List.singleton_append])
local macro_rules | `(tactic| walk_at "st") => `(tactic| (refine seq_op fun N hN => ?_; walk_at "rs"))
local macro_rules | `(tactic| walk_at "sd") => `(tactic| first | assumption | decide | omega)
local macro_rules | `(tactic| walk_at "rd") => `(tactic| repeat (first
  | refine ⟨_, SqL.of (by assumption), ?_⟩ | refine ⟨_, SqL.of upd_same, ?_⟩ | refine ⟨_, .inl (SqL.of (by assumption)), ?_⟩ | refine ⟨_, (by assumption : _ = some (HO.lst _)), ?_⟩ | refine ⟨_, upd_same, ?_⟩
  | refine ⟨_, rfl, ?_⟩ | refine And.intro (by walk_at "sd") ?_))

theorem g3_lst {K : PySem.W.Frag} {i j l : Nat} {p : Addr} {u v w : V} {σ : L2.St} {H : Hp} {Q : L2.St → Hp → Prop} (h : SqL K H p [u, v, w]) (q : Q (((σ.set i (some u)).set j (some v)).set l (some w)) H) : gLst K 3 (gCons (gName i) (gCons (gName j) (gCons (gName l) gNil))) (.ref p) σ H Q := ⟨p, _, rfl, h, rfl, u, _, rfl, v, _, rfl, w, _, rfl, rfl, q⟩
def dPt (p : Rat × Int) : PyData := .tuple [.tuple [.int (fq p.1).1, .int (fq p.1).2], .int p.2]
theorem Pts.dp {K : PySem.W.Frag} {H : Hp} : ∀ {xs : List V} {ps : List (Rat × Int)}, Pts K H xs ps → DpAll K H xs (ps.map dPt)
  | _, _, .nil => .nil
  | _, _, .cons h g q => .cons (.tup h (.cons (dp_pair g) (.cons (.int _) .nil))) q.dp
theorem okAll_ints : ∀ k : List Int, okAll (k.map PyData.int) = true
  | [] => rfl
  | i :: k => by
    show (okD (.int i) && okAll _) = true
    rw [okAll_ints k]
    rfl
theorem okAll_app : ∀ {a b : List PyData}, okAll a = true → okAll b = true → okAll (a ++ b) = true
  | [], _, _, h => h
  | d :: a, b, h, g => by
    unfold okAll at h
    rw [Bool.and_eq_true] at h
    show (okD d && okAll (a ++ b)) = true
    rw [h.1, okAll_app h.2 g]
    rfl
theorem depAll_ints : ∀ k : List Int, depAll (k.map PyData.int) = 0
  | [] => rfl
  | i :: k => by
    show max 0 (depAll _) = 0
    rw [depAll_ints k]
    rfl
theorem depAll_app : ∀ (a b : List PyData), depAll (a ++ b) = max (depAll a) (depAll b)
  | [], b => by show depAll b = max 0 (depAll b); rw [Nat.zero_max]
  | d :: a, b => by
    show max (dep d) (depAll (a ++ b)) = max (max (dep d) (depAll a)) (depAll b)
    rw [depAll_app a b, Nat.max_assoc]
theorem dIt_ok {it : It} (h : it.1.length ≤ 1000) : okD (dIt it) = true ∧ dep (dIt it) ≤ 2 := by
  constructor
  · refine okD_tup.mpr ⟨by rw [List.length_append, List.length_map]; simp only [List.length_cons, List.length_nil]; omega, okAll_app (okAll_ints _) rfl⟩
  · unfold dIt
    rw [dep_tup, depAll_app, depAll_ints]
    show max 0 (max (max 0 (max 0 0) + 1) 0) + 1 ≤ 2
    decide
theorem dIts_ok : ∀ {its : List It}, (∀ x ∈ its, x.1.length ≤ 1000) → okAll (its.map dIt) = true ∧ depAll (its.map dIt) ≤ 2
  | [], _ => ⟨rfl, by decide⟩
  | a :: its, h => by
    obtain ⟨h1, h2⟩ := dIt_ok (h a List.mem_cons_self)
    obtain ⟨g1, g2⟩ := dIts_ok (its := its) fun x hx => h x (List.mem_cons_of_mem _ hx)
    constructor
    · show (okD _ && okAll _) = true
      rw [h1, g1]
      rfl
    · show max _ _ ≤ 2
      omega
theorem gits_fit {ps : List (Rat × Int)} {D mark last : Int} (ok : PtsOk ps D mark last) {j : Nat} {gits : List It} (hn : Norm (accR (gvs (lvf ps) (clf ps) ps.length j)) gits) : Fit 1 gits ∧ Norm (accR gits) gits := by
  have st := steps_ok ok
  have l8 := ok.l8
  obtain ⟨_, hm⟩ := gvs_mem (c := clf ps) st j ps.length (Nat.le_refl _)
  have nw := norm_wt (B := 201) (fun z hz => (hm z hz).1) (fun k => gvs_201 st k j ps.length (Nat.le_refl _)) hn
  have key : ∀ x ∈ gits, ∃ i, i < ps.length ∧ x.1 = [clf ps i] := fun x hx => by
    obtain ⟨a1, a2, a3⟩ := hn.it x hx
    have : ∃ y ∈ gvs (lvf ps) (clf ps) ps.length j, y.1 = x.1 := Classical.byContradiction fun n => a2 ((rt_null a1).mp (a3.trans (accF_none fun it hit e => n ⟨it, hit, e⟩).2))
    obtain ⟨y, hy, e⟩ := this
    obtain ⟨_, _, i, h1, h2⟩ := hm y hy
    exact ⟨i, h1, by rw [← e, h2]⟩
  have len : gits.length ≤ 8 := by
    have := nodup_len (norm_keys hn) (S := (List.range ps.length).map fun i => [clf ps i]) fun k hk => by
      obtain ⟨x, hx, rfl⟩ := List.mem_map.mp hk
      obtain ⟨i, h1, h2⟩ := key x hx
      exact List.mem_map.mpr ⟨i, List.mem_range.mpr h1, h2.symm⟩
    rw [List.length_map, List.length_map, List.length_range] at this
    omega
  have e : accR gits = accR (gvs (lvf ps) (clf ps) ps.length j) := funext fun k => accR_norm hn k
  refine ⟨⟨fun x hx => ?_, fun k => ?_, ⟨gits.map (·.1), by rw [List.length_map]; omega, fun x hx => List.mem_map_of_mem hx⟩, by omega⟩, by rw [e]; exact hn⟩
  · obtain ⟨i, h1, h2⟩ := key x hx
    exact ⟨(hn.it x hx).1, Nat.le_trans (nw x hx) (by decide), by rw [h2]; rfl, by rw [h2]; exact bd_one (clf_in ok i h1)⟩
  · have := wtS_le (B := 201) k nw
    omega
theorem fq_sub0 (r : Rat) : fq (0 - r) = (0 - (fq r).1, (fq r).2) := by
  rw [show (0 : Rat) - r = -r by grind, neg_fq, Int.zero_sub]
theorem canL_pts : ∀ ps : List (Rat × Int), PyData.canLayAll0 (ps.map dPt) = true
  | [] => rfl
  | r :: ps => by
    have := canL_pts ps
    simp only [List.map_cons, PyData.canLayAll0, this, Bool.and_true]
    rfl
theorem depA_pts : ∀ ps : List (Rat × Int), PyData.depthAll (ps.map dPt) ≤ 2
  | [] => by decide
  | r :: ps => by
    have := depA_pts ps
    simp only [List.map_cons, PyData.depthAll]
    exact Nat.max_le.mpr ⟨Nat.le_refl 2, this⟩
theorem shaped_pts (ps : List (Rat × Int)) : SeqAt.shaped (.list (ps.map dPt)) = true := by
  unfold SeqAt.shaped
  have := depA_pts ps
  rw [Bool.and_eq_true]
  refine ⟨canL_pts ps, decide_eq_true ?_⟩
  show PyData.depthAll (ps.map dPt) + 1 ≤ 64
  omega
theorem dp_all {K : PySem.W.Frag} {H : Hp} : ∀ {us : List V}, (∀ v ∈ us, ∃ d, Dp K H v d) → ∃ ds, DpAll K H us ds
  | [], _ => ⟨[], .nil⟩
  | v :: us, h => by
    obtain ⟨d, hd⟩ := h v List.mem_cons_self
    obtain ⟨ds, hs⟩ := dp_all (us := us) fun u hu => h u (List.mem_cons_of_mem _ hu)
    exact ⟨d :: ds, .cons hd hs⟩
theorem PU.dp {K : PySem.W.Frag} {H : Hp} {us : List V} {ps : List (Rat × Int)} {mark last : Int} (q : PU K H us ps mark last) : ∃ ds, DpAll K H us ds := dp_all fun v hv => by
  obtain ⟨j, hj, e⟩ := List.getElem_of_mem hv
  obtain ⟨p, a, sh, g, ys, gs, its, gits, rfl, g1, g2, g3, g4, g5, g6, g7, g8, _⟩ := q.at_ j v (by rw [List.getElem?_eq_getElem hj, e])
  exact ⟨_, .tup g1 (.cons (.tup g2 g3.dp) (.cons (dp_pair g6) (.cons (.tup g7 g8.dp) .nil)))⟩
section
variable {P : Program} {w : World} {K : PySem.W.Frag} {mg : Str → Option Value} {base : Heap}
def sp_right : Sp := fun vs H Q _ => ∃ (b c : Addr), vs = [.ref b] ∧ Bag 0 H b c ∧ ∀ H', Bag 0 H' b c → Kp b H H' → Q (.bl true) H'
theorem ok__law_right (T : Txt w K mg) : FnOk P w K mg base CX0 9 T.a__law_right T.d__law_right ["bag"] sp_right := by
  refine T.F__law_right.ok sc__law_right (fun vs H Q E h => ?_) (fun cdv A outer s H vs Q E hr h => ?_)
  · obtain ⟨b, c, rfl, _⟩ := h
    rfl
  · obtain ⟨b, c, rfl, B, k⟩ := h
    have hr__law_draw : Room 1 _ := hr.mono (by decide)
    have G__law_draw := ok__law_draw (P := P) (base := base) T
    have hr__law_points : Room 4 _ := hr.mono (by decide)
    have G__law_points := ok__law_points (P := P) (base := base) T
    have hr_peak_units : Room 8 _ := hr
    have G_peak_units := ok_peak_units (P := P) (base := base) T
    have hr__law_minus : Room 3 _ := hr.mono (by decide)
    have G__law_minus := ok__law_minus (P := P) (base := base) T
    have hr__law_plus : Room 2 _ := hr.mono (by decide)
    have G__law_plus := ok__law_plusR (P := P) (base := base) T
    have hr__law_normal : Room 3 _ := hr.mono (by decide)
    have G__law_normal := ok__law_normal (P := P) (base := base) T
    have hr__law_like : Room 5 _ := hr.mono (by decide)
    have G__law_like := ok__law_like (P := P) (base := base) T 4
    obtain ⟨t09, h09, go09⟩ := right09 (P := P) (base := base) (outer := outer) (H0 := H) (E := E) T hr
    refine ⟨_, (pss_cons (ps_asg (pe_call G__law_points hr__law_points (by rfl) T.m__law_points T.F__law_points.kp T.B__law_points .nil pass0 (pa_cons (pv 0) pa_nil)) (pg_lst rfl (pgs_cons (pg_name (i := 1) sc__law_right.nd rfl (Or.inl rfl)) (pgs_cons (pg_name (i := 2) sc__law_right.nd rfl (Or.inl rfl)) (pgs_cons (pg_name (i := 3) sc__law_right.nd rfl (Or.inl rfl)) pgs_nil)))))
      (pss_cons (ps_set (i := 4) sc__law_right.nd rfl (Or.inl rfl) (pe_ifExp (pt_cmpR op_eqI (pe_call G__law_draw hr__law_draw (by rfl) T.m__law_draw T.F__law_draw.kp T.B__law_draw .nil pass0 (pa_cons (pv 0) (pa_cons pe_int pa_nil))) pe_int (nomark _)) (pe_callTy call_tupleN (by rfl) T.n_tuple (by decide +kernel) (pa_cons (pv 1) pa_nil)) (pe_callTy call_listU (by rfl) T.n_list (by decide +kernel) (pa_cons (pv 1) pa_nil))))
      (pss_cons (ps_set (i := 5) sc__law_right.nd rfl (Or.inl rfl) (pe_call G_peak_units hr_peak_units (by rfl) T.m_peak_units T.F_peak_units.kp T.B_peak_units .nil pass0 (pa_cons (pv 4) (pa_cons (pv 2) (pa_cons (pv 3) pa_nil)))))
      (pss_cons (ps_if (pt_cmpR op_eqI (pe_call G__law_draw hr__law_draw (by rfl) T.m__law_draw T.F__law_draw.kp T.B__law_draw .nil pass0 (pa_cons (pv 0) (pa_cons pe_int pa_nil))) pe_int (nomark _)) (pss_one (ps_set (i := 5) sc__law_right.nd rfl (Or.inl rfl) (pe_callZ (g := fun ws => rv3 ws) (gV := fun zs => rv3 zs) G_peak_units hr_peak_units (by rfl) T.m_peak_units T.F_peak_units.kp T.Z_peak_units pass0 (pk_cons (pv 3) (pk_cons (pv 2) (pk_cons (pv 4) pk_nil)))))) pss_nil)
      (pss_cons (ps_if (PW.pt (pw_or (pt_cmpR (op_neD hr.units) (pe_callTy call_listU (by rfl) T.n_list (by decide +kernel) (pa_cons (pv 4) pa_nil)) (pv 1) (nomark _)) (pw_or (pt_not (pt_val (pe_callB (call_isiDK (K := K) rfl) (by rfl) T.n_isinstance (by decide +kernel) (pa_cons (pv 5) (pa_cons (pe_bltn (v := .ty "tuple") (u := .type "tuple") (by rfl) T.n_tuple (by decide +kernel) rfl) pa_nil))))) (pw_or1 (pt_cmpR op_neI (pe_callB call_len_seq (by rfl) T.n_len (by decide +kernel) (pa_cons (pv 5) pa_nil)) (pe_op op_add (pe_callB call_len_seq (by rfl) T.n_len (by decide +kernel) (pa_cons (pv 1) pa_nil)) pe_int) (nomark _)))))) (pss_one (ps_ret pe_bl)) pss_nil)
      (pss_cons (ps_set (i := 6) sc__law_right.nd rfl (Or.inl rfl) (pe_op op_catL (pe_op op_catL (pe_lstU (pa_cons (pe_call G__law_minus hr__law_minus (by rfl) T.m__law_minus T.F__law_minus.kp T.B__law_minus .nil pass0 (pa_cons (pe_ix ix_tup (pe_ix ix_list (pv 1) pe_int (fun _ _ => rfl)) pe_int (fun _ _ => rfl)) (pa_cons (pe_tupU (pa_cons pe_int (pa_cons pe_int pa_nil))) pa_nil))) pa_nil)) (pe_lc (own := [("pair", 16)]) (g := gName 16) (tt := tYes) rfl sc__law_right.nd (pi_list (pv 1)) (blkOk_by (own := [("pair", 16)]) (N := N__law_right) (sc := defScope s__law_right) (by decide +kernel)) (fun _ _ _ _ _ => pg_name (i := 16) sc__law_right.nd rfl (Or.inl rfl)) (fun _ _ _ _ _ => pts_nil) (fun _ _ _ _ _ => (pe_ix (ix_tupK (K := K) rfl) (pv 16) pe_int (fun _ _ => rfl))))) (pe_lstU (pa_cons (pe_call G__law_plus hr__law_plus (by rfl) T.m__law_plus T.F__law_plus.kp T.B__law_plus .nil pass0 (pa_cons (pe_ix ix_tup (pe_ix ix_list (pv 1) (pe_un un_neg pe_int) (fun _ _ => rfl)) pe_int (fun _ _ => rfl)) (pa_cons (pe_tupU (pa_cons pe_int (pa_cons pe_int pa_nil))) pa_nil))) pa_nil))))
      (pss_cons (ps_set (i := 7) sc__law_right.nd rfl (Or.inl rfl) (pe_call G__law_minus hr__law_minus (by rfl) T.m__law_minus T.F__law_minus.kp T.B__law_minus .nil pass0 (pa_cons (pe_ix ix_list (pv 6) (pe_un un_neg pe_int) (fun _ _ => rfl)) (pa_cons (pe_ix ix_list (pv 6) pe_int (fun _ _ => rfl)) pa_nil))))
      (pss_cons (ps_set (i := 8) sc__law_right.nd rfl (Or.inl rfl) (pe_call G__law_normal hr__law_normal (by rfl) T.m__law_normal T.F__law_normal.kp T.B__law_normal .nil pass0 (pa_cons (pe_lstU (pa_cons (pe_tupU (pa_cons (pv 2) (pa_cons (pe_tupU (pa_cons pe_int (pa_cons pe_int pa_nil))) pa_nil))) (pa_cons (pe_tupU (pa_cons (pv 3) (pa_cons (pe_tupU (pa_cons (pe_op op_sub (pe_op op_sub pe_int pe_int) (pe_op op_fdivF (pe_ix ix_tup (pv 7) pe_int (fun _ _ => rfl)) (pe_ix ix_tup (pv 7) pe_int (fun _ _ => rfl)))) (pa_cons pe_int pa_nil))) pa_nil))) pa_nil))) pa_nil)))
      (pss_cons (ps_for PassesOwn.never rfl (pi_zipM (by rfl) T.n_zip (pa_cons (pv 5) (pa_cons (pv 6) pa_nil))) (pg_tup rfl (pgs_cons (pg_name (i := 9) sc__law_right.nd rfl (Or.inl rfl)) (pgs_cons (pg_name (i := 10) sc__law_right.nd rfl (Or.inl rfl)) pgs_nil))) (pss_cons (ps_if (PW.pt (pw_or (pt_not (pt_val (pe_callB (call_isiDK (K := K) rfl) (by rfl) T.n_isinstance (by decide +kernel) (pa_cons (pv 9) (pa_cons (pe_bltn (v := .ty "tuple") (u := .type "tuple") (by rfl) T.n_tuple (by decide +kernel) rfl) pa_nil))))) (pw_or (pt_cmpR op_neI (pe_callB call_len_seq (by rfl) T.n_len (by decide +kernel) (pa_cons (pv 9) pa_nil)) pe_int (nomark _)) (pw_or1 (pt_not (pt_val (pe_call G__law_like hr__law_like (by rfl) T.m__law_like T.F__law_like.kp T.B__law_like .nil pass0 (pa_cons (pe_slice sl_tupU (pv 9) po_none (po_some pe_int)) (pa_cons (pe_tupU (pa_cons (pv 8) (pa_cons (pe_tupU (pa_cons (pe_op op_sub pe_int (pe_ix ix_tup (pv 10) pe_int (fun _ _ => rfl))) (pa_cons (pe_ix ix_tup (pv 10) pe_int (fun _ _ => rfl)) pa_nil))) pa_nil))) pa_nil))))))))) (pss_one (ps_ret pe_bl)) pss_nil)
      (pss_one (ps_if (pt_not (pt_val (pe_call G__law_like hr__law_like (by rfl) T.m__law_like T.F__law_like.kp T.B__law_like .nil pass0 (pa_cons (pe_ix ix_tup (pv 9) pe_int (fun _ _ => rfl)) (pa_cons (pe_call G__law_normal hr__law_normal (by rfl) T.m__law_normal T.F__law_normal.kp T.B__law_normal .nil pass0 (pa_cons (pe_callTy call_listU (by rfl) T.n_list (by decide +kernel) (pa_cons (pe_ix ix_tup (pv 9) pe_int (fun _ _ => rfl)) pa_nil)) pa_nil)) pa_nil))))) (pss_one (ps_ret pe_bl)) pss_nil))))
      h09))))))))), ?_⟩
    refine seq_op fun N hN => ?_
    walk_at "rs"
    refine ⟨b, c, rfl, B, fun t so xs ps DD mark last H1 B1 K1 ht bt hso bso tp ok => g3_lst (SqL.of ht) (hN _ _ ?_)⟩
    clear hN N ht bt
    refine cut_seq (fun σ G => ∃ pa : Addr, σ = [some (.ref b), some (.ref so), some (.int mark), some (.int last), some (.ref pa), none, none, none, none, none, none, none, none, none, none, none, none] ∧ Bag 0 G b c ∧ Kp b H G ∧ G so = some (.lst xs) ∧ Pts K G xs ps ∧ (G pa = some (.lst xs) ∨ G pa = some (.tup xs)) ∧ pa ≠ b) (fun N hN => ?_) ?_
    · show tAsg _ _ _ [some (.ref b), some (.ref so), some (.int mark), some (.int last), none, none, none, none, none, none, none, none, none, none, none, none, none] H1
      walk_at "rs"
      refine ⟨b, c, 3, 0, rfl, B1, by decide, by decide, fun r H2 _ _ B2 K2 => ⟨r, rfl, ?_⟩⟩
      have hs2 := Kp.get K2 bso hso
      have tp2 := tp.kp B1 K2
      have KH2 := Same.trans K1 K2
      refine ite2 (fun _ => ?_) (fun _ => ?_)
      · exact ⟨xs, SqL.of hs2, fun p H3 s3 n3 t3 => hN _ _ ⟨p, rfl, B2.same s3, Same.trans KH2 (Kp.of s3), s3 _ _ hs2, tp2.same s3, .inr t3, new_ne B2 n3⟩⟩
      · exact ⟨xs, .inl (SqL.of hs2), fun p H3 s3 n3 t3 => hN _ _ ⟨p, rfl, B2.same s3, Same.trans KH2 (Kp.of s3), s3 _ _ hs2, tp2.same s3, .inl t3, new_ne B2 n3⟩⟩
    clear tp hso B1 K1 H1 B
    rintro σ G ⟨pa, rfl, BG, KG, hso, tp, hpa, bpa⟩
    have sq : ∀ {J : Hp}, (J pa = some (.lst xs) ∨ J pa = some (.tup xs)) → SeqI K J pa xs := fun h => h.elim (fun h => .inl (SqL.of h)) (fun h => .inr (.inl (.inl h)))
    refine seq_op fun N hN => ?_
    walk_at "rs"
    refine ⟨pa, xs, ps, DD, mark, last, rfl, sq hpa, tp, ok, fun go us G1 s1 hg pu => hN _ _ ?_⟩
    clear hN N
    have p1 : G1 pa = some (.lst xs) ∨ G1 pa = some (.tup xs) := hpa.imp (s1 _ _) (s1 _ _)
    have B1 := BG.same s1
    have K1 : Kp b H G1 := Same.trans KG (Kp.of s1)
    have so1 := s1 _ _ hso
    have tp1 := tp.same s1
    have ng : go ≠ b := fun z => by
      obtain ⟨q, e⟩ := B1.at
      rw [← z, hg] at e; cases e
    clear s1 BG KG hso tp hpa G
    refine cut_seq (fun σ G => ∃ (go : Addr) (us : List V), σ = [some (.ref b), some (.ref so), some (.int mark), some (.int last), some (.ref pa), some (.ref go), none, none, none, none, none, none, none, none, none, none, none] ∧ Bag 0 G b c ∧ Kp b H G ∧ G so = some (.lst xs) ∧ Pts K G xs ps ∧ (G pa = some (.lst xs) ∨ G pa = some (.tup xs)) ∧ G go = some (.tup us) ∧ PU K G us ps mark last ∧ go ≠ b) (fun N hN => ?_) ?_
    · walk_at "rs"
      refine ⟨b, c, 3, 0, rfl, B1, by decide, by decide, fun r H2 _ _ B2 K2 => ⟨r, rfl, ?_⟩⟩
      have hs2 := Kp.get K2 bso so1
      have tp2 := tp1.kp B1 K2
      have KH2 := Same.trans K1 K2
      have p2 : H2 pa = some (.lst xs) ∨ H2 pa = some (.tup xs) := p1.imp (Kp.get K2 bpa) (Kp.get K2 bpa)
      refine ite2 (fun _ => ?_) (fun _ => hN _ _ ⟨go, us, rfl, B2, KH2, hs2, tp2, p2, Kp.get K2 ng hg, pu.kp B1 K2, ng⟩)
      refine ⟨pa, xs, ps, DD, mark, last, rfl, sq p2, tp2, ok, fun go us G2 s2 hg pu => hN _ _ ⟨go, us, rfl, B2.same s2, Same.trans KH2 (Kp.of s2), s2 _ _ hs2, tp2.same s2, p2.imp (s2 _ _) (s2 _ _), hg, pu, fun z => ?_⟩⟩
      obtain ⟨q, e⟩ := (B2.same s2).at
      rw [← z, hg] at e; cases e
    clear B1 K1 so1 tp1 p1 hg pu ng G1
    rintro σ G ⟨go, us, rfl, BG, KG, hso, tp, hpa, hg, pu, ng⟩
    have lus := pu.ln
    have lxs := tp.len
    refine seq_op fun N hN => ?_
    walk_at "rs"
    refine ⟨xs, hpa.elim (fun h => .inl (SqL.of h)) (fun h => .inr (.inl (.inl h))), fun l G2 s2 n2 t2 => ⟨_, _, .lst (SqL.of t2) (tp.same s2).dp, .lst (SqL.of (s2 _ _ hso)) (tp.same s2).dp, shaped_pts ps, shaped_pts ps, _, rfl, ?_⟩⟩
    rw [SeqAt.eqv_refl _ (SeqAt.canLay_of_shaped (shaped_pts ps)), if_neg (by simp)]
    have hg2 := s2 _ _ hg
    obtain ⟨ds, hds⟩ := (pu.same s2).dp
    refine ⟨_, "tuple", ⟨rfl, rfl⟩, _, .tup (.inl (.inl hg2)) hds, by simp, iteFF (by simp [isTy]) ⟨us, .inr (.inl (.inl hg2)), xs, .inl (SqL.of (s2 _ _ hso)), iteFF (fun z => z (by omega)) (hN _ _ ?_)⟩⟩
    clear hN N hds ds
    have B2 := BG.same s2
    have K2 := Same.trans KG (Kp.of s2)
    have so2 := s2 _ _ hso
    have tp2 := tp.same s2
    have pu2 := pu.same s2
    clear BG KG hso tp pu hg s2 t2 n2 hpa G
    refine seq_op fun N hN => ?_
    walk_at "rs"
    have l1 := ok.l1
    have l8 := ok.l8
    obtain ⟨p0, u0, r0, c0, e0, ep0, h0, hu0⟩ := tp2.get (List.getElem?_eq_getElem (show 0 < xs.length by omega))
    obtain ⟨p1, u1, r1, c1, e1, ep1, h1, hu1⟩ := tp2.get (List.getElem?_eq_getElem (show xs.length - 1 < xs.length by omega))
    have bb : ∀ {r c i}, ps[i]? = some (r, c) → bits r ≤ 3990 := fun {r c i} h => by
      have hm := List.mem_of_getElem? h
      have := lvs_lv ok r (List.mem_cons_of_mem _ (List.mem_append_left _ (List.mem_map.mpr ⟨_, hm, rfl⟩)))
      exact Nat.le_trans (this.bits ok.d0 ok.d1) (by decide)
    refine ⟨xs, SqL.of so2, _, at_ofN (j := 0) rfl (by rw [List.getElem?_eq_getElem (show 0 < xs.length by omega), e0]), p0, rfl, _, h0, _, rfl, by decide, fun q1 H3 s3 n3 t3 => ⟨u0, q1, r0, 1, rfl, hu0.same s3, .inl (.inl t3), bb ep0, by decide, trivial, fun t4 H4 s4 n4 t41 => ⟨by decide, fun q5 H5 s5 n5 t5 => ?_⟩⟩⟩
    have s35 := Same.trans s3 (Same.trans s4 s5)
    refine lc_lsI (K := K) (a := so) (xs := xs) (fun Q q => ⟨_, rfl, q⟩) (SqL.of (s35 _ _ so2)) (fun D i G ys => Same H5 G ∧ Rats K G ys ((ps.take i).map fun p : Rat × Int => p.1)) (by omega) (fun D i G ys ⟨sG, _⟩ => SqL.of (sG _ _ (s35 _ _ so2))) (fun D hD => ⟨same_upd hD, .nil⟩) (fun D i x G ys hD ex hG ly ⟨sG, ra⟩ Q2 hq => ?_) fun D6 G6 ry hD6 hG6 ly ⟨s6, ry6⟩ => ?_
    · obtain ⟨pa', u, r, c', rfl, ep, g1, g2⟩ := tp2.get ex
      walk_at "rs"
      have sG2 := Same.trans s35 sG
      refine ⟨_, Same.seqT sG2 g1, _, rfl, hq _ G hG ⟨same_updN sG hD, ?_⟩⟩
      have et : ps.take (i + 1) = ps.take i ++ [(r, c')] := by
        obtain ⟨hk, e⟩ := List.getElem?_eq_some_iff.mp ep
        rw [← List.take_append_getElem hk, e]
      rw [et, List.map_append]
      exact (ra.app (.cons (g2.same sG2) .nil)).updO (notT_lst hG)
    rw [lxs, List.take_length] at ry6
    refine ⟨D6, rfl, _, s6 _ _ t5, ry, hG6, Nat.le_trans (show 1 + ry.length ≤ 9 by omega) (by decide), fun q7 H7 s7 n7 t7 => ?_⟩
    have s37 := Same.trans s35 (Same.trans s6 s7)
    refine ⟨xs, SqL.of (s37 _ _ so2), _, at_last (by rw [List.getElem?_eq_getElem (show xs.length - 1 < xs.length by omega), e1]), p1, rfl, _, Same.seqT s37 h1, _, rfl, by decide, fun q8 H8 s8 n8 t8 => ⟨u1, q8, r1, 1, rfl, hu1.same (Same.trans s37 s8), .inl (.inl t8), bb ep1, by decide, trivial, fun t9 H9 s9 n9 t91 => ⟨by decide, fun qA HA sA nA tA => ⟨_, sA _ _ (s9 _ _ (s8 _ _ t7)), _, tA, Nat.le_trans (show ([V.ref t4] ++ ry).length + 1 ≤ 10 by rw [List.length_append, List.length_singleton]; omega) (by decide), fun lv HB sB nB tB => hN _ _ ?_⟩⟩⟩⟩
    clear hN N
    have s9B := Same.trans s9 (Same.trans sA sB)
    have s8B := Same.trans s8 s9B
    have s7B := Same.trans s7 s8B
    have s4B : Same H4 HB := Same.trans s5 (Same.trans s6 s7B)
    have sL : Same G2 HB := Same.trans s37 s8B
    have rlB : Rats K HB ([V.ref t4] ++ ry ++ [V.ref t9]) (lvs (ps.map (·.1))) := by
      have g0 : (ps.map (fun p : Rat × Int => p.1)).getD 0 0 = r0 := by
        rw [List.getD_eq_getElem?_getD, List.getElem?_map, ep0]
        rfl
      have g1 : (ps.map (fun p : Rat × Int => p.1)).getD ((ps.map (fun p : Rat × Int => p.1)).length - 1) 0 = r1 := by
        rw [List.length_map, ← lxs, List.getD_eq_getElem?_getD, List.getElem?_map, ep1]
        rfl
      unfold lvs
      rw [g0, g1]
      have f4 : Fv K HB t4 (r0 - 1) := Fv.of (s4B _ _ t41)
      have f9 : Fv K HB t9 (r1 + 1) := Fv.of (Same.trans sA sB _ _ t91)
      exact .cons f4 ((ry6.same s7B).app (.cons f9 .nil))
    generalize [V.ref t4] ++ ry ++ [V.ref t9] = lx at rlB tB
    have q0 : Kr K HB b so go lv xs us lx ps DD mark last := ⟨ok, sL _ _ so2, bso, tp2.same sL, sL _ _ hg2, ng, pu2.same sL, tB, new_ne (B2.same (Same.trans s37 (Same.trans s8 (Same.trans s9 sA)))) nB, rlB⟩
    have BB := B2.same sL
    have KB := Same.trans K2 (Kp.of sL)
    clear s3 s4 s5 s6 s7 s8 s9 sA sB s35 s37 s9B s8B s7B s4B sL t3 t41 t5 hG6 ry6 t7 t8 t91 tA tB n3 n4 n5 hD6 n7 n8 n9 nA nB rlB B2 K2 so2 tp2 hg2 pu2 h0 h1 hu0 hu1 ep0 ep1 e0 e1
    refine seq_op fun N hN => ?_
    walk_at "rs"
    have lrl := q0.rl.len
    have eln : (lvs (ps.map (·.1))).length = ps.length + 2 := by rw [lvs_len, List.length_map]
    have bl : ∀ j, j < ps.length + 2 → bits (lvf ps j) ≤ 49 := fun j hj => (lvf_lv ok hj).bits ok.d0 ok.d1
    obtain ⟨v0, ev0, hv0⟩ := q0.rl.has (lvs_get (ps := ps) (j := 0) (by omega))
    obtain ⟨vt, evt, hvt⟩ := q0.rl.has (lvs_get (ps := ps) (j := ps.length + 1) (by omega))
    refine ⟨lx, SqL.of q0.hl, _, at_last (by rw [lrl, eln]; exact evt), lx, SqL.of q0.hl, _, at_ofN (j := 0) rfl ev0, vt, v0, _, _, rfl, hvt, hv0, Nat.le_trans (bl _ (by omega)) (by decide), Nat.le_trans (bl _ (by omega)) (by decide), trivial, fun wd H1 s1 n1 t1 => hN _ _ ?_⟩
    clear hN N
    have q1 := q0.same s1
    have B1 := BB.same s1
    have K1 := Same.trans KB (Kp.of s1)
    have hw : Fv K H1 wd (lvf ps (ps.length + 1) - lvf ps 0) := Fv.of t1
    clear s1 t1 hv0 hvt BB KB q0 n1
    refine seq_op fun N hN => ?_
    walk_at "rs"
    obtain ⟨st1, st2, _⟩ := stp_in ok
    have bd : bits (lvf ps (ps.length + 1) - lvf ps 0) ≤ 3990 := Nat.le_trans (Lv.sub_bits ok.d0 ok.d1 (lvf_lv ok (by omega)) (lvf_lv ok (by omega))) (by decide)
    have es : 0 - 3 - (fq (lvf ps (ps.length + 1) - lvf ps 0)).1.fdiv (fq (lvf ps (ps.length + 1) - lvf ps 0)).2 = -(stp ps) := by unfold stp; omega
    refine ⟨by decide, fun p2 H2 s2 n2 t2 => ⟨by decide, fun p3 H3 s3 n3 t3 => ⟨_, hw.same (Same.trans s2 s3), _, rfl, _, hw.same (Same.trans s2 s3), _, rfl, _, rfl, _, rfl, ⟨den0 _, logL (b4000 bd).2 (by decide) (by decide)⟩, by decide, fun p4 H4 s4 n4 t4 => ⟨by decide, fun p5 H5 s5 n5 t5 => ⟨by decide, fun p6 H6 s6 n6 t6 => ?_⟩⟩⟩⟩⟩
    rw [es] at t4
    have s46 := Same.trans s4 (Same.trans s5 s6)
    have it6 : Its K H6 [.ref p3, .ref p5] (tms [mark] last (stp ps)) := .cons (k := [mark]) (f := (1, 1)) (.inl (.inl (s46 _ _ t3))) (.inl (.inl (s46 _ _ (s3 _ _ t2)))) (.cons (k := [last]) (f := (-(stp ps), 1)) (.inl (.inl (s6 _ _ t5))) (.inl (.inl (s6 _ _ (s5 _ _ t4)))) .nil)
    refine ⟨p6, _, tms [mark] last (stp ps), rfl, .inl (SqL.of t6), it6, tms_fit (fun x hx => by rw [List.mem_singleton.mp hx]; exact ok.sc) ok.rs (by show 1 ≤ 30; decide) (Nat.lt_of_le_of_lt (show (stp ps).natAbs ≤ 2005 by omega) (by decide)), fun tt zs its2 H7 s7 h7 i7 n7 l7 => hN _ _ ?_⟩
    clear hN N
    have s17 := Same.trans (Same.trans s2 s3) (Same.trans s46 s7)
    have q7 := q1.same s17
    have B7 := B1.same s17
    have K7 := Same.trans K1 (Kp.of s17)
    clear s2 s3 s4 s5 s6 s7 s46 s17 t2 t3 t4 t5 t6 it6 hw q1 B1 K1 n2 n3 n4 n5 n6 es
    refine cut_seq (fun σ G => ∃ (x9 x10 : Option V), σ = [some (.ref b), some (.ref so), some (.int mark), some (.int last), some (.ref pa), some (.ref go), some (.ref lv), some (.ref wd), some (.ref tt), x9, x10, none, none, none, none, none, none] ∧ Same H7 G) (fun N hN => ?_) ?_
    · walk_at "rs"
      refine ⟨_, rfl, _, rfl, go, lv, us, lx, rfl, .inl (.inl q7.hg), SqL.of q7.hl, for_it (walk_zipM (K := K) (a := go) (b := lv) (xs := us) (ys := lx) (n := ps.length + 2) lus (lrl.trans eln)) (fun i σ G => ∃ (x9 x10 : Option V), σ = [some (.ref b), some (.ref so), some (.int mark), some (.int last), some (.ref pa), some (.ref go), some (.ref lv), some (.ref wd), some (.ref tt), x9, x10, none, none, none, none, none, none] ∧ Same H7 G) ⟨_, _, rfl, Same.refl _⟩ (fun i σ G _ ⟨_, _, _, s⟩ => ⟨.inl (.inl (s _ _ q7.hg)), SqL.of (s _ _ q7.hl)⟩) ?_ ?_⟩
      · rintro i x σ G G' hi ⟨x9, x10, rfl, sG⟩ ⟨T0, u, v, rfl, hT, rfl, e1, e2⟩
        have qG := q7.same sG
        obtain ⟨p, a, sh, g, ys, gs, its, gits, rfl, g1, g2, g3, g4, g5, g6, g7, g8, g9, g10⟩ := qG.pu.at_ i u e1
        obtain ⟨va, r, rfl, er, hva⟩ := qG.rl.get e2
        obtain rfl : r = lvf ps i := by
          rw [lvs_get (ps := ps) hi] at er
          exact (Option.some.inj er).symm
        have sT : Same G (L2.upd G T0 (.tup [.ref p, .ref va])) := same_upd hT
        have hT1 : (L2.upd G T0 (.tup [.ref p, .ref va])) T0 = some (.tup [.ref p, .ref va]) := upd_same
        generalize L2.upd G T0 (.tup [.ref p, .ref va]) = G1 at sT hT1 ⊢
        have sG1 := Same.trans sG sT
        refine g2_at (.inl (.inl hT1)) ?_
        show tSeq _ _ _ [some (V.ref b), some (V.ref so), some (V.int mark), some (V.int last), some (V.ref pa), some (V.ref go), some (V.ref lv), some (V.ref wd), some (V.ref tt), some (V.ref p), some (V.ref va), none, none, none, none, none, none] G1
        refine seq_op fun N1 hN1 => ?_
        walk_at "rs"
        have mk := norm_one (fun z hz => by
          rcases List.mem_append.mp hz with hz | hz
          · obtain ⟨c, _, rfl⟩ := List.mem_map.mp hz
            rfl
          · obtain rfl := List.mem_singleton.mp hz
            rfl) g4
        obtain ⟨fit, ng2⟩ := gits_fit ok g9
        have mg1 := norm_one (fun z hz => (fit.it z hz).2.2.1) ng2
        obtain ⟨o1, o2⟩ := dIts_ok (its := its) fun z hz => by have := (mk z hz).1; omega
        obtain ⟨o3, o4⟩ := dIts_ok (its := gits) fun z hz => by have := (mg1 z hz).1; omega
        have ei : its2 = its := n7.uniq g4
        subst ei
        have g1' := Same.seqT sT g1
        refine ⟨_, "tuple", ⟨rfl, rfl⟩, _, .tup g1' (.cons (.tup (Same.seqT sT g2) (g3.same sT).dp) (.cons (dp_pair (Same.seqT sT g6)) (.cons (.tup (Same.seqT sT g7) (g8.same sT).dp) .nil))), by simp, iteFF (by simp [isTy]) ⟨_, .inr g1', iteFF (fun z => z rfl) ⟨_, g1', fun q G2 s2 hq => ?_⟩⟩⟩
        rw [show cutV [V.ref a, V.ref sh, V.ref g] none (some 2) = [V.ref a, V.ref sh] from cutV_take _ 2] at hq
        have hv2 : Fv K G2 va (lvf ps i) := hva.same (Same.trans sT s2)
        refine ⟨_, hv2, _, rfl, _, rfl, _, hv2, _, rfl, by decide, fun p8 H8 s8 n8 t8 => ⟨by decide, fun p9 H9 s9 n9 t9 => ?_⟩⟩
        have s29 := Same.trans s2 (Same.trans s8 s9)
        have sT9 := Same.trans sT s29
        have d6 : Dp K H9 (.ref sh) (.tuple [.int (0 - (fq (lvf ps i)).1), .int (fq (lvf ps i)).2]) := by
          have := dp_pair (Same.seqT sT9 g6)
          rw [fq_sub0] at this
          exact this
        refine ⟨.ref q, .ref p9, .tuple [.tuple (its2.map dIt), .tuple [.int (0 - (fq (lvf ps i)).1), .int (fq (lvf ps i)).2]], rfl, .tup (Same.seqT (Same.trans s8 s9) hq) (.cons (.tup (Same.seqT sT9 g2) (g3.same sT9).dp) (.cons d6 .nil)), .tup (.inl (.inl t9)) (.cons (.tup (Same.seqT (Same.trans sG1 s29) h7) (i7.same (Same.trans sG1 s29)).dp) (.cons (dp_pair (.inl (.inl (s9 _ _ t8)))) .nil)), ?_, ?_, fun HA sA => ⟨true, rfl, ?_⟩⟩
        · refine okD_tup.mpr ⟨by show 2 ≤ 100000; decide, ?_⟩
          show (okD (.tuple (its2.map dIt)) && (okD _ && true)) = true
          rw [okD_tup.mpr ⟨by rw [List.length_map]; omega, o1⟩]
          rfl
        · rw [dep_tup]
          show max (depAll (its2.map dIt) + 1) (max (dep (.tuple [.int (0 - (fq (lvf ps i)).1), .int (fq (lvf ps i)).2])) 0) + 1 ≤ 4
          rw [show dep (.tuple [.int (0 - (fq (lvf ps i)).1), .int (fq (lvf ps i)).2]) = 1 from rfl]
          omega
        rw [if_neg (by simp)]
        refine hN1 _ _ ?_
        clear hN1 N1
        have sA2 := Same.trans s29 sA
        have sTA := Same.trans sT sA2
        walk_at "rs"
        have gA := Same.seqT sTA g1
        refine ⟨_, gA, _, rfl, _, gA, _, rfl, g, rfl, gs, .inr (Same.seqT sTA g7), fun lq HB sB nB tB => ⟨lq, gs, gits, rfl, .inl (SqL.of tB), g8.same (Same.trans sTA sB), fit, fun tu zu its3 HC sC hC iC nC lC => ?_⟩⟩
        have ei : its3 = gits := nC.uniq ng2
        subst ei
        have sTC := Same.trans sTA (Same.trans sB sC)
        refine ⟨.ref g, .ref tu, .tuple (its3.map dIt), rfl, .tup (Same.seqT sTC g7) (g8.same sTC).dp, .tup hC iC.dp, okD_tup.mpr ⟨by rw [List.length_map]; omega, o3⟩, by rw [dep_tup]; omega, fun HD sD => ⟨true, rfl, ?_⟩⟩
        rw [if_neg (by simp)]
        exact ⟨_, _, ⟨rfl, rfl⟩, Same.trans sG (Same.trans sTC sD)⟩
      · rintro σ G ⟨x9, x10, rfl, sG⟩
        exact hN _ _ ⟨_, _, rfl, sG⟩
    · rintro σ G ⟨x9, x10, rfl, sG⟩
      exact go09 _ _ G H b c so go lv xs us lx ps DD mark last _ _ _ _ _ (fun H' N B3 K3 => k H' B3 K3) rfl (B7.same sG) (Same.trans K7 (Kp.of sG)) (q7.same sG)
end
end LK

set_option Elab.async false
set_option linter.all false
set_option maxRecDepth 100000
namespace LK
open PySem PySem.Spec PyProof.Rows L2
local macro_rules | `(tactic| walk_at "rs") => `(tactic| simp only [cxK, cxNK, tCallZ, tAsg, tOp, rI0, rS0, rB0, rI, rU, tUn, rEq, rNe, rIxL, rIxT, rIxS, rSetL, rSlLU, rSlS, rSlU, rCatL, rCatU, rRepL, rIn, tVar, tC, gName, gSub, tIfS, tTest, tB, tAnd, tOr, tNot, tNotV, tAndV, tOrV, tIf, tCall, tCons, tNil, tCB, tDrop, tRet, tRetN, tNext, tLstU, tTupU, tM0, tM1, tPar, tPar3, tAug, ipI, tBM, tBM0, rAppend, rPop, tBreak, sDPut, tDGet, tDGet2, tCont, tChain, tSl, tPart, tNoPart, L2.start, List.map, List.length_cons, List.length_nil, List.replicate, List.cons_append, List.nil_append, List.append_nil, List.getElem?_cons_zero, List.getElem?_cons_succ, List.set_cons_zero, List.set_cons_succ, Option.some.injEq, V.int.injEq, V.ref.injEq, V.str.injEq, V.bl.injEq, exists_eq_left', exists_eq_left, exists_and_left, decide_eq_true_eq, List.cons.injEq, and_true, true_and, scal, Bool.not_eq_true', decide_eq_false_iff_not, Nat.zero_add, Nat.reduceAdd, Nat.reduceSub, reduceCtorEq, false_and, exists_false, false_or, or_false, CPow, CPowW, CMul, CDiv, Int.reduceToNat, ↓reduceIte, wipe, sw, rv3, tListKeys, tDIn, tDNotIn, List.nil_append, List.singleton_append])
local macro_rules | `(tactic| walk_at "st") => `(tactic| (refine seq_op fun N hN => ?_; walk_at "rs"))
local macro_rules | `(tactic| walk_at "sd") => `(tactic| first | assumption | decide | omega)
local macro_rules | `(tactic| walk_at "rd") => `(tactic| repeat (first
  | refine ⟨_, SqL.of (by assumption), ?_⟩ | refine ⟨_, SqL.of upd_same, ?_⟩ | refine ⟨_, .inl (SqL.of (by assumption)), ?_⟩ | refine ⟨_, (by assumption : _ = some (HO.lst _)), ?_⟩ | refine ⟨_, upd_same, ?_⟩
  | refine ⟨_, rfl, ?_⟩ | refine And.intro (by walk_at "sd") ?_))

def sp_law (K : PySem.W.Frag) : Sp := fun vs H Q _ => ∃ (a : Addr) (ns : List Int), vs = [.ref a] ∧ SqL K H a (ns.map V.int) ∧ ns.length ≤ 63 ∧ ∀ H', Q (.bl true) H'
section
variable {P : Program} {w : World} {K : PySem.W.Frag} {mg : Str → Option Value} {base : Heap}
theorem ok_law (T : Txt w K mg) : FnOk P w K mg base CX0 10 T.a_law T.d_law ["script"] (sp_law K) := by
  refine T.F_law.ok sc_law (fun vs H Q E h => ?_) (fun cdv A outer s H vs Q E hr h => ?_)
  · obtain ⟨a, ns, rfl, _⟩ := h
    rfl
  · obtain ⟨a, ns, rfl, ha, l63, k⟩ := h
    have hr__law_bag : Room 1 _ := hr.mono (by decide)
    have G__law_bag := ok__law_bag (P := P) (base := base) T
    have hr__law_right : Room 9 _ := hr
    have G__law_right := ok__law_right (P := P) (base := base) T
    refine ⟨_, (pss_cons (ps_set (i := 1) sc_law.nd rfl (Or.inl rfl) (pe_call G__law_bag hr__law_bag (by rfl) T.m__law_bag T.F__law_bag.kp T.B__law_bag .nil pass0 (pa_cons (pv 0) pa_nil)))
      (pss_cons (ps_for PassesOwn.never rfl (pi_range1 (by rfl) T.n_range (pa_cons pe_int pa_nil)) (pg_name (i := 2) sc_law.nd rfl (Or.inl rfl)) (pss_one (ps_if (pt_not (pt_val (pe_call G__law_right hr__law_right (by rfl) T.m__law_right T.F__law_right.kp T.B__law_right .nil pass0 (pa_cons (pv 1) pa_nil)))) (pss_one (ps_ret pe_bl)) pss_nil)))
      (pss_one (ps_ret pe_bl)))), ?_⟩
    refine seq_op fun N hN => ?_
    walk_at "rs"
    refine ⟨a, ns, rfl, ha, l63, fun b c H1 s1 B1 b0 => hN _ _ ?_⟩
    clear hN N
    refine cut_seq (fun σ G => ∃ (x2 : Option V), σ = [some (.ref a), some (.ref b), x2] ∧ Bag 0 G b c) (fun N hN => ?_) ?_
    · walk_at "rs"
      refine ⟨_, rfl, by decide, by decide, for_it walk_range (fun i σ G => ∃ (x2 : Option V), σ = [some (.ref a), some (.ref b), x2] ∧ Bag 0 G b c) ⟨_, rfl, B1⟩ (fun _ _ _ _ _ => trivial) ?_ ?_⟩
      · rintro i x σ G G' hi ⟨x2, rfl, BG⟩ ⟨rfl, rfl⟩
        walk_at "rs"
        refine ⟨b, c, rfl, BG, fun H' BH _ => ⟨true, rfl, ?_⟩⟩
        rw [if_neg (by simp)]
        exact BH
      · rintro σ G ⟨x2, rfl, BG⟩
        exact hN _ _ ⟨_, rfl, BG⟩
    · rintro σ G ⟨x2, rfl, BG⟩
      walk_at "rs"
      exact k G
end
end LK

set_option Elab.async false
set_option linter.all false
set_option maxRecDepth 100000
namespace LK
open PySem PySem.Spec PyProof.Rows L2
local macro_rules | `(tactic| walk_at "rs") => `(tactic| simp only [cxK, cxNK, tCallZ, tAsg, tOp, rI0, rS0, rB0, rI, rU, tUn, rEq, rNe, rIxL, rIxT, rIxS, rSetL, rSlLU, rSlS, rSlU, rCatL, rCatU, rRepL, rIn, tVar, tC, gName, gSub, tIfS, tTest, tB, tAnd, tOr, tNot, tNotV, tAndV, tOrV, tIf, tCall, tCons, tNil, tCB, tDrop, tRet, tRetN, tNext, tLstU, tTupU, tM0, tM1, tPar, tPar3, tAug, ipI, tBM, tBM0, rAppend, rPop, tBreak, sDPut, tDGet, tDGet2, tCont, tChain, tSl, tPart, tNoPart, L2.start, List.map, List.length_cons, List.length_nil, List.replicate, List.cons_append, List.nil_append, List.append_nil, List.getElem?_cons_zero, List.getElem?_cons_succ, List.set_cons_zero, List.set_cons_succ, Option.some.injEq, V.int.injEq, V.ref.injEq, V.str.injEq, V.bl.injEq, exists_eq_left', exists_eq_left, exists_and_left, decide_eq_true_eq, List.cons.injEq, and_true, true_and, scal, Bool.not_eq_true', decide_eq_false_iff_not, Nat.zero_add, Nat.reduceAdd, Nat.reduceSub, reduceCtorEq, false_and, exists_false, false_or, or_false, CPow, CPowW, CMul, CDiv, Int.reduceToNat, ↓reduceIte, wipe, sw, rv3, tListKeys, tDIn, tDNotIn, List.nil_append, List.singleton_append])
local macro_rules | `(tactic| walk_at "st") => `(tactic| (refine seq_op fun N hN => ?_; walk_at "rs"))
local macro_rules | `(tactic| walk_at "sd") => `(tactic| first | assumption | decide | omega)
local macro_rules | `(tactic| walk_at "rd") => `(tactic| repeat (first
  | refine ⟨_, SqL.of (by assumption), ?_⟩ | refine ⟨_, SqL.of upd_same, ?_⟩ | refine ⟨_, .inl (SqL.of (by assumption)), ?_⟩ | refine ⟨_, (by assumption : _ = some (HO.lst _)), ?_⟩ | refine ⟨_, upd_same, ?_⟩
  | refine ⟨_, rfl, ?_⟩ | refine And.intro (by walk_at "sd") ?_))
/-! ### what the head tells, as Bools -/
def oexB (K : PySem.W.Frag) (C : Addr) : Bool := (match K.lookup C with
  | some ⟨.type c, _, .cls cd, sl⟩ => (match cd.mro, sl.toList with
    | .ref C' :: bm, [_, _, _, _, some (.builtin n), _] => decide (c = "type") && (decide (C' = C) && (decide (n = "ValueError.__new__") && (!cd.hasDel && (cd.hasDict && PySem.HandSPX.refsVE bm))))
    | _, _ => false)
  | _ => false) && (He.eqO (PySem.W.findIn K (.ref C) "__setattr__") (some (some (.builtin "object.__setattr__"))) && (decide (PySem.W.subIn K (.ref C) (.type "BaseException") = some true) && (decide (PySem.W.typeIn K (.ref C) = some (.type "type")) && PySem.W.keepIn K (.ref C))))
theorem oexB_ok {K : PySem.W.Frag} {C : Addr} (h : oexB K C = true) : OexC K C := by
  obtain ⟨h1, h2⟩ := He.ba h
  obtain ⟨h3, h4⟩ := He.ba h2
  obtain ⟨h5, h6⟩ := He.ba h4
  obtain ⟨h7, h8⟩ := He.ba h6
  refine ⟨?_, He.eqO_ok h3, of_decide_eq_true h5, of_decide_eq_true h7, h8⟩
  cases e : K.lookup C with
  | none => rw [e] at h1; cases h1
  | some ob =>
    obtain ⟨oc, od, dt, osl⟩ := ob
    rw [e] at h1
    cases oc with
    | type c =>
      cases dt with
      | cls cd =>
        obtain ⟨nm, bs, mro, ns, qn, hd, sn, sb, ab, col, del⟩ := cd
        dsimp only at h1
        split at h1
        · rename_i xl C' bm k0 k1 k2 k3 n k5 es
          obtain ⟨a1, b1⟩ := He.ba h1
          obtain ⟨a2, b2⟩ := He.ba b1
          obtain ⟨a3, b3⟩ := He.ba b2
          obtain ⟨a4, b4⟩ := He.ba b3
          obtain ⟨a5, a6⟩ := He.ba b4
          have ec : c = "type" := of_decide_eq_true a1
          have eC : C' = C := of_decide_eq_true a2
          have en : n = "ValueError.__new__" := of_decide_eq_true a3
          have ed : del = false := by cases del with
            | false => rfl
            | true => cases a4
          have eh : hd = true := a5
          have eo : osl = #[k0, k1, k2, k3, some (.builtin n), k5] := by
            have := congrArg List.toArray es
            simpa using this
          subst ec eC en ed eh eo
          exact ⟨nm, qn, ns, bs, bm, sn, sb, ab, col, od, k0, k1, k2, k3, k5, rfl, a6⟩
        · cases h1
      | _ => cases h1
    | _ => cases dt <;> cases h1
def bvC (K : PySem.W.Frag) : Addr := He.ga K "BadValue"
def bvI (K : PySem.W.Frag) : Addr := He.fAd K ("BadValue", some "__init__")
def exB (K : PySem.W.Frag) : Bool := oexB K (bvC K) && (He.eqO (PySem.W.nsIn K mainGlobals "gcd") (some (some (.builtin "math.gcd"))) && (decide (PySem.W.typeIn K (.ref (bvI K)) = some (.type "function")) && (He.eqO (PySem.W.findIn K (.ref (bvC K)) "__init__") (some (some (.ref (bvI K)))) && (He.tupB K "ZERO" [.int 0, .int 1] && (He.tupB K "ONE" [.int 1, .int 1])))))
def dInit : He.DefD := ⟨("BadValue", some "__init__"), "__init__", "BadValue.__init__", defArgs s_BadValue, defBody s_BadValue, defScope s_BadValue, [], []⟩
def D_is_number : He.DefD := ⟨("is_number", none), "is_number", "is_number", defArgs s_is_number, defBody s_is_number, defScope s_is_number, [], []⟩
def D_is_fraction : He.DefD := ⟨("is_fraction", none), "is_fraction", "is_fraction", defArgs s_is_fraction, defBody s_is_fraction, defScope s_is_fraction, [], []⟩
def D_fraction : He.DefD := ⟨("fraction", none), "fraction", "fraction", defArgs s_fraction, defBody s_fraction, defScope s_fraction, [.int 1], []⟩
def D_plus : He.DefD := ⟨("plus", none), "plus", "plus", defArgs s_plus, defBody s_plus, defScope s_plus, [], []⟩
def D_minus : He.DefD := ⟨("minus", none), "minus", "minus", defArgs s_minus, defBody s_minus, defScope s_minus, [], []⟩
def D_quotient : He.DefD := ⟨("quotient", none), "quotient", "quotient", defArgs s_quotient, defBody s_quotient, defScope s_quotient, [], []⟩
def D_floor_of : He.DefD := ⟨("floor_of", none), "floor_of", "floor_of", defArgs s_floor_of, defBody s_floor_of, defScope s_floor_of, [], []⟩
def D_normal_entries : He.DefD := ⟨("normal_entries", none), "normal_entries", "normal_entries", defArgs s_normal_entries, defBody s_normal_entries, defScope s_normal_entries, [], []⟩
def D_normal_triples : He.DefD := ⟨("normal_triples", none), "normal_triples", "normal_triples", defArgs s_normal_triples, defBody s_normal_triples, defScope s_normal_triples, [], []⟩
def D_normal_part : He.DefD := ⟨("normal_part", none), "normal_part", "normal_part", defArgs s_normal_part, defBody s_normal_part, defScope s_normal_part, [], []⟩
def D_unit_of : He.DefD := ⟨("unit_of", none), "unit_of", "unit_of", defArgs s_unit_of, defBody s_unit_of, defScope s_unit_of, [], []⟩
def D_peak_units : He.DefD := ⟨("peak_units", none), "peak_units", "peak_units", defArgs s_peak_units, defBody s_peak_units, defScope s_peak_units, [], []⟩
def D__law_bag : He.DefD := ⟨("_law_bag", none), "_law_bag", "_law_bag", defArgs s__law_bag, defBody s__law_bag, defScope s__law_bag, [], []⟩
def D__law_draw : He.DefD := ⟨("_law_draw", none), "_law_draw", "_law_draw", defArgs s__law_draw, defBody s__law_draw, defScope s__law_draw, [], []⟩
def D__law_of : He.DefD := ⟨("_law_of", none), "_law_of", "_law_of", defArgs s__law_of, defBody s__law_of, defScope s__law_of, [], []⟩
def D__law_like : He.DefD := ⟨("_law_like", none), "_law_like", "_law_like", defArgs s__law_like, defBody s__law_like, defScope s__law_like, [], []⟩
def D__law_low : He.DefD := ⟨("_law_low", none), "_law_low", "_law_low", defArgs s__law_low, defBody s__law_low, defScope s__law_low, [], []⟩
def D__law_plus : He.DefD := ⟨("_law_plus", none), "_law_plus", "_law_plus", defArgs s__law_plus, defBody s__law_plus, defScope s__law_plus, [], []⟩
def D__law_times : He.DefD := ⟨("_law_times", none), "_law_times", "_law_times", defArgs s__law_times, defBody s__law_times, defScope s__law_times, [], []⟩
def D__law_over : He.DefD := ⟨("_law_over", none), "_law_over", "_law_over", defArgs s__law_over, defBody s__law_over, defScope s__law_over, [], []⟩
def D__law_minus : He.DefD := ⟨("_law_minus", none), "_law_minus", "_law_minus", defArgs s__law_minus, defBody s__law_minus, defScope s__law_minus, [], []⟩
def D__law_gap : He.DefD := ⟨("_law_gap", none), "_law_gap", "_law_gap", defArgs s__law_gap, defBody s__law_gap, defScope s__law_gap, [], []⟩
def D__law_normal : He.DefD := ⟨("_law_normal", none), "_law_normal", "_law_normal", defArgs s__law_normal, defBody s__law_normal, defScope s__law_normal, [], []⟩
def D__law_gifts : He.DefD := ⟨("_law_gifts", none), "_law_gifts", "_law_gifts", defArgs s__law_gifts, defBody s__law_gifts, defScope s__law_gifts, [], []⟩
def D__law_points : He.DefD := ⟨("_law_points", none), "_law_points", "_law_points", defArgs s__law_points, defBody s__law_points, defScope s__law_points, [], []⟩
def D__law_tent : He.DefD := ⟨("_law_tent", none), "_law_tent", "_law_tent", defArgs s__law_tent, defBody s__law_tent, defScope s__law_tent, [], []⟩
def D__law_due : He.DefD := ⟨("_law_due", none), "_law_due", "_law_due", defArgs s__law_due, defBody s__law_due, defScope s__law_due, [], []⟩
def D__law_right : He.DefD := ⟨("_law_right", none), "_law_right", "_law_right", defArgs s__law_right, defBody s__law_right, defScope s__law_right, [], []⟩
def D_law : He.DefD := ⟨("law", none), "law", "law", defArgs s_law, defBody s_law, defScope s_law, [], []⟩
def fnL : List He.DefD := [dInit, D_is_number, D_is_fraction, D_fraction, D_plus, D_minus, D_quotient, D_floor_of, D_normal_entries, D_normal_triples, D_normal_part, D_unit_of, D_peak_units, D__law_bag, D__law_draw, D__law_of, D__law_like, D__law_low, D__law_plus, D__law_times, D__law_over, D__law_minus, D__law_gap, D__law_normal, D__law_gifts, D__law_points, D__law_tent, D__law_due, D__law_right, D_law]
def faL : List He.Fa := [.free "len", .free "int", .free "list", .free "tuple", .free "bool", .free "str", .free "dict", .free "isinstance", .free "all", .free "range", .free "zip", .free "abs", .free "sorted", .free "enumerate", .glo "ZERO", .glo "ONE", .glo "BadValue", .glo "is_number", .glo "is_fraction", .glo "fraction", .glo "plus", .glo "minus", .glo "quotient", .glo "floor_of", .glo "normal_entries", .glo "normal_triples", .glo "normal_part", .glo "unit_of", .glo "peak_units", .glo "_law_bag", .glo "_law_draw", .glo "_law_of", .glo "_law_like", .glo "_law_low", .glo "_law_plus", .glo "_law_times", .glo "_law_over", .glo "_law_minus", .glo "_law_gap", .glo "_law_normal", .glo "_law_gifts", .glo "_law_points", .glo "_law_tent", .glo "_law_due", .glo "_law_right", .glo "law", .noat "BadValue" "value", .noat "BadValue" "code"]
theorem fun_ofD {K : PySem.W.Frag} {x q : Str} {st : Stmt} {f : Addr} {fd : FuncData} {kws : List (Str × V)} (F : FunD K x q (defArgs st) (defBody st) (defScope st) [] kws f fd) : Fun K x q st f fd := by
  obtain ⟨oc, od, dV, kV, doc, pm, an, cdv, ct, osl, rfl, lk, hcd, hD, _⟩ := F.ex
  rcases hD with ⟨_, rfl⟩ | ⟨e, _⟩
  · exact ⟨⟨oc, od, kV, doc, pm, an, cdv, ct, osl, rfl, lk, hcd⟩, F.kp⟩
  · exact absurd rfl e
set_option maxHeartbeats 0 in
theorem facts {P : Program} {w : World} {K : PySem.W.Frag} {h : Heap} {mg : Str → Option Value} {f : Addr} (X : K.In h) (G : h.Ns mainGlobals mg) (hfa : mg ("law" : Str) = some (.ref f)) (c : He.SaysX faL fnL [] [] exB w h K) :
    ∃ (fd : FuncData) (cs : List (Addr × Addr)) (sp : Sp), (∀ p ∈ cs, h.get? p.2 = some { cls := .none, data := .fields #[] }) ∧ (∀ p ∈ cs, K.lookup p.2 = none) ∧ (∀ p ∈ cs, PySem.W.CodeHd h p.1 p.2) ∧ (∀ (s : Shared) (u : Value), BindsTo s fd ⟨[u], []⟩ [("script", u)]) ∧
      (∀ (H : Hp) (a : Addr) (ns : List Int), ns.length ≤ 63 → (∀ z ∈ ns, Builtin.Int.intBits z ≤ 1048576) → (∀ p ∈ cs, H p.2 = some (.tbl #[])) → SqL K H a (ns.map V.int) → sp [.ref a] H (fun v _ => v = .bl true) fun _ _ _ => False) ∧
      ∀ base : Heap, K.In base → base.Ns mainGlobals mg → (∀ p ∈ cs, LamX.TabB base mg p.1 p.2) → FnOk P w K mg base CX0 10 f fd ["script"] sp := by
  have d := c.t.d
  have ex := c.more
  obtain ⟨e1, ex⟩ := He.ba ex
  obtain ⟨e2, ex⟩ := He.ba ex
  obtain ⟨e3, ex⟩ := He.ba ex
  obtain ⟨e4, ex⟩ := He.ba ex
  obtain ⟨e5, ex⟩ := He.ba ex
  have e6 := ex
  obtain ⟨d_init, FD_init⟩ := d.def_ 0 (d := dInit) rfl
  obtain ⟨d_is_number, FD_is_number⟩ := d.def_ 1 (d := D_is_number) rfl
  obtain ⟨d_is_fraction, FD_is_fraction⟩ := d.def_ 2 (d := D_is_fraction) rfl
  obtain ⟨d_fraction, FD_fraction⟩ := d.def_ 3 (d := D_fraction) rfl
  obtain ⟨d_plus, FD_plus⟩ := d.def_ 4 (d := D_plus) rfl
  obtain ⟨d_minus, FD_minus⟩ := d.def_ 5 (d := D_minus) rfl
  obtain ⟨d_quotient, FD_quotient⟩ := d.def_ 6 (d := D_quotient) rfl
  obtain ⟨d_floor_of, FD_floor_of⟩ := d.def_ 7 (d := D_floor_of) rfl
  obtain ⟨d_normal_entries, FD_normal_entries⟩ := d.def_ 8 (d := D_normal_entries) rfl
  obtain ⟨d_normal_triples, FD_normal_triples⟩ := d.def_ 9 (d := D_normal_triples) rfl
  obtain ⟨d_normal_part, FD_normal_part⟩ := d.def_ 10 (d := D_normal_part) rfl
  obtain ⟨d_unit_of, FD_unit_of⟩ := d.def_ 11 (d := D_unit_of) rfl
  obtain ⟨d_peak_units, FD_peak_units⟩ := d.def_ 12 (d := D_peak_units) rfl
  obtain ⟨d__law_bag, FD__law_bag⟩ := d.def_ 13 (d := D__law_bag) rfl
  obtain ⟨d__law_draw, FD__law_draw⟩ := d.def_ 14 (d := D__law_draw) rfl
  obtain ⟨d__law_of, FD__law_of⟩ := d.def_ 15 (d := D__law_of) rfl
  obtain ⟨d__law_like, FD__law_like⟩ := d.def_ 16 (d := D__law_like) rfl
  obtain ⟨d__law_low, FD__law_low⟩ := d.def_ 17 (d := D__law_low) rfl
  obtain ⟨d__law_plus, FD__law_plus⟩ := d.def_ 18 (d := D__law_plus) rfl
  obtain ⟨d__law_times, FD__law_times⟩ := d.def_ 19 (d := D__law_times) rfl
  obtain ⟨d__law_over, FD__law_over⟩ := d.def_ 20 (d := D__law_over) rfl
  obtain ⟨d__law_minus, FD__law_minus⟩ := d.def_ 21 (d := D__law_minus) rfl
  obtain ⟨d__law_gap, FD__law_gap⟩ := d.def_ 22 (d := D__law_gap) rfl
  obtain ⟨d__law_normal, FD__law_normal⟩ := d.def_ 23 (d := D__law_normal) rfl
  obtain ⟨d__law_gifts, FD__law_gifts⟩ := d.def_ 24 (d := D__law_gifts) rfl
  obtain ⟨d__law_points, FD__law_points⟩ := d.def_ 25 (d := D__law_points) rfl
  obtain ⟨d__law_tent, FD__law_tent⟩ := d.def_ 26 (d := D__law_tent) rfl
  obtain ⟨d__law_due, FD__law_due⟩ := d.def_ 27 (d := D__law_due) rfl
  obtain ⟨d__law_right, FD__law_right⟩ := d.def_ 28 (d := D__law_right) rfl
  obtain ⟨d_law, FD_law⟩ := d.def_ 29 (d := D_law) rfl
  have F_init : Fun K "__init__" "BadValue.__init__" s_BadValue (bvI K) d_init := fun_ofD FD_init
  have F_is_number : Fun K "is_number" "is_number" s_is_number (He.ga K "is_number") d_is_number := fun_ofD FD_is_number
  have F_is_fraction : Fun K "is_fraction" "is_fraction" s_is_fraction (He.ga K "is_fraction") d_is_fraction := fun_ofD FD_is_fraction
  have F_plus : Fun K "plus" "plus" s_plus (He.ga K "plus") d_plus := fun_ofD FD_plus
  have F_minus : Fun K "minus" "minus" s_minus (He.ga K "minus") d_minus := fun_ofD FD_minus
  have F_quotient : Fun K "quotient" "quotient" s_quotient (He.ga K "quotient") d_quotient := fun_ofD FD_quotient
  have F_floor_of : Fun K "floor_of" "floor_of" s_floor_of (He.ga K "floor_of") d_floor_of := fun_ofD FD_floor_of
  have F_normal_entries : Fun K "normal_entries" "normal_entries" s_normal_entries (He.ga K "normal_entries") d_normal_entries := fun_ofD FD_normal_entries
  have F_normal_triples : Fun K "normal_triples" "normal_triples" s_normal_triples (He.ga K "normal_triples") d_normal_triples := fun_ofD FD_normal_triples
  have F_normal_part : Fun K "normal_part" "normal_part" s_normal_part (He.ga K "normal_part") d_normal_part := fun_ofD FD_normal_part
  have F_unit_of : Fun K "unit_of" "unit_of" s_unit_of (He.ga K "unit_of") d_unit_of := fun_ofD FD_unit_of
  have F_peak_units : Fun K "peak_units" "peak_units" s_peak_units (He.ga K "peak_units") d_peak_units := fun_ofD FD_peak_units
  have F__law_bag : Fun K "_law_bag" "_law_bag" s__law_bag (He.ga K "_law_bag") d__law_bag := fun_ofD FD__law_bag
  have F__law_draw : Fun K "_law_draw" "_law_draw" s__law_draw (He.ga K "_law_draw") d__law_draw := fun_ofD FD__law_draw
  have F__law_of : Fun K "_law_of" "_law_of" s__law_of (He.ga K "_law_of") d__law_of := fun_ofD FD__law_of
  have F__law_like : Fun K "_law_like" "_law_like" s__law_like (He.ga K "_law_like") d__law_like := fun_ofD FD__law_like
  have F__law_low : Fun K "_law_low" "_law_low" s__law_low (He.ga K "_law_low") d__law_low := fun_ofD FD__law_low
  have F__law_plus : Fun K "_law_plus" "_law_plus" s__law_plus (He.ga K "_law_plus") d__law_plus := fun_ofD FD__law_plus
  have F__law_times : Fun K "_law_times" "_law_times" s__law_times (He.ga K "_law_times") d__law_times := fun_ofD FD__law_times
  have F__law_over : Fun K "_law_over" "_law_over" s__law_over (He.ga K "_law_over") d__law_over := fun_ofD FD__law_over
  have F__law_minus : Fun K "_law_minus" "_law_minus" s__law_minus (He.ga K "_law_minus") d__law_minus := fun_ofD FD__law_minus
  have F__law_gap : Fun K "_law_gap" "_law_gap" s__law_gap (He.ga K "_law_gap") d__law_gap := fun_ofD FD__law_gap
  have F__law_normal : Fun K "_law_normal" "_law_normal" s__law_normal (He.ga K "_law_normal") d__law_normal := fun_ofD FD__law_normal
  have F__law_gifts : Fun K "_law_gifts" "_law_gifts" s__law_gifts (He.ga K "_law_gifts") d__law_gifts := fun_ofD FD__law_gifts
  have F__law_points : Fun K "_law_points" "_law_points" s__law_points (He.ga K "_law_points") d__law_points := fun_ofD FD__law_points
  have F__law_tent : Fun K "_law_tent" "_law_tent" s__law_tent (He.ga K "_law_tent") d__law_tent := fun_ofD FD__law_tent
  have F__law_due : Fun K "_law_due" "_law_due" s__law_due (He.ga K "_law_due") d__law_due := fun_ofD FD__law_due
  have F__law_right : Fun K "_law_right" "_law_right" s__law_right (He.ga K "_law_right") d__law_right := fun_ofD FD__law_right
  have F_law : Fun K "law" "law" s_law (He.ga K "law") d_law := fun_ofD FD_law
  have b_init := F_init.binds (ps := ["self", "value"]) fun _ _ _ _ _ _ us hl => match us, hl with | [_, _], _ => rfl
  have b_is_number := F_is_number.binds (ps := ["value"]) fun _ _ _ _ _ _ us hl => match us, hl with | [_], _ => rfl
  have b_is_fraction := F_is_fraction.binds (ps := ["value"]) fun _ _ _ _ _ _ us hl => match us, hl with | [_], _ => rfl
  have b_plus := F_plus.binds (ps := ["a", "b"]) fun _ _ _ _ _ _ us hl => match us, hl with | [_, _], _ => rfl
  have b_minus := F_minus.binds (ps := ["a", "b"]) fun _ _ _ _ _ _ us hl => match us, hl with | [_, _], _ => rfl
  have b_quotient := F_quotient.binds (ps := ["a", "b"]) fun _ _ _ _ _ _ us hl => match us, hl with | [_, _], _ => rfl
  have b_floor_of := F_floor_of.binds (ps := ["a"]) fun _ _ _ _ _ _ us hl => match us, hl with | [_], _ => rfl
  have b_normal_entries := F_normal_entries.binds (ps := ["entries"]) fun _ _ _ _ _ _ us hl => match us, hl with | [_], _ => rfl
  have b_normal_triples := F_normal_triples.binds (ps := ["triples"]) fun _ _ _ _ _ _ us hl => match us, hl with | [_], _ => rfl
  have b_normal_part := F_normal_part.binds (ps := ["kind", "part"]) fun _ _ _ _ _ _ us hl => match us, hl with | [_, _], _ => rfl
  have b_unit_of := F_unit_of.binds (ps := ["columns", "rest", "steep", "shift", "givings"]) fun _ _ _ _ _ _ us hl => match us, hl with | [_, _, _, _, _], _ => rfl
  have b_peak_units := F_peak_units.binds (ps := ["points", "scratch", "rest"]) fun _ _ _ _ _ _ us hl => match us, hl with | [_, _, _], _ => rfl
  have b__law_bag := F__law_bag.binds (ps := ["script"]) fun _ _ _ _ _ _ us hl => match us, hl with | [_], _ => rfl
  have b__law_draw := F__law_draw.binds (ps := ["bag", "size"]) fun _ _ _ _ _ _ us hl => match us, hl with | [_, _], _ => rfl
  have b__law_of := F__law_of.binds (ps := ["bag", "things"]) fun _ _ _ _ _ _ us hl => match us, hl with | [_, _], _ => rfl
  have b__law_like := F__law_like.binds (ps := ["got", "due"]) fun _ _ _ _ _ _ us hl => match us, hl with | [_, _], _ => rfl
  have b__law_low := F__law_low.binds (ps := ["top", "low"]) fun _ _ _ _ _ _ us hl => match us, hl with | [_, _], _ => rfl
  have b__law_plus := F__law_plus.binds (ps := ["one", "two"]) fun _ _ _ _ _ _ us hl => match us, hl with | [_, _], _ => rfl
  have b__law_times := F__law_times.binds (ps := ["one", "two"]) fun _ _ _ _ _ _ us hl => match us, hl with | [_, _], _ => rfl
  have b__law_over := F__law_over.binds (ps := ["one", "two"]) fun _ _ _ _ _ _ us hl => match us, hl with | [_, _], _ => rfl
  have b__law_minus := F__law_minus.binds (ps := ["one", "two"]) fun _ _ _ _ _ _ us hl => match us, hl with | [_, _], _ => rfl
  have b__law_gap := F__law_gap.binds (ps := ["one", "two"]) fun _ _ _ _ _ _ us hl => match us, hl with | [_, _], _ => rfl
  have b__law_normal := F__law_normal.binds (ps := ["things"]) fun _ _ _ _ _ _ us hl => match us, hl with | [_], _ => rfl
  have b__law_gifts := F__law_gifts.binds (ps := ["units", "content"]) fun _ _ _ _ _ _ us hl => match us, hl with | [_, _], _ => rfl
  have b__law_points := F__law_points.binds (ps := ["bag"]) fun _ _ _ _ _ _ us hl => match us, hl with | [_], _ => rfl
  have b__law_tent := F__law_tent.binds (ps := ["low", "top", "high", "at"]) fun _ _ _ _ _ _ us hl => match us, hl with | [_, _, _, _], _ => rfl
  have b__law_due := F__law_due.binds (ps := ["some", "levels", "at"]) fun _ _ _ _ _ _ us hl => match us, hl with | [_, _, _], _ => rfl
  have b__law_right := F__law_right.binds (ps := ["bag"]) fun _ _ _ _ _ _ us hl => match us, hl with | [_], _ => rfl
  have b_law := F_law.binds (ps := ["script"]) fun _ _ _ _ _ _ us hl => match us, hl with | [_], _ => rfl
  have b_fraction : Binds K d_fraction ["p", "q"] [] := by
    obtain ⟨ds, hv, hb⟩ := FunD.binds1 (ps := ["p", "q"]) FD_fraction 2 1 (List.cons_ne_nil _ _) rfl fun _ _ _ _ _ _ _ us its h1 h2 => match us, its, h1, h2 with | [_, _], [_], _, _ => ⟨_, rfl, rfl⟩
    cases hv
    exact hb
  have dfl_fraction : ∃ ds, Vals [.int 1] ds ∧ Binds K d_fraction ["p", "q"] ds := FunD.binds1 (ps := ["p", "q"]) FD_fraction 1 0 (List.cons_ne_nil _ _) rfl fun _ _ _ _ _ _ _ us its h1 h2 => match us, its, h1, h2 with | [_], [_], _, _ => ⟨_, rfl, rfl⟩
  let T : Txt w K mg := {
    n_len := He.free_ok X G (d.fact 0 (f := .free "len") rfl)
    n_int := He.free_ok X G (d.fact 1 (f := .free "int") rfl)
    n_list := He.free_ok X G (d.fact 2 (f := .free "list") rfl)
    n_tuple := He.free_ok X G (d.fact 3 (f := .free "tuple") rfl)
    n_bool := He.free_ok X G (d.fact 4 (f := .free "bool") rfl)
    n_str := He.free_ok X G (d.fact 5 (f := .free "str") rfl)
    n_dict := He.free_ok X G (d.fact 6 (f := .free "dict") rfl)
    n_isinstance := He.free_ok X G (d.fact 7 (f := .free "isinstance") rfl)
    n_all := He.free_ok X G (d.fact 8 (f := .free "all") rfl)
    n_range := He.free_ok X G (d.fact 9 (f := .free "range") rfl)
    n_zip := He.free_ok X G (d.fact 10 (f := .free "zip") rfl)
    n_abs := He.free_ok X G (d.fact 11 (f := .free "abs") rfl)
    n_sorted := He.free_ok X G (d.fact 12 (f := .free "sorted") rfl)
    n_enumerate := He.free_ok X G (d.fact 13 (f := .free "enumerate") rfl)
    m_gcd := PySem.W.mg_of X G (He.eqO_ok e2)
    a_ZERO := He.ga K "ZERO"
    m_ZERO := He.glo_ok X G (d.fact 14 (f := .glo "ZERO") rfl)
    s_ZERO := fun H => He.tupB_ok e5 H
    a_ONE := He.ga K "ONE"
    m_ONE := He.glo_ok X G (d.fact 15 (f := .glo "ONE") rfl)
    s_ONE := fun H => He.tupB_ok e6 H
    C_BadValue := bvC K
    f_BadValue := bvI K
    d_BadValue := d_init
    m_BadValue := He.glo_ok X G (d.fact 16 (f := .glo "BadValue") rfl)
    X_BadValue := oexB_ok e1
    i_BadValue := He.eqO_ok e4
    t_BadValue := of_decide_eq_true e3
    F_BadValue := F_init
    B_BadValue__init := b_init
    v_BadValue := He.noat_ok (d.fact 46 (f := .noat "BadValue" "value") rfl)
    c_BadValue := He.noat_ok (d.fact 47 (f := .noat "BadValue" "code") rfl)
    a_is_number := He.ga K "is_number"
    d_is_number := d_is_number
    F_is_number := F_is_number
    m_is_number := He.glo_ok X G (d.fact 17 (f := .glo "is_number") rfl)
    B_is_number := b_is_number
    a_is_fraction := He.ga K "is_fraction"
    d_is_fraction := d_is_fraction
    F_is_fraction := F_is_fraction
    m_is_fraction := He.glo_ok X G (d.fact 18 (f := .glo "is_fraction") rfl)
    B_is_fraction := b_is_fraction
    a_fraction := He.ga K "fraction"
    d_fraction := d_fraction
    F_fraction := FD_fraction
    m_fraction := He.glo_ok X G (d.fact 19 (f := .glo "fraction") rfl)
    B_fraction := b_fraction
    a_plus := He.ga K "plus"
    d_plus := d_plus
    F_plus := F_plus
    m_plus := He.glo_ok X G (d.fact 20 (f := .glo "plus") rfl)
    B_plus := b_plus
    a_minus := He.ga K "minus"
    d_minus := d_minus
    F_minus := F_minus
    m_minus := He.glo_ok X G (d.fact 21 (f := .glo "minus") rfl)
    B_minus := b_minus
    a_quotient := He.ga K "quotient"
    d_quotient := d_quotient
    F_quotient := F_quotient
    m_quotient := He.glo_ok X G (d.fact 22 (f := .glo "quotient") rfl)
    B_quotient := b_quotient
    a_floor_of := He.ga K "floor_of"
    d_floor_of := d_floor_of
    F_floor_of := F_floor_of
    m_floor_of := He.glo_ok X G (d.fact 23 (f := .glo "floor_of") rfl)
    B_floor_of := b_floor_of
    a_normal_entries := He.ga K "normal_entries"
    d_normal_entries := d_normal_entries
    F_normal_entries := F_normal_entries
    m_normal_entries := He.glo_ok X G (d.fact 24 (f := .glo "normal_entries") rfl)
    B_normal_entries := b_normal_entries
    a_normal_triples := He.ga K "normal_triples"
    d_normal_triples := d_normal_triples
    F_normal_triples := F_normal_triples
    m_normal_triples := He.glo_ok X G (d.fact 25 (f := .glo "normal_triples") rfl)
    B_normal_triples := b_normal_triples
    a_normal_part := He.ga K "normal_part"
    d_normal_part := d_normal_part
    F_normal_part := F_normal_part
    m_normal_part := He.glo_ok X G (d.fact 26 (f := .glo "normal_part") rfl)
    B_normal_part := b_normal_part
    a_unit_of := He.ga K "unit_of"
    d_unit_of := d_unit_of
    F_unit_of := F_unit_of
    m_unit_of := He.glo_ok X G (d.fact 27 (f := .glo "unit_of") rfl)
    B_unit_of := b_unit_of
    a_peak_units := He.ga K "peak_units"
    d_peak_units := d_peak_units
    F_peak_units := F_peak_units
    m_peak_units := He.glo_ok X G (d.fact 28 (f := .glo "peak_units") rfl)
    B_peak_units := b_peak_units
    a__law_bag := He.ga K "_law_bag"
    d__law_bag := d__law_bag
    F__law_bag := F__law_bag
    m__law_bag := He.glo_ok X G (d.fact 29 (f := .glo "_law_bag") rfl)
    B__law_bag := b__law_bag
    a__law_draw := He.ga K "_law_draw"
    d__law_draw := d__law_draw
    F__law_draw := F__law_draw
    m__law_draw := He.glo_ok X G (d.fact 30 (f := .glo "_law_draw") rfl)
    B__law_draw := b__law_draw
    a__law_of := He.ga K "_law_of"
    d__law_of := d__law_of
    F__law_of := F__law_of
    m__law_of := He.glo_ok X G (d.fact 31 (f := .glo "_law_of") rfl)
    B__law_of := b__law_of
    a__law_like := He.ga K "_law_like"
    d__law_like := d__law_like
    F__law_like := F__law_like
    m__law_like := He.glo_ok X G (d.fact 32 (f := .glo "_law_like") rfl)
    B__law_like := b__law_like
    a__law_low := He.ga K "_law_low"
    d__law_low := d__law_low
    F__law_low := F__law_low
    m__law_low := He.glo_ok X G (d.fact 33 (f := .glo "_law_low") rfl)
    B__law_low := b__law_low
    a__law_plus := He.ga K "_law_plus"
    d__law_plus := d__law_plus
    F__law_plus := F__law_plus
    m__law_plus := He.glo_ok X G (d.fact 34 (f := .glo "_law_plus") rfl)
    B__law_plus := b__law_plus
    a__law_times := He.ga K "_law_times"
    d__law_times := d__law_times
    F__law_times := F__law_times
    m__law_times := He.glo_ok X G (d.fact 35 (f := .glo "_law_times") rfl)
    B__law_times := b__law_times
    a__law_over := He.ga K "_law_over"
    d__law_over := d__law_over
    F__law_over := F__law_over
    m__law_over := He.glo_ok X G (d.fact 36 (f := .glo "_law_over") rfl)
    B__law_over := b__law_over
    a__law_minus := He.ga K "_law_minus"
    d__law_minus := d__law_minus
    F__law_minus := F__law_minus
    m__law_minus := He.glo_ok X G (d.fact 37 (f := .glo "_law_minus") rfl)
    B__law_minus := b__law_minus
    a__law_gap := He.ga K "_law_gap"
    d__law_gap := d__law_gap
    F__law_gap := F__law_gap
    m__law_gap := He.glo_ok X G (d.fact 38 (f := .glo "_law_gap") rfl)
    B__law_gap := b__law_gap
    a__law_normal := He.ga K "_law_normal"
    d__law_normal := d__law_normal
    F__law_normal := F__law_normal
    m__law_normal := He.glo_ok X G (d.fact 39 (f := .glo "_law_normal") rfl)
    B__law_normal := b__law_normal
    a__law_gifts := He.ga K "_law_gifts"
    d__law_gifts := d__law_gifts
    F__law_gifts := F__law_gifts
    m__law_gifts := He.glo_ok X G (d.fact 40 (f := .glo "_law_gifts") rfl)
    B__law_gifts := b__law_gifts
    a__law_points := He.ga K "_law_points"
    d__law_points := d__law_points
    F__law_points := F__law_points
    m__law_points := He.glo_ok X G (d.fact 41 (f := .glo "_law_points") rfl)
    B__law_points := b__law_points
    a__law_tent := He.ga K "_law_tent"
    d__law_tent := d__law_tent
    F__law_tent := F__law_tent
    m__law_tent := He.glo_ok X G (d.fact 42 (f := .glo "_law_tent") rfl)
    B__law_tent := b__law_tent
    a__law_due := He.ga K "_law_due"
    d__law_due := d__law_due
    F__law_due := F__law_due
    m__law_due := He.glo_ok X G (d.fact 43 (f := .glo "_law_due") rfl)
    B__law_due := b__law_due
    a__law_right := He.ga K "_law_right"
    d__law_right := d__law_right
    F__law_right := F__law_right
    m__law_right := He.glo_ok X G (d.fact 44 (f := .glo "_law_right") rfl)
    B__law_right := b__law_right
    a_law := He.ga K "law"
    d_law := d_law
    F_law := F_law
    m_law := He.glo_ok X G (d.fact 45 (f := .glo "law") rfl)
    B_law := b_law
    D_fraction := dfl_fraction
    Z_peak_units := kb_of F_peak_units (n := 0) (ks := ["rest", "scratch", "points"]) (ps := ["points", "scratch", "rest"]) (fun _ ws => rv3 ws) (fun _ h => rv3_rel h) fun _ _ _ _ _ _ us ws h1 h2 => match us, ws, h1, h2 with | [], [_, _, _], _, _ => rfl
  }
  have ef : f = He.ga K "law" := by
    have e := hfa.symm.trans T.m_law
    cases e
    rfl
  refine ⟨d_law, [], sp_law K, fun p hp => absurd hp (by simp), fun p hp => absurd hp (by simp), fun p hp => absurd hp (by simp), fun s u => FunD.bindsA (ps := ["script"]) FD_law (fun _ _ _ _ _ _ us hl => match us, hl with | [_], _ => rfl) s [u] rfl, fun H a ns hl _ hT hS => ⟨a, ns, rfl, hS, hl, fun _ => rfl⟩, fun base _ _ hB => ?_⟩
  rw [ef]
  exact ok_law (P := P) (base := base) T
/-! ### the head's run -/
abbrev R : PySem.W.OpenRow := PySem.W.OpenLaw.row PySem.Challenge.rw_lookingnets_k27_peaks_at_points
abbrev hk : PySem.W.Hook := He.hookX 6 faL fnL [] [] exB
def ob (s : PySem.W.SharedT) : He.AlX := He.obsX 6 faL fnL [] [] exB (HandSHeadRun.getT s)
theorem ob_eq (s : PySem.W.SharedT) : ob s = hk.obs s.abs := He.obsX_eq (HandSHeadRun.getT_eq s)
def loose : List Str := (["NetError", "BadValue", "ZERO", "ONE", "is_number", "is_fraction", "fraction", "plus", "minus", "quotient", "floor_of", "normal_entries", "normal_triples", "normal_part", "unit_of", "peak_units"] : List Str) ++ (["_law_bag", "_law_draw", "_law_of", "_law_like", "_law_low", "_law_plus", "_law_times", "_law_over", "_law_minus", "_law_gap", "_law_normal", "_law_gifts", "_law_points", "_law_tent", "_law_due", "_law_right"] : List Str)
set_option maxHeartbeats 0 in
theorem run (w : World) : HandSHeadRun.RunEqI R (PySem.W.view R.prog [0, 38]) hk ob 20000 loose w := by
  unfold HandSHeadRun.RunEqI
  kernel_rfl
end LK

open PySem PySem.W PySem.Calls PyProof.Rows
set_option maxRecDepth 100000 in
set_option maxHeartbeats 0 in
theorem PySem.Challenge.cw_lookingnets_k27_peaks_at_points_holds : PySem.Challenge.rw_lookingnets_k27_peaks_at_points.Holds := by
  w_on; o_law
  refine HandSHeadRun.head_imp (r := OpenLaw.row PySem.Challenge.rw_lookingnets_k27_peaks_at_points) (q := view (OpenLaw.row PySem.Challenge.rw_lookingnets_k27_peaks_at_points).prog [0, 38]) (H := LK.hk) (ob := LK.ob) (M := 20000) (loose := LK.loose) (d := HandSHeadRun.topDef (OpenLaw.row PySem.Challenge.rw_lookingnets_k27_peaks_at_points).prog 38) (kwd := []) LK.ob_eq
    LK.run (by kernel_rfl) (by kernel_rfl) (by kernel_rfl) (by rfl) (by first | assumption | decide +kernel) (by decide +kernel) ⟨rfl, rfl, rfl, rfl, rfl, by decide +kernel⟩ ?hw ?hc
  case hw => w_witness2
  case hc =>
    refine LamX.walk_ofTsE (l := PySem.Challenge.rw_lookingnets_k27_peaks_at_points) (n := 63) (k := 10) (x := "script") (CX := fun _ => L2.CX0) rfl (by decide) (by kernel_rfl) ⟨rfl, by decide, by decide⟩ ?F (fun _ _ _ _ _ z => z)
    intro w mg fa h Y G hmg0
    obtain ⟨K, KX, c⟩ := Y
    have hmg : mg ("law" : PySem.Str) = some (.ref fa) := by
      have e : (HandSHeadRun.topDef (OpenLaw.row PySem.Challenge.rw_lookingnets_k27_peaks_at_points).prog 38).name = ("law" : PySem.Str) := by kernel_rfl
      rw [← e]
      exact hmg0
    exact ⟨K, KX, LK.facts KX G hmg c⟩
